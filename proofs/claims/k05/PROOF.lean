import PyProof.Rows.All
import Wide.All
import OpenK.AllK
import Wide.FinOn
import HandS.AnyAll
import HandS.GenOver
import HandS.GenBody
import HandS.GenYield
import HandS.GenList
import HandS.Deep
import HandS.Text
import HandS.TupAny
import HandS.Iter
import HandS.WordsExc
import HandS.ExcOwn
import KE.KExcSuper
import HandS.ExcInit
import HandS.ExcSuper
import HandS.FStr
import HandS.RaiseMore
import HandS.Exc
import HandS.ExcField
import HandS.ExcIs
import KE.KExcIs
import KE.KStateDown
import KE.KNestM
import HandS.Ends
import HandS.More
import HandS.Words
import HandS.Defaults
import HandS.Head0
import HandS.Head1
import HandS.Head2
import HandS.HeadEnd
import HandS.HeadHook1
import HandS.HeadHook2
import HandS.HeadHook3
import HandS.HeadHook4
import HandS.HeadWalk
import HandS.EndTab
import HandS.Base
import HandS.Call
import HandS.List
import HandS.Comp
import HandS.WordsList
import HandS.Wide
import HandS.Codes
import HandS.Strs
import HandS.Rev
import HandS.RevRange
import HandS.Walk
import HandS.Conv
import HandS.IsInst
import HandS.TupLe
import PyProof.StrLaws
import PySem.Challenge.RW_oncefolded_k05_tokens
set_option Elab.async false
set_option linter.all false
set_option maxRecDepth 100000
set_option maxHeartbeats 1500000
/-! ## What is the same in every program: heaps that keep, data -/
namespace Ver
open PySem L2
/-- all that was tracked is as it was, but for the list at t -/
def But (t : Addr) (H H' : Hp) : Prop := ∀ b o, b ≠ t → H b = some o → H' b = some o
theorem But.refl {t : Addr} (H : Hp) : But t H H := fun _ _ _ h => h
theorem But.trans {t : Addr} {H H1 H2 : Hp} (a : But t H H1) (b : But t H1 H2) : But t H H2 := fun c o n h => b c o n (a c o n h)
theorem But.of {t : Addr} {H H' : Hp} (a : Same H H') : But t H H' := fun c o _ h => a c o h
theorem But.wr {t : Addr} {H : Hp} {o : HO} : But t H (upd H t o) := fun b u n h => by rw [upd_ne n]; exact h
theorem same_new {H : Hp} {p : Addr} (h : H p = none) (o : HO) : Same H (upd H p o) := fun b u q => by rw [upd_ne (ne_of_none q h)]; exact q
theorem But.seq {K : PySem.W.Frag} {t : Addr} {H H' : Hp} {a : Addr} {xs : List V} (e : But t H H') (n : a ≠ t) (h : SqL K H a xs) : SqL K H' a xs := by
  rcases h with (h | ⟨o, h⟩) | h
  · exact .inl (.inl (e _ _ n h))
  · exact .inl (.inr ⟨o, e _ _ n h⟩)
  · exact .inr h
theorem But.free {t : Addr} {H H' : Hp} (e : But t H H') {l : Addr} (n : l ≠ t) (h : H' l = none) : H l = none := by
  cases q : H l with
  | none => rfl
  | some o =>
    rw [e l o n q] at h
    cases h
theorem room5 {n : Nat} (h : n ≤ 1000) : n ≤ sizeLine := Nat.le_of_lt (small1000 h)
theorem But.put {t D : Addr} {H H' : Hp} {o : HO} (e : But t H H') (h : H D = none) : But t H (upd H' D o) := fun b u n q => by
  rw [upd_ne (ne_of_none q h)]
  exact e b u n q
theorem same_put {D : Addr} {H H' : Hp} {o : HO} (e : Same H H') (h : H D = none) : Same H (upd H' D o) := fun b u q => by
  rw [upd_ne (ne_of_none q h)]
  exact e b u q
/-- the tape of a law: a list at t that holds the script's own copy, at l, and four numbers -/
structure Tape (H : Hp) (t l : Addr) : Prop where
  cells : ∃ ns : List Int, H l = some (.lst (ns.map V.int))
  head : ∃ p v s b : Int, 0 ≤ p ∧ H t = some (.lst [.ref l, .int p, .int v, .int s, .int b])
  ne : l ≠ t
theorem Tape.same {H H' : Hp} {t l : Addr} (h : Tape H t l) (e : Same H H') : Tape H' t l := by
  obtain ⟨⟨ns, h1⟩, ⟨p, v, s, b, h2, h3⟩, h4⟩ := h
  exact ⟨⟨ns, e _ _ h1⟩, ⟨p, v, s, b, h2, e _ _ h3⟩, h4⟩
theorem Tape.nt {H : Hp} {t l a : Addr} (h : Tape H t l) (q : H a = none) : a ≠ t := by
  obtain ⟨_, ⟨p, v, s, b, _, h1⟩, _⟩ := h
  exact fun e => ne_of_none h1 q e.symm
theorem Tape.nl {H : Hp} {t l a : Addr} (h : Tape H t l) (q : H a = none) : a ≠ l := by
  obtain ⟨⟨ns, h1⟩, _, _⟩ := h
  exact fun e => ne_of_none h1 q e.symm
theorem Tape.put {H : Hp} {t l a : Addr} {o : HO} (h : Tape H t l) (q1 : a ≠ t) (q2 : a ≠ l) : Tape (upd H a o) t l := by
  obtain ⟨⟨ns, h1⟩, ⟨p, v, s, b, h2, h3⟩, h4⟩ := h
  exact ⟨⟨ns, by rw [upd_ne fun e => q2 e.symm]; exact h1⟩, ⟨p, v, s, b, h2, by rw [upd_ne fun e => q1 e.symm]; exact h3⟩, h4⟩
end Ver

/-! ## Data: bools, ints, texts, tuples of data, as they stand in a heap -/
namespace Ver
open PySem L2
mutual
def Dv (H : Hp) : V → PyData → Prop
  | v, .none => v = .non
  | v, .bool b => v = .bl b
  | v, .int i => v = .int i
  | v, .str x => v = .str x
  | v, .tuple ds => ∃ a xs, v = .ref a ∧ H a = some (.tup xs) ∧ DvAll H xs ds
  | _, .list _ => False
  | _, .dict _ => False
def DvAll (H : Hp) : List V → List PyData → Prop
  | xs, [] => xs = []
  | xs, d :: ds => ∃ x r, xs = x :: r ∧ Dv H x d ∧ DvAll H r ds
end
/-- the tuples are as they were -/
def KeepT (H H' : Hp) : Prop := ∀ a xs, H a = some (.tup xs) → H' a = some (.tup xs)
theorem KeepT.of {H H' : Hp} (e : Same H H') : KeepT H H' := fun a _ h => e a _ h
theorem But.keepT {t l : Addr} {H H' : Hp} (e : But t H H') (h : Tape H t l) : KeepT H H' := fun a xs q => e a _ (fun z => by
  obtain ⟨_, ⟨p, v, s, b, _, h1⟩, _⟩ := h
  rw [z, h1] at q
  cases q) q
mutual
theorem Dv.keep {H H' : Hp} (e : KeepT H H') : ∀ (d : PyData) (v : V), Dv H v d → Dv H' v d
  | .none, _, h => h
  | .bool _, _, h => h
  | .int _, _, h => h
  | .str _, _, h => h
  | .tuple ds, _, h => by
    unfold Dv at h ⊢
    obtain ⟨a, xs, h1, h2, h3⟩ := h
    exact ⟨a, xs, h1, e _ _ h2, DvAll.keep e ds xs h3⟩
  | .list _, _, h => by unfold Dv at h; exact h.elim
  | .dict _, _, h => by unfold Dv at h; exact h.elim
theorem DvAll.keep {H H' : Hp} (e : KeepT H H') : ∀ (ds : List PyData) (xs : List V), DvAll H xs ds → DvAll H' xs ds
  | [], _, h => h
  | d :: ds, _, h => by
    unfold DvAll at h ⊢
    obtain ⟨x, r, h1, h2, h3⟩ := h
    exact ⟨x, r, h1, Dv.keep e d x h2, DvAll.keep e ds r h3⟩
end
mutual
theorem Dv.dp {K : PySem.W.Frag} {H : Hp} : ∀ (d : PyData) (v : V), Dv H v d → Dp K H v d
  | .none, _, h => by unfold Dv at h; subst h; exact .non
  | .bool _, _, h => by unfold Dv at h; subst h; exact .bl _
  | .int _, _, h => by unfold Dv at h; subst h; exact .int _
  | .str _, _, h => by unfold Dv at h; subst h; exact .str _
  | .tuple ds, _, h => by
    unfold Dv at h
    obtain ⟨a, xs, rfl, h2, h3⟩ := h
    exact .tup (SqT.of h2) (DvAll.dp ds xs h3)
  | .list _, _, h => by unfold Dv at h; exact h.elim
  | .dict _, _, h => by unfold Dv at h; exact h.elim
theorem DvAll.dp {K : PySem.W.Frag} {H : Hp} : ∀ (ds : List PyData) (xs : List V), DvAll H xs ds → DpAll K H xs ds
  | [], _, h => by unfold DvAll at h; subst h; exact .nil
  | d :: ds, _, h => by
    unfold DvAll at h
    obtain ⟨x, r, rfl, h2, h3⟩ := h
    exact .cons (Dv.dp d x h2) (DvAll.dp ds r h3)
end
theorem DvAll.get {H : Hp} : ∀ {ds : List PyData} {xs : List V} {j : Nat} {d : PyData}, DvAll H xs ds → ds[j]? = some d → ∃ x, xs[j]? = some x ∧ Dv H x d
  | [], _, _, _, _, e => by simp at e
  | d0 :: ds, _, 0, d, h, e => by
    unfold DvAll at h
    obtain ⟨x, r, rfl, h2, _⟩ := h
    have : d0 = d := by simpa using e
    subst this
    exact ⟨x, rfl, h2⟩
  | d0 :: ds, _, j + 1, d, h, e => by
    unfold DvAll at h
    obtain ⟨x, r, rfl, _, h3⟩ := h
    obtain ⟨y, e1, e2⟩ := DvAll.get (j := j) (d := d) h3 (by simpa using e)
    exact ⟨y, by simpa using e1, e2⟩
theorem DvAll.length {H : Hp} : ∀ {ds : List PyData} {xs : List V}, DvAll H xs ds → xs.length = ds.length
  | [], _, h => by unfold DvAll at h; subst h; rfl
  | _ :: ds, _, h => by
    unfold DvAll at h
    obtain ⟨x, r, rfl, _, h3⟩ := h
    rw [List.length_cons, List.length_cons, DvAll.length h3]
theorem DvAll.append {H : Hp} : ∀ {ds es : List PyData} {xs ys : List V}, DvAll H xs ds → DvAll H ys es → DvAll H (xs ++ ys) (ds ++ es)
  | [], _, _, _, h, k => by unfold DvAll at h; subst h; exact k
  | _ :: ds, _, _, _, h, k => by
    unfold DvAll at h
    obtain ⟨x, r, rfl, h2, h3⟩ := h
    show DvAll H (x :: (r ++ _)) (_ :: (ds ++ _))
    unfold DvAll
    exact ⟨x, _, rfl, h2, DvAll.append h3 k⟩
theorem DvAll.take {H : Hp} : ∀ {ds : List PyData} {xs : List V} (n : Nat), DvAll H xs ds → DvAll H (xs.take n) (ds.take n)
  | _, _, 0, _ => by rw [List.take_zero, List.take_zero]; unfold DvAll; rfl
  | [], _, n + 1, h => by unfold DvAll at h; subst h; rw [List.take_nil, List.take_nil]; unfold DvAll; rfl
  | _ :: ds, _, n + 1, h => by
    unfold DvAll at h
    obtain ⟨x, r, rfl, h2, h3⟩ := h
    rw [List.take_succ_cons, List.take_succ_cons]
    unfold DvAll
    exact ⟨x, _, rfl, h2, DvAll.take n h3⟩
theorem DvAll.nil {H : Hp} : DvAll H [] [] := by unfold DvAll; rfl
theorem DvAll.cons {H : Hp} {x : V} {xs : List V} {d : PyData} {ds : List PyData} (a : Dv H x d) (b : DvAll H xs ds) : DvAll H (x :: xs) (d :: ds) := by
  unfold DvAll
  exact ⟨x, xs, rfl, a, b⟩
theorem Dv.tup {H : Hp} {a : Addr} {xs : List V} {ds : List PyData} (h : H a = some (.tup xs)) (k : DvAll H xs ds) : Dv H (.ref a) (.tuple ds) := by
  unfold Dv
  exact ⟨a, xs, rfl, h, k⟩
theorem Dv.of_tup {H : Hp} {v : V} {ds : List PyData} (h : Dv H v (.tuple ds)) : ∃ a xs, v = .ref a ∧ H a = some (.tup xs) ∧ DvAll H xs ds := by
  unfold Dv at h
  exact h
theorem Dv.of_bool {H : Hp} {v : V} {b : Bool} (h : Dv H v (.bool b)) : v = .bl b := by unfold Dv at h; exact h
theorem Dv.of_int {H : Hp} {v : V} {b : Int} (h : Dv H v (.int b)) : v = .int b := by unfold Dv at h; exact h
theorem Dv.of_str {H : Hp} {v : V} {b : Str} (h : Dv H v (.str b)) : v = .str b := by unfold Dv at h; exact h
theorem Dv.bool {H : Hp} {b : Bool} : Dv H (.bl b) (.bool b) := by unfold Dv; rfl
theorem Dv.int {H : Hp} {b : Int} : Dv H (.int b) (.int b) := by unfold Dv; rfl
theorem Dv.str {H : Hp} {b : Str} : Dv H (.str b) (.str b) := by unfold Dv; rfl
theorem Dv.non {H : Hp} : Dv H .non .none := by unfold Dv; rfl
/-- the class of a datum -/
def dTy : PyData → String
  | .none => "NoneType" | .bool _ => "bool" | .int _ => "int" | .str _ => "str" | .tuple _ => "tuple" | .list _ => "list" | .dict _ => "dict"
theorem Dv.ty {K : PySem.W.Frag} {H : Hp} : ∀ {d : PyData} {v : V}, Dv H v d → TyX K H v (.type (dTy d))
  | .none, _, h => by unfold Dv at h; subst h; exact .base .non
  | .bool _, _, h => by unfold Dv at h; subst h; exact .base (.bl _)
  | .int _, _, h => by unfold Dv at h; subst h; exact .base (.int _)
  | .str _, _, h => by unfold Dv at h; subst h; exact .base (.str _)
  | .tuple ds, _, h => by
    unfold Dv at h
    obtain ⟨a, xs, rfl, h2, h3⟩ := h
    exact .base (.tup h2)
  | .list _, _, h => by unfold Dv at h; exact h.elim
  | .dict _, _, h => by unfold Dv at h; exact h.elim
def isTup : PyData → Bool
  | .tuple _ => true
  | _ => false
def isBool : PyData → Bool
  | .bool _ => true
  | _ => false
def isInt : PyData → Bool
  | .int _ => true
  | .bool _ => true
  | _ => false
def isStr : PyData → Bool
  | .str _ => true
  | _ => false
theorem kit_tup {K : PySem.W.Frag} (d : PyData) : PySem.W.kitOne K (.type (dTy d)) (.type "tuple") = some (isTup d) := by cases d <;> simp only [dTy, isTup] <;> exact kit_ty (by decide +kernel)
theorem kit_bool {K : PySem.W.Frag} (d : PyData) : PySem.W.kitOne K (.type (dTy d)) (.type "bool") = some (isBool d) := by cases d <;> simp only [dTy, isBool] <;> exact kit_ty (by decide +kernel)
theorem kit_int {K : PySem.W.Frag} (d : PyData) : PySem.W.kitOne K (.type (dTy d)) (.type "int") = some (isInt d) := by cases d <;> simp only [dTy, isInt] <;> exact kit_ty (by decide +kernel)
theorem kit_str {K : PySem.W.Frag} (d : PyData) : PySem.W.kitOne K (.type (dTy d)) (.type "str") = some (isStr d) := by cases d <;> simp only [dTy, isStr] <;> exact kit_ty (by decide +kernel)
/-- what the slots of a def hold, as data -/
def EnvOk (σ : St) (H : Hp) (env : List (Nat × PyData)) : Prop := ∀ i d, (i, d) ∈ env → ∃ v, σ[i]? = some (some v) ∧ Dv H v d
theorem EnvOk.same {σ : St} {H H' : Hp} {env : List (Nat × PyData)} (h : EnvOk σ H env) (e : Same H H') : EnvOk σ H' env := fun i d m => by
  obtain ⟨v, h1, h2⟩ := h i d m
  exact ⟨v, h1, Dv.keep (KeepT.of e) d v h2⟩
/-- an expression that gives a datum, and lays new tuples alone -/
structure PD (X : Cx) (e : Expr) (env : List (Nat × PyData)) (d : PyData) : Prop where
  pe : PE X e (fun σ H Q => EnvOk σ H env ∧ ∀ v H', Same H H' → Dv H' v d → Q v H')
structure PDs (X : Cx) (es : List Expr) (env : List (Nat × PyData)) (ds : List PyData) : Prop where
  pa : PA X es (fun σ H Q => EnvOk σ H env ∧ ∀ xs H', Same H H' → DvAll H' xs ds → Q xs H')
/-- one reading given by another -/
theorem PE.weak {X : Cx} {e : Expr} {t u : TE} (h : PE X e t) (k : ∀ σ H Q, u σ H Q → t σ H Q) : PE X e u := ⟨fun pins s σ H Q I q => h.run pins s σ H Q I (k σ H Q q)⟩
theorem PT.weak {X : Cx} {e : Expr} {t u : TT} (h : PT X e t) (k : ∀ σ H Q, u σ H Q → t σ H Q) : PT X e u := ⟨fun pins s σ H Q I q => h.run pins s σ H Q I (k σ H Q q)⟩
theorem PA.weak {X : Cx} {es : List Expr} {t u : TA} (h : PA X es t) (k : ∀ σ H Q, u σ H Q → t σ H Q) : PA X es u := ⟨fun pos pins s σ H Q I q => h.run pos pins s σ H Q I (k σ H Q q)⟩
section
variable {X : Cx} {env : List (Nat × PyData)}
theorem pd_int {i j pos} : PD X (.Constant (.int i) j pos) env (.int i) := ⟨PE.weak pe_int fun _ H _ q => q.2 _ H (Same.refl H) Dv.int⟩
theorem pd_bl {b j pos} : PD X (.Constant (.bool b) j pos) env (.bool b) := ⟨PE.weak pe_bl fun _ H _ q => q.2 _ H (Same.refl H) Dv.bool⟩
theorem pd_str {x j pos} : PD X (.Constant (.str x) j pos) env (.str x) := ⟨PE.weak pe_str fun _ H _ q => q.2 _ H (Same.refl H) Dv.str⟩
theorem pd_non {j pos} : PD X (.Constant .none j pos) env .none := ⟨PE.weak pe_non fun _ H _ q => q.2 _ H (Same.refl H) Dv.non⟩
theorem pd_neg {i : Int} {j pos pos2} : PD X (.UnaryOp .USub (.Constant (.int i) j pos) pos2) env (.int (-i)) := ⟨PE.weak (pe_un un_neg pe_int) fun _ H _ q => ⟨_, rfl, q.2 _ H (Same.refl H) Dv.int⟩⟩
theorem pd_v (i : Nat) {d : PyData} {x : Str} {pos : Pos} (h : PE X (.Name x pos) (tVar i)) (m : (i, d) ∈ env) : PD X (.Name x pos) env d := ⟨PE.weak h fun σ H Q q => by
  obtain ⟨v, h1, h2⟩ := q.1 i d m
  exact ⟨v, h1, q.2 v H (Same.refl H) h2⟩⟩
theorem pds_nil : PDs X [] env [] := ⟨PA.weak pa_nil fun _ H _ q => q.2 [] H (Same.refl H) DvAll.nil⟩
theorem pds_cons {e : Expr} {es : List Expr} {d : PyData} {ds : List PyData} (a : PD X e env d) (b : PDs X es env ds) (hs : starEach (e :: es) X.env = (false, eval e X.env) :: starEach es X.env := by rfl) : PDs X (e :: es) env (d :: ds) :=
  ⟨PA.weak (pa_cons a.pe b.pa hs) fun σ H Q q => ⟨q.1, fun v H1 g1 h1 => ⟨q.1.same g1, fun xs H2 g2 h2 => q.2 _ H2 (g1.trans g2) (DvAll.cons (Dv.keep (KeepT.of g2) d v h1) h2)⟩⟩⟩
theorem pd_tup {es : List Expr} {ds : List PyData} {x1 pos} (h : PDs X es env ds) (hl : ds.length ≤ 1000) : PD X (.Tuple es x1 pos) env (.tuple ds) :=
  ⟨PE.weak (pe_tup h.pa) fun σ H Q q => ⟨q.1, fun xs H1 g1 h1 => ⟨by rw [h1.length]; exact room5 hl, fun p hp => q.2 _ _ (g1.trans (same_new hp _)) (Dv.tup upd_same (DvAll.keep (KeepT.of (same_new hp _)) _ _ h1))⟩⟩⟩
theorem pd_ix {a : Expr} {ds : List PyData} {d : PyData} {i j : Nat} {p1 pos} (h : PD X a env (.tuple ds)) (e : ds[i]? = some d) (hs : PlainIx (Expr.Constant (.int i) j p1) := by exact fun _ _ => rfl) : PD X (.Subscript a (.Constant (.int i) j p1) pos) env d :=
  ⟨PE.weak (pe_ix ix_tup h.pe pe_int hs) fun σ H Q q => ⟨q.1, fun v H1 g1 h1 => by
    obtain ⟨b, xs, rfl, h2, h3⟩ := Dv.of_tup h1
    obtain ⟨x, e1, e2⟩ := DvAll.get h3 e
    exact ⟨b, xs, _, x, rfl, rfl, SqT.of h2, at_of rfl e1, q.2 x H1 g1 e2⟩⟩⟩
/-- a list of data -/
theorem pe_lstD {es : List Expr} {ds : List PyData} {pos} (h : PDs X es env ds) (hl : ds.length ≤ 1000) : PE X (.List es pos) (fun σ H Q => EnvOk σ H env ∧ ∀ p xs H', H p = none → Same H H' → H' p = some (.lst xs) → DvAll H' xs ds → Q (.ref p) H') :=
  PE.weak (pe_lst h.pa) fun σ H Q q => ⟨q.1, fun xs H1 g1 h1 => ⟨by rw [h1.length]; exact room5 hl, fun p hp => q.2 p xs _ (g1.free hp) (g1.trans (same_new hp _)) upd_same (DvAll.keep (KeepT.of (same_new hp _)) _ _ h1)⟩⟩
/-- d + (..) -/
theorem pd_cat {a b : Expr} {ds es : List PyData} {pos} (h : PD X a env (.tuple ds)) (k : PD X b env (.tuple es)) (h0 : ds ≠ []) (k0 : es ≠ []) (hl : ds.length + es.length ≤ 1000) : PD X (.BinOp a .Add b pos) env (.tuple (ds ++ es)) :=
  ⟨PE.weak (pe_op op_catT h.pe k.pe) fun σ H Q q => ⟨q.1, fun v H1 g1 h1 => ⟨q.1.same g1, fun u H2 g2 h2 => by
    obtain ⟨a1, xs, rfl, e1, e2⟩ := Dv.of_tup h1
    obtain ⟨a2, ys, rfl, e3, e4⟩ := Dv.of_tup h2
    refine ⟨a1, a2, xs, ys, rfl, rfl, SqT.of (g2 _ _ e1), SqT.of e3, ?_, ?_, ?_, fun _ p hp => ?_⟩
    · rintro rfl
      have := e2.length
      cases ds with
      | nil => exact h0 rfl
      | cons _ _ => cases this
    · rw [e2.length, e4.length]
      exact room5 hl
    · rintro rfl
      have := e4.length
      cases es with
      | nil => exact absurd rfl k0
      | cons _ _ => cases this
    · exact q.2 _ _ ((g1.trans g2).trans (same_new hp _)) (Dv.tup upd_same (DvAll.keep (KeepT.of (same_new hp _)) _ _ (DvAll.append (DvAll.keep (KeepT.of g2) _ _ e2) e4)))⟩⟩⟩
end
end Ver
namespace Ver
open PySem L2
section
variable {X : Cx} {env : List (Nat × PyData)}
/-- d[:n], n below the length -/
theorem pd_take {a : Expr} {ds : List PyData} {n j : Nat} {p1 p2 pos} (h : PD X a env (.tuple ds)) (hl : n < ds.length) : PD X (.Subscript a (.Slice none (some (.Constant (.int n) j p1)) none p2) pos) env (.tuple (ds.take n)) :=
  ⟨PE.weak (pe_slice sl_tup h.pe po_none (po_some pe_int)) fun σ H Q q => ⟨q.1, fun v H1 g1 h1 => by
    obtain ⟨b, xs, rfl, h2, h3⟩ := Dv.of_tup h1
    have e := h3.length
    refine ⟨_, rfl, b, xs, rfl, SqT.of h2, ?_, fun p hp => ?_⟩
    · rw [HT.sIx_nat]
      omega
    · refine q.2 _ _ (g1.trans (same_new hp _)) (Dv.tup upd_same (DvAll.keep (KeepT.of (same_new hp _)) _ _ ?_))
      have ec : cutV xs none (some (n : Int)) = xs.take n := by
        show (xs.drop 0).take (HT.sIx xs.length xs.length (some (n : Int)) - 0) = xs.take n
        rw [HT.sIx_nat, List.drop_zero, Nat.min_eq_left (by omega)]
        rfl
      rw [ec]
      exact DvAll.take n h3⟩⟩
/-- a + b, any two tuples -/
theorem pd_catA {a b : Expr} {ds es : List PyData} {pos} (h : PD X a env (.tuple ds)) (k : PD X b env (.tuple es)) (hl : ds.length + es.length ≤ 1000) : PD X (.BinOp a .Add b pos) env (.tuple (ds ++ es)) :=
  ⟨PE.weak (pe_op op_catA h.pe k.pe) fun σ H Q q => ⟨q.1, fun v H1 g1 h1 => ⟨q.1.same g1, fun u H2 g2 h2 => by
    obtain ⟨a1, xs, rfl, e1, e2⟩ := Dv.of_tup h1
    obtain ⟨a2, ys, rfl, e3, e4⟩ := Dv.of_tup h2
    have l1 := e2.length
    have l2 := e4.length
    have e2' := DvAll.keep (KeepT.of g2) _ _ e2
    refine ⟨a1, a2, xs, ys, rfl, rfl, SqT.of (g2 _ _ e1), SqT.of e3, room5 (by omega), ?_, ?_, fun _ _ p hp => ?_⟩
    · rintro rfl
      have : ds = [] := List.length_eq_zero_iff.mp l1.symm
      subst this
      exact q.2 _ _ (g1.trans g2) (Dv.tup e3 e4)
    · rintro _ rfl
      have : es = [] := List.length_eq_zero_iff.mp l2.symm
      subst this
      rw [List.append_nil] at q
      exact q.2 _ _ (g1.trans g2) (Dv.tup (g2 _ _ e1) e2')
    · exact q.2 _ _ ((g1.trans g2).trans (same_new hp _)) (Dv.tup upd_same (DvAll.keep (KeepT.of (same_new hp _)) _ _ (DvAll.append e2' e4)))⟩⟩⟩
/-- a reading that holds for each of many, and is wanted for one -/
theorem PE.ex {ι : Type} {e : Expr} {t : ι → TE} (h : ∀ i, PE X e (t i)) : PE X e (fun σ H Q => ∃ i, t i σ H Q) := ⟨fun pins s σ H Q I ⟨i, q⟩ => (h i).run pins s σ H Q I q⟩
end
end Ver

/-! ## Rules of our own: xs.extend(a tuple), x is True of anything -/
namespace Ver
open PySem PySem.Spec PyProof.Rows L2
theorem meets_extend_tup (l b : Addr) (items : Array Value) (n : Nat) (its2 : Array Value) (hlong : ¬ (!items.isEmpty && Builtin.List.listTooLong (items.size + its2.size)) = true) (hs1 : items.size ≤ sizeLine) (hs2 : items.size + its2.size ≤ sizeLine + 1) :
    Meets (Builtin.«list.extend» ⟨[.ref l, .ref b], []⟩) (fun _ R s => s.heap.get? l = some { cls := .type "list", dict := none, data := .seq items n, slots := #[] } ∧ IsTup s.heap b its2 ∧ R (.ok (.ret Value.none)) { s with heap := s.heap.update l (Obj.mapSeq fun x => x ++ its2), toks := s.toks }) := by
  intro prog w A R s ⟨hl, ⟨o, ho, hc, n2, hd⟩, h⟩
  show wpAny _ A.in1 (Builtin.List.listExtendWith (.ref l) (.ref b) .none) _ _ s
  unfold Builtin.List.listExtendWith
  refine wpAny_bind (wpAny_typeOf ⟨o, ho, hc⟩ ?_)
  have h1 : (Builtin.List.listSameRef (.ref l) (.ref b) || Value.type "tuple" == Value.type "list" || Value.type "tuple" == Value.type "tuple") = true := by simp
  simp only [h1, if_true]
  refine wpAny_bind ?_
  unfold Builtin.List.listItems
  refine wpAny_bind (wpAny_seqItems ho hd (wpAny_pure ?_))
  refine wpAny_bind ?_
  refine wpAny_bind (wpAny_seqItems hl rfl (wpAny_pure ?_))
  rw [if_neg hlong]
  show wpAny _ A.in1 (updateSeq l (· ++ its2) >>= fun _ => ret .none) _ _ s
  refine wpAny_bind (wpAny_updateSeq hl rfl ?_ hs1 (by rw [Array.size_append]; exact hs2))
  exact wpAny_pure h
section
variable {X : Cx}
def rExtT (K : PySem.W.Frag) : V → List V → Hp → VK → Prop := fun x vs H Q => ∃ l b xs zs, x = .ref l ∧ vs = [.ref b] ∧ H l = some (.lst xs) ∧ SqT K H b zs ∧ xs.length + zs.length ≤ sizeLine ∧ Q .non (upd H l (.lst (xs ++ zs)))
theorem mt_extT : MtM X "list.extend" (rExtT X.K) := by
  intro pins s σ H x vs v us Q I rx rv h
  obtain ⟨l, b, xs, zs, rfl, rfl, hH, hB, hz, q⟩ := h
  cases rx
  obtain ⟨u, rfl, ru⟩ := rv.one
  cases ru
  obtain ⟨z, its, n, r, hl, e⟩ := I.lstM hH
  obtain ⟨its2, r2, e2, z2⟩ := I.tuple hB
  have hl2 := r2.length
  have hsz : its.toArray.size + its2.toArray.size ≤ sizeLine := by rw [List.size_toArray, List.size_toArray]; omega
  have hno : ¬ (!its.toArray.isEmpty && Builtin.List.listTooLong (its.toArray.size + its2.toArray.size)) = true := by
    rw [notLongL hsz, Bool.and_false]
    exact Bool.false_ne_true
  refine call_meets F.slot_list_extend ⟨_, e, rfl⟩ F.entry_list_extend (F.args_list_extend_2 _ _) (meets_extend_tup l b its.toArray n its2.toArray hno (by rw [List.size_toArray]; omega) (by omega)) ⟨e, e2, ?_⟩
  refine ⟨.non, _, I.lset (its' := its ++ its2) hH e (by simp) (r.append r2) ?_, rfl, q⟩
  rw [List.length_append]
  omega
/-- x is True, x is False: x a bool or any object -/
def isB (b : Bool) : V → Bool
  | .bl a => decide (a = b)
  | _ => false
theorem op_isAny : OpR X (compareOp .Is) (fun x y H Q => ∃ b, y = .bl b ∧ ((∃ a, x = .bl a) ∨ ∃ a, x = .ref a) ∧ Q (.bl (isB b x)) H) := by
  intro pins s σ H x y v u Q I rx ry h
  obtain ⟨b, rfl, hx, q⟩ := h
  cases (show u = Value.bool b from ry)
  rcases hx with ⟨a, rfl⟩ | ⟨a, rfl⟩
  · cases (show v = Value.bool a from rx)
    by_cases e : a = b
    · subst e
      refine wpAny_is_self rfl ⟨.bl true, H, I, rfl, ?_⟩
      have z : isB a (.bl a) = true := decide_eq_true rfl
      rwa [z] at q
    · refine wpAny_is_other rfl (fun z => e (Value.bool.inj z)) ⟨.bl false, H, I, rfl, ?_⟩
      have z : isB b (.bl a) = false := decide_eq_false e
      rwa [z] at q
  · cases (show v = Value.ref a from rx)
    exact wpAny_is_other rfl (fun z => nomatch z) ⟨.bl false, H, I, rfl, q⟩
end
end Ver
/-! ## Tuples whose object is known to have no dict: t.index(x) -/
namespace Ver
open PySem PySem.Spec PyProof.Rows L2
theorem same_tup {K : PySem.W.Frag} {H H' : Hp} {a : Addr} {xs : List V} (e : Same H H') (h : SqT K H a xs) : SqT K H' a xs := by
  rcases h with (h | ⟨o, h⟩) | h
  · exact .inl (.inl (e _ _ h))
  · exact .inl (.inr ⟨o, e _ _ h⟩)
  · exact .inr h
/-- the tuple of the switches: texts, an exact object without a dict -/
def SwT (H : Hp) (s : Addr) (sw : List Str) : Prop := ∃ o : Obj, o.cls = .type "tuple" ∧ o.dict = none ∧ H s = some (.frz o (.tup (sw.map V.str)))
theorem SwT.sq {K : PySem.W.Frag} {H : Hp} {s : Addr} {sw : List Str} (h : SwT H s sw) : SqT K H s (sw.map V.str) := by
  obtain ⟨o, _, _, h⟩ := h
  exact .inl (.inr ⟨o, h⟩)
theorem SwT.same {H H' : Hp} {s : Addr} {sw : List Str} (h : SwT H s sw) (e : Same H H') : SwT H' s sw := by
  obtain ⟨o, h1, h2, h⟩ := h
  exact ⟨o, h1, h2, e _ _ h⟩
theorem SwT.but {H H' : Hp} {s t l : Addr} {sw : List Str} (h : SwT H s sw) (e : But t H H') (T : Tape H t l) : SwT H' s sw := by
  obtain ⟨o, h1, h2, h⟩ := h
  refine ⟨o, h1, h2, e _ _ (fun z => ?_) h⟩
  obtain ⟨_, ⟨p, v, x, b, _, k⟩, _⟩ := T
  rw [z, k] at h
  cases h
section
variable {X : Cx}
theorem call_tuple_fz : CallR X (.type "tuple") (fun xs H Q => ∃ p ys, xs = [.ref p] ∧ SqL X.K H p ys ∧ ∀ (l : Addr) (o : Obj), o.cls = .type "tuple" → o.dict = none → H l = none → Q (.ref l) (upd H l (.frz o (.tup ys)))) := by
  intro pins s σ H xs us Q I r h
  obtain ⟨p, ys, rfl, hq, q⟩ := h
  obtain ⟨u, rfl, rx⟩ := vals1 r
  cases rx
  obtain ⟨its, r', pl, hz⟩ := I.list hq
  have hlen := r'.length
  refine call_tuple_list pl.isList (fun h' kp => ?_) (by simp only [List.size_toArray] <;> omega)
  have I1 : Inv X pins σ H { s with heap := h' } := I.kept (t' := s.toks) kp
  have I2 : Inv X pins σ (upd H h'.objs.size (.frz { cls := .type "tuple", data := .seq its.toArray } (.tup ys))) { s with heap := h'.push { cls := .type "tuple", data := .seq its.toArray } } :=
    I1.laid (t' := s.toks) (fun b o e => Heap.get?_push_of_some _ e) (Nat.le_refl _) ⟨Heap.get?_push_size _ rfl, hz, its, r', IsTup.new _ _⟩
  exact ⟨.ref h'.objs.size, _, I2, rfl, q _ _ rfl rfl (I1.hok.fresh (Nat.le_refl _))⟩
variable {e : Expr} {es : List Expr} {t : TA} {pos : Pos}
theorem pe_tup_fz {x1} (h : PA X es t) : PE X (.Tuple es x1 pos) (fun σ H Q => t σ H fun xs H1 => xs.length ≤ sizeLine ∧ ∀ (p : Addr) (o : Obj), o.cls = .type "tuple" → o.dict = none → H1 p = none → Q (.ref p) (upd H1 p (.frz o (.tup xs)))) := by
  refine ⟨fun pins s σ H Q I hw => wpAny_Tuple_spliced (thn (h.run pos pins s σ H _ I hw) fun us s1 ⟨xs, H1, I1, r, z, q⟩ => ⟨by rw [← r.length]; exact z, ?_⟩)⟩
  have nf : H1 s1.heap.objs.size = none := I1.hok.fresh (Nat.le_refl _)
  refine ⟨.ref s1.heap.objs.size, upd H1 s1.heap.objs.size (.frz { cls := .type "tuple", data := .seq us.toArray } (.tup xs)), I1.laid (t' := s1.toks) (fun b u e => Heap.get?_push_of_some _ e) (Nat.le_refl _) ?_, rfl, q _ _ rfl rfl nf⟩
  exact ⟨Heap.get?_push_size _ rfl, z, us, r, ⟨_, Heap.get?_push_size _ rfl, rfl, _, rfl⟩⟩
variable {o : Expr} {to : TE} {name : Str} {apos cpos : Pos} {id : String} {r : V → List V → Hp → VK → Prop}
theorem pe_bmT (slot : Slot "tuple" name id) (hty : typeOf (.builtin id) = pure (.type "method_descriptor")) (hm : MtR X id r) (ho : PE X o to) (ha : PA X (e :: es) t)
    (hbase : attributeBase o name X.env (eval o X.env) = eval o X.env := by rfl)
    (hfew : ((backTo cpos (starEach (e :: es) X.env)).all (fun x => !x.1) && (backToKw cpos (keywordEach [] X.env)).all (fun x => x.1.isSome)
      && decide ((e :: es).length + ([] : List Keyword).length + (if ([] : List Keyword).isEmpty then 0 else 1) < 30)) = true := by rfl)
    (hline : (apos.endLine == cpos.line) = true := by rfl) (hs : starEach (e :: es) X.env = (false, eval e X.env) :: starEach es X.env := by rfl) (hplain : (backTo cpos (starEach es X.env)).any (·.1) = false := by rfl) :
    PE X (.Call (.Attribute o name apos) (e :: es) [] cpos) (fun σ H Q => to σ H fun x H1 => (∃ (p : Addr) (ob : Obj) (ys : List V), x = .ref p ∧ H1 p = some (.frz ob (.tup ys)) ∧ ob.cls = .type "tuple" ∧ ob.dict = none) ∧ t σ H1 fun xs H2 => r x xs H2 Q) := by
  refine ⟨fun pins s σ H Q I h => ?_⟩
  refine wpAny_Call_method_late hbase hfew hline rfl (thn (ho.run pins s σ H _ I h) fun v s1 ⟨x, H1, I1, r1, ⟨p, ob, ys, hx, hp, hc, hd⟩, q1⟩ => ?_)
  subst hx
  cases (show v = Value.ref p from r1)
  obtain ⟨e1, _⟩ := (show ObjOk X.prog X.w H1 s1.heap p (.frz ob (.tup ys)) from I1.hok p _ hp)
  refine ⟨"tuple", id, PySem.F.plainAttrs_tuple, slot, hty, ⟨ob, e1, hc⟩, (fun a z => by cases z; exact ⟨ob, e1, hd⟩), ?_⟩
  have hA := ha.run cpos pins s1 σ H1 _ I1 q1
  rw [hs] at hA ⊢
  refine Calls.callWith_builtin (by show (false || (backTo cpos (starEach es X.env)).any (·.1)) = false; rw [hplain] <;> rfl) (Calls.evalArgs_plain ?_)
  exact thn hA fun us s2 ⟨vs, H2, I2, r2, q2⟩ => hm pins s2 σ H2 (.ref p) vs (.ref p) us Q I2 rfl r2 q2
end
end Ver

/-! ## all(..), any(..) of a generator expression whose element may call -/
namespace GX
open PySem PySem.Spec PyProof.Rows L2 GenW
def FinA (X : Cx) (a : Addr) (go : Obj) (Q : VK) (b : Bool) (s : Shared) : Prop := ∃ σ H, Inv X [(a, go)] σ H s ∧ Q (.bl b) H
def RA (X : Cx) (a : Addr) (go : Obj) (st : Bool) (Q : VK) : GenEnd := fun _ _ r s => r = .ok .next ∧ FinA X a go Q (!st) s
structure Woken (s s' : Shared) : Prop where
  os : s'.os = s.os
  bare : AllBare s'.gens
  heap : s'.heap = s.heap
def YA (X : Cx) (a : Addr) (go : Obj) (st : Bool) (Q : VK) : Protocol := fun _ _ v s kap =>
  ∃ b, v = .bool b ∧ (∃ σ H, Inv X [(a, go)] σ H s) ∧ if b = st then FinA X a go Q st s else ∀ s', Woken s s' → kap (.send .none) s'
theorem woken_inv {X : Cx} {pins : List (Addr × Obj)} {σ : L2.St} {H : Hp} {s s' : Shared} (I : Inv X pins σ H s) (z : Woken s s') : Inv X pins σ H s' :=
  I.call' (ch := []) z.os (Un.kept fun b o e => by rw [z.heap]; exact e) (by rw [z.heap]; exact I.hok) z.bare fun b q => by simp at q
/-- the iterator's objects, in the generator's own context -/
theorem stat {X : Cx} {a : Addr} {go : Obj} {fp : List Addr} {σ' : L2.St} {H' : Hp} {s' : Shared} (hfp : X.ex = fp) (hpn : X.pn = []) (hafp : a ∉ fp) (I' : Inv X [(a, go)] σ' H' s') (hn : ∀ b ∈ fp, H' b = none) : ∀ b ∈ fp, FpOk X [(a, go)] H' b := by
  subst hfp
  exact fun b hb => ⟨hn b hb, (I'.ok.exf b hb).1, I'.ok.exfs b hb, .inl hb, fun x c e => (I'.ok.exf b hb).2 x c e, fun p hp => by
    rw [hpn] at hp
    rw [List.mem_singleton.mp hp]
    exact fun z => hafp (by rw [show a = b from z]; exact hb)⟩
/-- a turn: the walk's step, its tests, its element -/
def TurnT (st : Bool) (J : It) (g : TG) (tt : TT) (te : TE) (vs : List Nat) (σ : L2.St) (Q : VK) (W : Nat → Nat → Hp → Prop) : Prop :=
  ∀ i m H, W i m H → (J.stop i H ∧ Q (.bl (!st)) H) ∨ (J.go i H ∧ ∃ Nx : Hp → Prop, (∀ H', Nx H' → ∃ m', m' < m ∧ W (i + 1) m' H') ∧ ∀ x H', J.yld i H x H' → g x (wipe σ vs) H' fun σ2 H2 => wipe σ2 vs = wipe σ vs ∧ tt σ2 H2 fun b H3 =>
    if b = true then te σ2 H3 fun y H4 => ∃ c, y = .bl c ∧ if c = st then Q (.bl st) H4 else Nx H4 else Nx H3)
theorem seg_loop {X : Cx} {B : Around} {st : Bool} {tg elt iter : Expr} {ifs : List Expr} {scope : Scope} {pos : Pos} {it a : Addr} {go : Obj} {fp : List Addr} {J : It} {tn : Nat → Heap → Prop} {g : TG} {tt : TT} {te : TE} {vs : List Nat} {σ : L2.St} {Q : VK} {W : Nat → Nat → Hp → Prop}
    (T : Turn X.prog X.w X.K tg J fp it tn) (hc : X.calm = true) (hfp : X.ex = fp) (hpn : X.pn = []) (hafp : a ∉ fp) (hco : X.env.scope.isCoroutine = false) (hσ : (wipe σ vs).length = X.N.length)
    (hov : B.over (.compLoop (.GeneratorExp elt [⟨tg, iter, ifs, 0⟩] scope pos) 0 (.ref it) .none X.env) [] = X.A) (hxe : ∀ e s, ¬ X.xe e s) (pg : PG X tg g) (pt : PTs X ifs tt) (pe : PE X elt te) (turn : TurnT st J g tt te vs σ Q W) :
    ∀ (m i n : Nat) (H : Hp) (s₀ s : Shared), m < n → W i m H → Inv X [(a, go)] (wipe σ vs) H s → tn i s.heap → (∀ b ∈ fp, H b = none) →
      Seg (model X.prog X.w) B (RA X a go st Q) (YA X a go st Q) n s₀ (.compLoop (.GeneratorExp elt [⟨tg, iter, ifs, 0⟩] scope pos) 0 (.ref it) .none X.env)
        ((model X.prog X.w).den (.compLoop (.GeneratorExp elt [⟨tg, iter, ifs, 0⟩] scope pos) 0 (.ref it) .none X.env)) [] s := by
  intro m
  induction m using Nat.strongRecOn with
  | ind m ih =>
  intro i n H s₀ s hmn w I5 st5 n5
  have hst := fun {σ' : L2.St} {H' : Hp} {s' : Shared} => stat (σ' := σ') (H' := H') (s' := s') (go := go) hfp hpn hafp
  show Seg _ B _ _ _ s₀ _ ((compTurn (.GeneratorExp elt [⟨tg, iter, ifs, 0⟩] scope pos) 0 (.ref it) .none X.env).onRaise (leaving X.env)) [] s
  rw [compTurn_gen, Sem.onRaise_eq_wrap]
  refine seg_bind_wrap (wpAny_standAt ?_)
  rcases turn i m H w with ⟨stop, qq⟩ | ⟨goo, Nx, hNx, step⟩
  · have td := T.done X rfl rfl rfl hc i [(a, go)] s _ H (fun _ _ => False) I5 (hst I5 n5) st5 stop
    refine seg_bind_wrap ?_
    rw [hov]
    refine thnF td fun r s6 ⟨hr, I6⟩ => ?_
    subst hr
    exact seg_end (.ok .next) ⟨rfl, _, _, I6, qq⟩
  · have ti := T.item X rfl rfl rfl hc i [(a, go)] s _ H (fun _ _ => False) I5 (hst I5 n5) st5 goo
    refine seg_bind_wrap ?_
    rw [hov]
    refine thnF ti fun r s6 ⟨u, hr, h6⟩ => ?_
    subst hr
    refine seg_bind_wrap ?_
    rw [hov]
    refine thnF h6 fun _ s7 ⟨x, H7, I7, r7, y7, st7, n7⟩ => ?_
    have I7' := I7.pinned (hst I7 n7) (T.obj _ _ st7)
    refine seg_bind_wrap ?_
    rw [hov]
    refine wpAny_mono (pg.run _ s7 _ H7 x u _ I7' r7 (step x H7 y7)) (fun _ s8 ⟨σ8, H8, I8, hw8, q8⟩ => ?_) fun e s' q => absurd q (hxe e s')
    refine seg_bind_wrap ?_
    rw [hov]
    refine wpAny_mono (pt.run _ s8 σ8 H8 _ I8 q8) (fun b s9 ⟨H9, I9, q9⟩ => ?_) fun e s' q => absurd q (hxe e s')
    -- the turn's end
    have fin : ∀ {s' : Shared} {H' : Hp} {n' : Nat} (s₀' : Shared), (∀ m', m' < m → m' < n') → Inv X ([(a, go)] ++ pinsAt fp s7.heap) σ8 H' s' → Nx H' →
        Seg (model X.prog X.w) B (RA X a go st Q) (YA X a go st Q) n' s₀' (.compLoop (.GeneratorExp elt [⟨tg, iter, ifs, 0⟩] scope pos) 0 (.ref it) .none X.env)
          ((model X.prog X.w).den (.compLoop (.GeneratorExp elt [⟨tg, iter, ifs, 0⟩] scope pos) 0 (.ref it) .none X.env)) [] s' := fun {s' H' n'} s₀' hn' I' nx => by
      obtain ⟨m', hm, w'⟩ := hNx H' nx
      have pin' : ∀ b ∈ fp, ∀ o, s7.heap.get? b = some o → s'.heap.get? b = some o ∧ H' b = none := fun b hb o e =>
        let z := I'.pin (b, o) (List.mem_append_right _ (List.mem_append_right _ (mem_pinsAt hb e)))
        ⟨z.1, z.2.1⟩
      have hl : (wipe σ vs).length = σ8.length := by rw [← hw8, wipe_length]
      refine ih m' hm (i + 1) n' H' s₀' s' (hn' m' hm) w' ((I'.unpinned (pins := [(a, go)])).weak hl (fun j v e => ?_)) (T.keep _ _ _ st7 fun b hb o e => (pin' b hb o e).1) fun b hb => ?_
      · rw [← hw8] at e
        exact (wipe_some e).1
      · obtain ⟨o, e, _⟩ := T.obj _ _ st7 b hb
        exact (pin' b hb o e).2
    cases b with
    | false =>
      simp only [Bool.false_eq_true, if_false] at q9 ⊢
      exact seg_again rfl (fin s₀ (fun m' h => by omega) I9 q9)
    | true =>
      simp only [if_true] at q9 ⊢
      have hy : ∀ v, yieldOut X.env v = yieldValue v := fun v => by simp only [yieldOut, hco, Bool.false_eq_true, if_false]
      simp only [hy]
      rw [Sem.bind_eq_wrap', Sem.bind_eq_wrap', Sem.wrap_wrap, Sem.wrap_wrap]
      refine seg_wrap ?_
      rw [hov]
      refine wpAny_mono (pe.run _ s9 σ8 H9 _ I9 q9) (fun y s10 ⟨yk, H10, I10, r10, c, ek, q10⟩ => ?_) fun e s' q => absurd q (hxe e s')
      subst ek
      obtain rfl : y = Value.bool c := r10
      have Ja : Inv X [(a, go)] σ8 H10 s10 := I10.unpinned (pins := [(a, go)])
      by_cases hcs : c = st
      · rw [if_pos hcs] at q10
        obtain ⟨n, rfl⟩ : ∃ k, n = k + 1 := ⟨n - 1, by omega⟩
        exact seg_at (seg_yield rfl rfl rfl ⟨c, rfl, ⟨_, _, Ja⟩, by rw [if_pos hcs]; exact ⟨_, _, Ja, q10⟩⟩)
      · rw [if_neg hcs] at q10
        obtain ⟨n, rfl⟩ : ∃ k, n = k + 1 := ⟨n - 1, by omega⟩
        refine seg_at (seg_yield rfl rfl rfl ⟨c, rfl, ⟨_, _, Ja⟩, ?_⟩)
        rw [if_neg hcs]
        intro s4 z
        exact seg_again rfl (fin s4 (fun m' h => by omega) (woken_inv I10 z) q10)
/-- the whole of the generator's run, from its start -/
theorem seg_start {X : Cx} {B : Around} {st : Bool} {tg elt iter : Expr} {ifs : List Expr} {scope : Scope} {pos : Pos} {it a : Addr} {go : Obj} {fp : List Addr} {J : It} {tn : Nat → Heap → Prop} {g : TG} {tt : TT} {te : TE} {vs : List Nat} {σ : L2.St} {Q : VK} {W : Nat → Nat → Hp → Prop}
    (T : Turn X.prog X.w X.K tg J fp it tn) (hc : X.calm = true) (hfp : X.ex = fp) (hpn : X.pn = []) (hafp : a ∉ fp) (hco : X.env.scope.isCoroutine = false) (hσ : (wipe σ vs).length = X.N.length)
    (hov : B.over (.compLoop (.GeneratorExp elt [⟨tg, iter, ifs, 0⟩] scope pos) 0 (.ref it) .none X.env) [] = X.A) (hxe : ∀ e s, ¬ X.xe e s) (pg : PG X tg g) (pt : PTs X ifs tt) (pe : PE X elt te) (turn : TurnT st J g tt te vs σ Q W)
    {m : Nat} {H : Hp} {s₀ s : Shared} (w : W 0 m H) (I5 : Inv X [(a, go)] (wipe σ vs) H s) (st5 : tn 0 s.heap) (n5 : ∀ b ∈ fp, H b = none) :
    Seg (model X.prog X.w) B (RA X a go st Q) (YA X a go st Q) (m + 1) s₀ (.compStart (.GeneratorExp elt [⟨tg, iter, ifs, 0⟩] scope pos) 0 (.ref it) .none X.env)
      ((model X.prog X.w).den (.compStart (.GeneratorExp elt [⟨tg, iter, ifs, 0⟩] scope pos) 0 (.ref it) .none X.env)) [] s := by
  have loop := seg_loop (B := B) (st := st) (scope := scope) (pos := pos) (iter := iter) T hc hfp hpn hafp hco hσ hov hxe pg pt pe turn m 0 (m + 1) H s₀ s (Nat.lt_succ_self _) w I5 st5 n5
  show Seg _ B _ _ _ s₀ _ ((compStart (.GeneratorExp elt [⟨tg, iter, ifs, 0⟩] scope pos) 0 (.ref it) .none X.env).onRaise (leaving X.env)) [] s
  unfold compStart
  rw [Sem.onRaise_eq_wrap]
  show Seg _ B _ _ _ s₀ _ ((ask >>= _).wrap _ _ _ _) [] s
  refine seg_bind_wrap (wpAny_askSetting ?_)
  split
  · exact seg_again rfl loop
  · first
      | exact seg_bind_wrap (wpAny_rule (seg_bind_wrap (wpAny_standAt (seg_bind_wrap (T.self _ 0 s _ _ st5 (seg_again rfl loop))))))
      | (refine seg_bind_wrap (wpAny_rule ?_); show Seg _ B _ _ _ s₀ _ ((standAt iter.pos >>= _).wrap _ _ _ _) [] s; exact seg_bind_wrap (wpAny_standAt (seg_bind_wrap (T.self _ 0 s _ _ st5 (seg_again rfl loop)))))
/-! ### the walk by all, any -/
theorem fin_mono {X : Cx} {a : Addr} {go : Obj} {Q : VK} {b : Bool} {s s' : Shared} (h : FinA X a go Q b s) (ho : s'.os = s.os) (hb : AllBare s'.gens) (hk : ∀ c o, s.heap.get? c = some o → s'.heap.get? c = some o) : FinA X a go Q b s' := by
  obtain ⟨σ, H, I, q⟩ := h
  exact ⟨σ, H, I.call' (ch := []) ho (Un.kept hk) (I.hok.kept hk) hb fun b q => by simp at q, q⟩
theorem all_loop {X : Cx} {A : Around} {R : Result → Shared → Prop} {a : Addr} {g : Nat} {go : Obj} {Q : VK} (hh : A.handled = none) (hd : A.depth < recursionLimit)
    (hgo : ∀ h : Heap, h.get? a = some go → h.IsGen a g) (hR : ∀ b s, FinA X a go Q b s → R (.ok (.ret (.bool b))) s) :
    ∀ (m : Nat) (s : Shared), (∃ σ H, Inv X [(a, go)] σ H s) → (∃ gs, s.gens[g]? = some gs ∧ gs.Goes (model X.prog X.w) A.in1.in1 (RA X a go false Q) (YA X a go false Q) m (.send .none) (s.setGen g .running)) →
      codeAny (model X.prog X.w) A (.builtin "all.loop" ⟨[.ref a], []⟩) R s := by
  have goes : ∀ {gs : GenState} {B : Around} {n : Nat} {r : Resume} {s : Shared}, gs.Goes (model X.prog X.w) B (RA X a go false Q) (YA X a go false Q) n r s →
      gs.Goes (model X.prog X.w) B (fun n s₀ r s1 => r = .ok .next ∧ (fun (_ : Nat) (_ : Shared) s2 => FinA X a go Q true s2) n s₀ s1) (YA X a go false Q) n r s := fun h => h
  intro m
  induction m with
  | zero =>
    intro s ⟨σ, H, J⟩ ⟨gs, hgs, hgoes⟩
    refine codeAny_builtin F.entry_all_loop ?_
    rw [Around.under_plainId F.plain_all_loop _]
    show wpAny _ A.in1 (pyNext (.ref a) >>= _) _ _ s
    refine wpAny_bind (wpAny_pyNext_genexpQ (A := A.in1) hh J.nolimit hd (hgo _ (J.pin (a, go) (List.mem_append_right _ List.mem_cons_self)).1) hgs (goes hgoes) (fun v s₁ gs' hbare hv => ?_) (fun s₁ hp h' hk => ?_))
    · obtain ⟨b, rfl, ⟨σ1, H1, J1⟩, hy⟩ := hv
      refine wpAny_bind (wpAny_holding (wpAny_truthy_bool ?_))
      refine wpAny_bind (wpAny_letGo ?_)
      cases b with
      | true => exact False.elim (hy s₁ ⟨rfl, J1.bare, rfl⟩)
      | false =>
        simp only [Bool.false_eq_true, if_false]
        refine wpAny_bind (wpAny_rule (wpAny_pure ?_))
        exact hR _ _ (fin_mono hy rfl (allBare_setGen J1.bare hbare) fun _ _ e => e)
    · refine wpAny_bind (wpAny_rule (wpAny_pure ?_))
      obtain ⟨σ1, H1, J1, q⟩ := hp
      exact hR _ _ (fin_mono ⟨σ1, H1, J1, q⟩ rfl (allBare_setGen J1.bare rfl) hk)
  | succ m ih =>
    intro s ⟨σ, H, J⟩ ⟨gs, hgs, hgoes⟩
    have hgl : g < s.gens.size := (Array.getElem?_eq_some_iff.mp hgs).1
    refine codeAny_builtin F.entry_all_loop ?_
    rw [Around.under_plainId F.plain_all_loop _]
    show wpAny _ A.in1 (pyNext (.ref a) >>= _) _ _ s
    refine wpAny_bind (wpAny_gsz (n := g + 1) hgl (wpAny_pyNext_genexpQ (A := A.in1) hh J.nolimit hd (hgo _ (J.pin (a, go) (List.mem_append_right _ List.mem_cons_self)).1) hgs (goes hgoes) (fun v s₁ gs' hbare hv => ?_) (fun s₁ hp h' hk => ?_)))
    · intro hsz
      obtain ⟨b, rfl, ⟨σ1, H1, J1⟩, hy⟩ := hv
      refine wpAny_bind (wpAny_holding (wpAny_truthy_bool ?_))
      refine wpAny_bind (wpAny_letGo ?_)
      cases b with
      | true =>
        simp only [if_true]
        have hsz1 : g < s₁.gens.size := by
          have q : (s₁.setGen g gs').gens.size = s₁.gens.size := setGen_size _ _ _
          have hsz' : g + 1 ≤ (s₁.setGen g gs').gens.size := hsz
          omega
        have hy' : ∀ s', Woken s₁ s' → _ := hy
        refine wpAny_pure ⟨plainId_quiet F.plain_all_loop _, ih _ ⟨σ1, H1, woken_inv J1 ⟨rfl, allBare_setGen J1.bare hbare, rfl⟩⟩ ⟨gs', setGen_at hsz1, ?_⟩⟩
        exact hy' _ ⟨rfl, allBare_setGen (s := s₁.setGen g gs') (allBare_setGen J1.bare hbare) rfl, rfl⟩
      | false =>
        simp only [Bool.false_eq_true, if_false]
        refine wpAny_bind (wpAny_rule (wpAny_pure ?_))
        exact hR _ _ (fin_mono hy rfl (allBare_setGen J1.bare hbare) fun _ _ e => e)
    · intro hsz
      refine wpAny_bind (wpAny_rule (wpAny_pure ?_))
      obtain ⟨σ1, H1, J1, q⟩ := hp
      exact hR _ _ (fin_mono ⟨σ1, H1, J1, q⟩ rfl (allBare_setGen J1.bare rfl) hk)
theorem any_loop {X : Cx} {A : Around} {R : Result → Shared → Prop} {a : Addr} {g : Nat} {go : Obj} {Q : VK} (hh : A.handled = none) (hd : A.depth < recursionLimit)
    (hgo : ∀ h : Heap, h.get? a = some go → h.IsGen a g) (hR : ∀ b s, FinA X a go Q b s → R (.ok (.ret (.bool b))) s) :
    ∀ (m : Nat) (s : Shared), (∃ σ H, Inv X [(a, go)] σ H s) → (∃ gs, s.gens[g]? = some gs ∧ gs.Goes (model X.prog X.w) A.in1.in1 (RA X a go true Q) (YA X a go true Q) m (.send .none) (s.setGen g .running)) →
      codeAny (model X.prog X.w) A (.builtin "any.loop" ⟨[.ref a], []⟩) R s := by
  have goes : ∀ {gs : GenState} {B : Around} {n : Nat} {r : Resume} {s : Shared}, gs.Goes (model X.prog X.w) B (RA X a go true Q) (YA X a go true Q) n r s →
      gs.Goes (model X.prog X.w) B (fun n s₀ r s1 => r = .ok .next ∧ (fun (_ : Nat) (_ : Shared) s2 => FinA X a go Q false s2) n s₀ s1) (YA X a go true Q) n r s := fun h => h
  intro m
  induction m with
  | zero =>
    intro s ⟨σ, H, J⟩ ⟨gs, hgs, hgoes⟩
    refine codeAny_builtin F.entry_any_loop ?_
    rw [Around.under_plainId F.plain_any_loop _]
    show wpAny _ A.in1 (pyNext (.ref a) >>= _) _ _ s
    refine wpAny_bind (wpAny_pyNext_genexpQ (A := A.in1) hh J.nolimit hd (hgo _ (J.pin (a, go) (List.mem_append_right _ List.mem_cons_self)).1) hgs (goes hgoes) (fun v s₁ gs' hbare hv => ?_) (fun s₁ hp h' hk => ?_))
    · obtain ⟨b, rfl, ⟨σ1, H1, J1⟩, hy⟩ := hv
      refine wpAny_bind (wpAny_holding (wpAny_truthy_bool ?_))
      refine wpAny_bind (wpAny_letGo ?_)
      cases b with
      | false => exact False.elim (hy s₁ ⟨rfl, J1.bare, rfl⟩)
      | true =>
        simp only [if_true]
        refine wpAny_bind (wpAny_rule (wpAny_pure ?_))
        exact hR _ _ (fin_mono hy rfl (allBare_setGen J1.bare hbare) fun _ _ e => e)
    · refine wpAny_bind (wpAny_rule (wpAny_pure ?_))
      obtain ⟨σ1, H1, J1, q⟩ := hp
      exact hR _ _ (fin_mono ⟨σ1, H1, J1, q⟩ rfl (allBare_setGen J1.bare rfl) hk)
  | succ m ih =>
    intro s ⟨σ, H, J⟩ ⟨gs, hgs, hgoes⟩
    have hgl : g < s.gens.size := (Array.getElem?_eq_some_iff.mp hgs).1
    refine codeAny_builtin F.entry_any_loop ?_
    rw [Around.under_plainId F.plain_any_loop _]
    show wpAny _ A.in1 (pyNext (.ref a) >>= _) _ _ s
    refine wpAny_bind (wpAny_gsz (n := g + 1) hgl (wpAny_pyNext_genexpQ (A := A.in1) hh J.nolimit hd (hgo _ (J.pin (a, go) (List.mem_append_right _ List.mem_cons_self)).1) hgs (goes hgoes) (fun v s₁ gs' hbare hv => ?_) (fun s₁ hp h' hk => ?_)))
    · intro hsz
      obtain ⟨b, rfl, ⟨σ1, H1, J1⟩, hy⟩ := hv
      refine wpAny_bind (wpAny_holding (wpAny_truthy_bool ?_))
      refine wpAny_bind (wpAny_letGo ?_)
      cases b with
      | false =>
        simp only [Bool.false_eq_true, if_false]
        have hsz1 : g < s₁.gens.size := by
          have q : (s₁.setGen g gs').gens.size = s₁.gens.size := setGen_size _ _ _
          have hsz' : g + 1 ≤ (s₁.setGen g gs').gens.size := hsz
          omega
        have hy' : ∀ s', Woken s₁ s' → _ := hy
        refine wpAny_pure ⟨plainId_quiet F.plain_any_loop _, ih _ ⟨σ1, H1, woken_inv J1 ⟨rfl, allBare_setGen J1.bare hbare, rfl⟩⟩ ⟨gs', setGen_at hsz1, ?_⟩⟩
        exact hy' _ ⟨rfl, allBare_setGen (s := s₁.setGen g gs') (allBare_setGen J1.bare hbare) rfl, rfl⟩
      | true =>
        simp only [if_true]
        refine wpAny_bind (wpAny_rule (wpAny_pure ?_))
        exact hR _ _ (fin_mono hy rfl (allBare_setGen J1.bare hbare) fun _ _ e => e)
    · intro hsz
      refine wpAny_bind (wpAny_rule (wpAny_pure ?_))
      obtain ⟨σ1, H1, J1, q⟩ := hp
      exact hR _ _ (fin_mono ⟨σ1, H1, J1, q⟩ rfl (allBare_setGen J1.bare rfl) hk)
/-! ### the generator's own context -/
theorem over_gen {A : Around} {elt tg iter : Expr} {ifs : List Expr} {scope : Scope} {pos : Pos} {it acc : Value} {env : Env} : A.over (.compLoop (.GeneratorExp elt [⟨tg, iter, ifs, 0⟩] scope pos) 0 it acc env) [] = A.deeper env := by
  first
    | rfl
    | (obtain ⟨hd, d, fr, gs, u⟩ := A; simp [Around.over, Around.deeper, marksOver, frameCount, unitsOf, envsOf, guardsOf, pushEnvs, pushGuards, Code.envs, Code.env?, Code.isFrame, Code.guards, Code.isGuard, Code.weight, Code.frames, Code.isCreation, Code.isCaller, Code.cUnits])
/-- the context of a generator that starts at s, its iterator's objects at fp -/
abbrev gcx (X : Cx) (A : Around) (s : Shared) (H : Hp) (env : Env) (fp : List Addr) : Cx := { X with A := A, s_0 := s, H_0 := H, env := env, outer := X.stack, stack := env :: X.stack, ex := fp, fn := fun _ => false, calm := true, pn := [], xe := fun _ _ => False }
abbrev gEnv (X : Cx) (scope : Scope) (C : Addr) (code : Value) : Env := genEnv scope (cloFrom X.env.cells scope.names []) C code builtinsNs X.env
theorem gen_inv {X : Cx} {pins : List (Addr × Obj)} {σ : L2.St} {H : Hp} {s : Shared} {scope : Scope} {own : List (Str × Nat)} {fp : List Addr} {A : Around} {code : Value} (I : Inv X pins σ H s) (ok : BlkOk X.N X.env.scope scope own) (nocell : ∀ y ∈ scope.names, y.2 ≠ .cell)
    (hN : X.N.Nodup) (hfp : ∀ b ∈ fp, FpOk X pins H b ∧ b < s.heap.objs.size) (hA : A.handled = none) (hfr : A.frames = some (gEnv X scope s.heap.objs.size code :: X.stack))
    {h1 : Heap} {tk : Nat} {gs : Array GenState} {m : Str → Option Value} (kp : ∀ b o, s.heap.get? b = some o → h1.get? b = some o) (hns : h1.Ns s.heap.objs.size m) (hg : AllBare gs) :
    Inv (gcx X A s H (gEnv X scope s.heap.objs.size code) fp) [] (wipe σ (own.map (·.2))) H { s with heap := h1, toks := tk, gens := gs } := by
  have hfree : ∀ y ∈ scope.names, y.2 = .free → ∃ c, X.env.cells.lookup y.1 = some c := fun y hy e => by
    rcases ok.free y hy e with k | k
    · exact I.ok.has _ (.inl k)
    · exact I.ok.has _ (.inr k)
  generalize hcenv : gEnv X scope s.heap.objs.size code = cenv at hfr
  have hL : cenv.locals = s.heap.objs.size := by rw [← hcenv]; rfl
  have hcl : cenv.cells = cloFrom X.env.cells scope.names [] := by rw [← hcenv]; rfl
  have hsc : cenv.scope = scope := by rw [← hcenv]; rfl
  have cm : ∀ {y c}, (y, c) ∈ cloFrom X.env.cells scope.names [] → X.env.cells.lookup y = some c ∧ c < s.heap.objs.size := fun {y c} hm => by
    rcases cloFrom_mem hm with hm | ⟨h1, rfl⟩
    · cases hm
    · obtain ⟨c, hc⟩ := hfree _ h1 rfl
      rw [hc]
      obtain ⟨w, z⟩ := I.cell _ _ hc
      exact ⟨rfl, z.lt⟩
  have mem : ∀ {y c}, cenv.cells.lookup y = some c → X.env.cells.lookup y = some c ∧ c < s.heap.objs.size := fun {y c} e => by
    rw [hcl] at e
    exact cm (PySem.mem_of_lookup e)
  have look : ∀ {y}, scope.names.lookup y = some .free → ∃ c, cenv.cells.lookup y = some c ∧ X.env.cells.lookup y = some c := fun {y} hl => by
    have hy : (y, NameKind.free) ∈ scope.names := PySem.mem_of_lookup hl
    obtain ⟨c', e'⟩ := mem_lookup (cloFrom_has (cells := X.env.cells) (acc := []) hy)
    rw [← hcl] at e'
    exact ⟨c', e', (mem e').1⟩
  have nc : ∀ {y}, scope.names.lookup y ≠ some .cell := fun {y} e => nocell _ (PySem.mem_of_lookup e) rfl
  have okB : (gcx X A s H cenv fp).Ok := by
    refine ⟨I.ok.mod, by show cenv.scope.kind = _; rw [hsc]; exact ok.kind, by show cenv.globals = _; rw [← hcenv]; exact I.ok.glob, by show cenv.builtins = _; rw [← hcenv]; rfl, by show s.heap.objs.size ≤ cenv.locals; rw [hL]; exact Nat.le_refl _,
      fun y z c e1 e2 => I.ok.inj y z c (mem e1).1 (mem e2).1, fun y hy => ?_, fun y c z e => absurd z Bool.false_ne_true, fun _ => hA, hfr, .inr ⟨rfl, by rw [← hcenv]; rfl⟩, fun b hb => ⟨?_, fun y c e z => ?_⟩, I.bs, Nat.le_trans I.ok.bsz I.sz, fun b o e hb => ?_, fun b hb z => ?_, I.stack, I.stkFree⟩
    · show ∃ c, cenv.cells.lookup y = some c
      have hy : scope.names.lookup y = some .cell ∨ scope.names.lookup y = some .free := by
        rw [← hsc]; exact hy
      rcases hy with hy | hy
      · exact absurd hy nc
      · obtain ⟨c, h1, _⟩ := look hy
        exact ⟨c, h1⟩
    · show b ≠ cenv.locals
      rw [hL]; exact Nat.ne_of_lt (hfp b hb).2
    · exact (hfp b hb).1.2.2.2.2.1 y c (mem e).1 z
    · rcases (hfp b hb).1.2.2.2.1 with z | z
      · exact I.ok.noex b o e z
      · exact absurd (Nat.lt_of_lt_of_le (Heap.lt_size e) (Nat.le_trans I.ok.bsz z)) (Nat.lt_irrefl _)
    · rcases List.mem_cons.mp (I.stkSub b z) with z | z
      · exact (hfp b hb).1.2.1 z
      · exact (hfp b hb).1.2.2.1 z
  refine ⟨okB, rfl, hg, Un.kept kp, ⟨m, ?_, fun i y av e1 e2 e3 => ?_⟩, fun y c e => ?_, ?_, fun y c e => ?_, fun p hp => ?_, I.hok.kept kp, by rw [wipe_length]; exact I.len⟩
  · show Heap.Ns _ cenv.locals _
    rw [hL]
    exact hns
  · obtain ⟨e2, hne⟩ := wipe_some e2
    have no : ∀ {k}, scope.names.lookup y = some k → ¬ (k = .local ∨ k = .cell) := fun {k} e hh => by
      rcases ok.own _ (PySem.mem_of_lookup e) hh with e' | e'
      · obtain ⟨p, hp, hpy⟩ := List.mem_map.mp e'
        have e3 := ok.ix p hp
        have : p.1 = y := hpy
        rw [this] at e3
        exact hne (List.mem_map.mpr ⟨p, hp, nodup_ix hN e3 e1⟩)
      · exact e' (List.mem_of_getElem? e1)
    have hfr2 : scope.names.lookup y = some .free := by
      have e3 : Vis cenv.scope y := e3
      rw [hsc] at e3
      rcases e3 with e3 | e3 | e3
      · exact absurd (.inl rfl) (no e3)
      · exact absurd (.inr rfl) (no e3)
      · exact e3
    obtain ⟨m', hn, hl⟩ := I.loc
    have hvis : Vis X.env.scope y := (ok.free _ (PySem.mem_of_lookup hfr2) rfl).elim (fun k => .inr (.inl k)) (fun k => .inr (.inr k))
    obtain ⟨w, r, q⟩ := hl i y av e1 e2 hvis
    refine ⟨w, r, .inr ⟨.inr (by show cenv.scope.names.lookup y = _; rw [hsc]; exact hfr2), ?_⟩⟩
    obtain ⟨c, h1, h2⟩ := look hfr2
    rcases q with ⟨k, _⟩ | ⟨_, c', e', z⟩
    · have k : X.env.scope.names.lookup y = some .local := k
      rcases ok.free _ (PySem.mem_of_lookup hfr2) rfl with k' | k' <;> rw [show X.env.scope.names.lookup y = _ from k'] at k <;> cases k
    · rw [h2] at e'; cases e'
      exact ⟨c, h1, z.keeps kp⟩
  · obtain ⟨h1, _⟩ := mem (show cenv.cells.lookup y = some c from e)
    obtain ⟨w, z⟩ := I.cell y c h1
    exact ⟨w, z.keeps kp⟩
  · show H cenv.locals = none
    rw [hL]; exact I.hok.fresh (Nat.le_refl _)
  · exact I.freeC y c (mem (show cenv.cells.lookup y = some c from e)).1
  · exact absurd (show p ∈ ([] : List (Addr × Obj)) ++ [] from hp) (by simp)
/-- all(..) (st false), any(..) (st true): the iterable, then the walk by the measure W -/
def tGx (st : Bool) (P : Addr) (wi : TI) (g : TG) (tt : TT) (te : TE) (vs : List Nat) : TE := fun σ H Q => wi σ H fun J H1 => GxR.TabG H1 P ∧ ∀ H2, GxR.Tabbed P H1 H2 → ∃ W : Nat → Nat → Hp → Prop, (∃ m, W 0 m H2) ∧ TurnT st J g tt te vs σ Q W
/-- the generator has been made -/
def ReadyX (X : Cx) (pins : List (Addr × Obj)) (σ : L2.St) (st : Bool) (Q : VK) (v : Value) (s5 : Shared) : Prop :=
  ∃ (s4 : Shared) (H4 : Hp) (env : Env) (fp : List Addr) (a : Addr) (go : Obj) (g m : Nat), v = .ref a ∧ (∀ h : Heap, h.get? a = some go → h.IsGen a g) ∧
    (∃ σ' H', Inv (gcx X (X.A.in1.in1.deeper env) s4 H4 env fp) [(a, go)] σ' H' s5) ∧
    (∃ gs, s5.gens[g]? = some gs ∧ gs.Goes (model X.prog X.w) X.A.in1.in1 (RA (gcx X (X.A.in1.in1.deeper env) s4 H4 env fp) a go st Q) (YA (gcx X (X.A.in1.in1.deeper env) s4 H4 env fp) a go st Q) m (.send .none) (s5.setGen g .running)) ∧
    ∀ b s', FinA (gcx X (X.A.in1.in1.deeper env) s4 H4 env fp) a go Q b s' → EP X pins σ Q (.bool b) s'
theorem gen_make {X : Cx} {pins : List (Addr × Obj)} {σ : L2.St} {H : Hp} {s : Shared} {c P : Addr} {st : Bool} {tg elt iter : Expr} {ifs : List Expr} {gpos : Pos} {scope : Scope} {own : List (Str × Nat)} {wi : TI} {g : TG} {tt : TT} {te : TE} {k : Nat} {Q : VK} {Q' : Value → Shared → Prop}
    (hr : Room (k + 3) X.A) (hN : X.N.Nodup) (TB : GxR.TabB X.base X.mg c P) (hcode : X.env.code = .ref c) (ok : BlkOk X.N X.env.scope scope own) (hco : scope.isCoroutine = false) (nocell : ∀ y ∈ scope.names, y.2 ≠ .cell) (hdot : scope.names.lookup (".0" : Str) = some NameKind.local)
    (hi : PI X tg iter wi) (hs : ∀ v, genFold iter X.env v = pure v)
    (pg : ∀ (s : Shared) (H : Hp) (C : Addr) (cd : Value) (fp : List Addr), PG (gcx X (X.A.in1.in1.deeper (gEnv X scope C cd)) s H (gEnv X scope C cd) fp) tg g)
    (pt : ∀ (s : Shared) (H : Hp) (C : Addr) (cd : Value) (fp : List Addr), PTs (gcx X (X.A.in1.in1.deeper (gEnv X scope C cd)) s H (gEnv X scope C cd) fp) ifs tt)
    (pe : ∀ (s : Shared) (H : Hp) (C : Addr) (cd : Value) (fp : List Addr), PE (gcx X (X.A.in1.in1.deeper (gEnv X scope C cd)) s H (gEnv X scope C cd) fp) elt te)
    (I : Inv X pins σ H s) (h : tGx st P wi g tt te (own.map (·.2)) σ H Q) (hQ : ∀ v s5, ReadyX X pins σ st Q v s5 → Q' v s5) :
    wpAny (model X.prog X.w) X.A (eval (.GeneratorExp elt [⟨tg, iter, ifs, 0⟩] scope gpos) X.env) Q' X.xe s := by
  have hfree : ∀ y ∈ scope.names, y.2 = .free → ∃ c, X.env.cells.lookup y.1 = some c := fun y hy e => by
    rcases ok.free y hy e with k | k
    · exact I.ok.has _ (.inl k)
    · exact I.ok.has _ (.inr k)
  refine wpAny_GeneratorExp_make hco (closure_ok hfree) nocell hdot ok.kind hr.depth ?_ hs
  refine thn (hi.run pins s σ H _ I h) fun xv s1 h1 => thn h1 fun itv s2 h2 => ?_
  obtain ⟨it, fp, tn, J, H1, rfl, I1, T, st2, f2, ⟨ps, hP, htr⟩, q⟩ := h2
  have hPs : s2.heap.get? P = some { cls := .none, data := .fields ps } := I1.hok P _ hP
  have cd : PySem.W.CodeHd s2.heap c P := TB.code.keeps I1.bk
  have cont : ∀ (code : Value) (h3 : Heap) (tk : Nat) (ps' : Array Value), Heap.ExtBut P s2.heap h3 → s2.heap.objs.size ≤ h3.objs.size → h3.get? P = some { cls := .none, data := .fields ps' } → (∃ more, ps' = ps ++ more) → TriplesOk ps'.toList →
      wpAny (model X.prog X.w) X.A (builtinsFor X.env.globals X.env.builtins) (fun bi s₄ =>
        ∀ h', h'.Ns s₄.heap.objs.size (fun y => if y = ".0" then some (.ref it) else none) → Heap.SameBut s₄.heap.objs.size (s₄.heap.push { cls := .type "frame", data := .dict #[] }) h' →
          Q' (.ref h'.objs.size) { s₄ with
            gens := s₄.gens.push (.fresh (.compStart (.GeneratorExp elt [⟨tg, iter, ifs, 0⟩] scope gpos) 0 (.ref it) .none (genEnv scope (cloFrom X.env.cells scope.names []) s₄.heap.objs.size code bi X.env))),
            toks := s₄.toks + 1 + 1 + 1,
            heap := h'.push { cls := .type "generator", data := .fields #[.int s₄.gens.size 0, .str "<genexpr>" (s₄.toks + 1), .str (X.env.qual ++ "<genexpr>") (s₄.toks + 1 + 1)] } }) X.xe { s2 with heap := h3, toks := tk } := by
    intro code h3 tk ps' hx hsz hP3 hmore ht3
    obtain ⟨bm, ob, e1, e2, e3, e4, e5, e6, e7, e8⟩ := TB.bm
    have keep3 : ∀ b u, b ≠ P → s2.heap.get? b = some u → h3.get? b = some u := fun b u hb e => hx b u hb e
    refine wpAny_builtinsFor (m := X.mg) (by rw [I1.ok.glob]; exact (I1.mod.glob.keeps I1.bk).extBut hx TB.gP) e1 e2 (keep3 _ _ e4 (I1.bk _ _ e5)) e6 e7 e8 ?_
    intro h' hn' hs'
    obtain ⟨more, em⟩ := hmore
    generalize hs4 : ({ s2 with heap := h3, toks := tk } : Shared) = s4 at hn' hs' ⊢
    have s4h : s4.heap = h3 := by rw [← hs4]
    have s4g : s4.gens = s2.gens := by rw [← hs4]
    have I4 : Inv X pins σ (upd H1 P (.tbl (ps ++ more))) s4 := by
      rw [← hs4]
      exact GxR.inv_tab (g' := s2.gens) (d' := s2.drawn) (t' := tk) I1 hP (fun b u hb e => keep3 b u hb e) (by rw [← em]; exact hP3) I1.bare
    have f4 : ∀ b ∈ fp, FpOk X pins (upd H1 P (.tbl (ps ++ more))) b ∧ b < s4.heap.objs.size := fun b hb => by
      obtain ⟨o, e, _⟩ := T.obj _ _ st2 b hb
      have hbP : b ≠ P := fun z => by
        have := (f2 b hb).1
        rw [z, hP] at this
        cases this
      refine ⟨⟨by rw [upd_ne hbP]; exact (f2 b hb).1, (f2 b hb).2⟩, ?_⟩
      rw [s4h]
      exact Heap.lt_size (keep3 b o hbP e)
    have st4 : tn 0 h3 := T.keep _ _ _ st2 fun b hb o e => keep3 b o (fun z => by
      have := (f2 b hb).1
      rw [z, hP] at this
      cases this) e
    have hsz' : h'.objs.size = s4.heap.objs.size + 1 := by rw [hs'.1, Heap.size_push]
    have keep' : ∀ b o, s4.heap.get? b = some o → h'.get? b = some o := fun b o e => hs'.extBut b o (Nat.ne_of_lt (Heap.lt_size e)) (Heap.get?_push_of_some _ e)
    obtain ⟨m0, w0⟩ : ∃ W : Nat → Nat → Hp → Prop, (∃ m, W 0 m (upd H1 P (.tbl (ps ++ more)))) ∧ TurnT st J g tt te (own.map (·.2)) σ Q W := q _ ⟨⟨ps ++ more, upd_same, by rw [← em]; exact ht3⟩, fun b hb => upd_ne hb⟩
    obtain ⟨⟨m1, w1⟩, turn⟩ := w0
    have main : ∀ (go : Obj) (nm qn : Value) (tk2 : Nat), go.cls = .type "generator" → go.data = .fields #[.int s4.gens.size 0, nm, qn] → go.slots = #[] → (∀ h : Heap, (h.push go).get? h.objs.size = some go) →
        ReadyX X pins σ st Q (.ref h'.objs.size) { s4 with gens := s4.gens.push (.fresh (.compStart (.GeneratorExp elt [⟨tg, iter, ifs, 0⟩] scope gpos) 0 (.ref it) .none (gEnv X scope s4.heap.objs.size code))), toks := tk2, heap := h'.push go } := by
      intro go nm qn tk2 hgc hgd hgs hgp
      have hA : (X.A.in1.in1.deeper (gEnv X scope s4.heap.objs.size code)).handled = none := hr.hd
      have hfr : (X.A.in1.in1.deeper (gEnv X scope s4.heap.objs.size code)).frames = some (gEnv X scope s4.heap.objs.size code :: X.stack) := Around.frames_deeper (show X.A.in1.in1.frames = some X.stack from I1.ok.frames)
      have hbare : AllBare (s4.gens.push (.fresh (.compStart (.GeneratorExp elt [⟨tg, iter, ifs, 0⟩] scope gpos) 0 (.ref it) .none (gEnv X scope s4.heap.objs.size code)))) := AllBare.push I4.bare rfl
      have I5 := gen_inv (fp := fp) (A := X.A.in1.in1.deeper (gEnv X scope s4.heap.objs.size code)) (code := code) I4 ok nocell hN f4 hA hfr (h1 := h'.push go) (tk := tk2) (gs := s4.gens.push (.fresh (.compStart (.GeneratorExp elt [⟨tg, iter, ifs, 0⟩] scope gpos) 0 (.ref it) .none (gEnv X scope s4.heap.objs.size code))))
        (fun b o e => Heap.get?_push_of_some _ (keep' b o e)) (hn'.keeps fun b o e => Heap.get?_push_of_some _ e) hbare
      have hage : s4.heap.objs.size ≤ h'.objs.size := by omega
      have I6 : Inv (gcx X (X.A.in1.in1.deeper (gEnv X scope s4.heap.objs.size code)) s4 (upd H1 P (.tbl (ps ++ more))) (gEnv X scope s4.heap.objs.size code) fp) [(h'.objs.size, go)] (wipe σ (own.map (·.2))) (upd H1 P (.tbl (ps ++ more)))
          { s4 with gens := s4.gens.push (.fresh (.compStart (.GeneratorExp elt [⟨tg, iter, ifs, 0⟩] scope gpos) 0 (.ref it) .none (gEnv X scope s4.heap.objs.size code))), toks := tk2, heap := h'.push go } := I5.pins_of fun p hp => by
        rw [List.mem_singleton.mp hp]
        refine ⟨hgp _, I4.hok.fresh hage, ?_, fun z => ?_, fun v z => by rw [hgd] at z; cases z⟩
        · show h'.objs.size ≠ s4.heap.objs.size
          omega
        · obtain ⟨_, o, ho, _⟩ := I4.stack.mem z
          have := Heap.lt_size ho
          exact absurd (Nat.lt_of_lt_of_le this hage) (Nat.lt_irrefl _)
      have hafp : h'.objs.size ∉ fp := fun z => absurd (Nat.lt_of_lt_of_le (f4 _ z).2 hage) (Nat.lt_irrefl _)
      refine ⟨s4, upd H1 P (.tbl (ps ++ more)), gEnv X scope s4.heap.objs.size code, fp, h'.objs.size, go, s4.gens.size, m1 + 1, rfl, fun h e => ⟨go, nm, qn, e, hgc, hgd, hgs⟩, ⟨_, _, I6⟩, ⟨_, Array.getElem?_push_size .., rfl, ?_⟩, fun b s' hf => ?_⟩
      · refine seg_start (X := gcx X (X.A.in1.in1.deeper (gEnv X scope s4.heap.objs.size code)) s4 (upd H1 P (.tbl (ps ++ more))) (gEnv X scope s4.heap.objs.size code) fp) (B := X.A.in1.in1) T rfl rfl rfl hafp hco (by rw [wipe_length]; exact I4.len) over_gen (fun _ _ z => z)
          (pg _ _ _ _ _) (pt _ _ _ _ _) (pe _ _ _ _ _) turn w1 (woken_inv I6 ⟨rfl, allBare_setGen hbare rfl, rfl⟩) ?_ fun b hb => (f4 b hb).1.1
        exact T.keep _ _ _ st4 fun b hb o e => Heap.get?_push_of_some _ (keep' b o (by rw [s4h]; exact e))
      · obtain ⟨σ', H', J', qq⟩ := hf
        exact ⟨.bl b, H', I4.call' (ch := fp) J'.os J'.base J'.hok J'.bare fun b hb => ⟨(f4 b hb).1.2.2.2.1, (f4 b hb).1.2.1, (f4 b hb).1.2.2.2.2.1, (f4 b hb).1.2.2.2.2.2⟩, rfl, qq⟩
    exact hQ _ _ (main _ _ _ _ rfl rfl rfl fun h => Heap.get?_push_size _ rfl)
  refine ⟨I1.nolimit, ?_⟩
  cases hf : codeAmong gpos ps.toList with
  | none =>
    refine wpAny_genexprCodeX hcode (cd.code hPs htr) (cd.tab hPs) hf fun c' h' tk hx hge hlt hco' _ htab' _ => ?_
    obtain ⟨o1, vs, f1, tf, fl, tg', inF, tx, tt', op, _, _, _, _, _, _, _, _, _, htr', _⟩ := hco'
    exact cont _ h' tk _ hx (Nat.le_trans hge (Nat.le_of_lt hlt)) htab'.2 ⟨_, rfl⟩ htr'
  | some cv =>
    refine wpAny_genexprCode_hit hcode (cd.code hPs htr) hf ?_
    exact cont cv s2.heap s2.toks ps (Heap.ExtBut.refl _ _) (Nat.le_refl _) hPs ⟨#[], by simp⟩ htr
theorem call_allX {X : Cx} {pins : List (Addr × Obj)} {σ : L2.St} {Q : VK} {v : Value} {s5 : Shared} {k : Nat} (hr : Room k X.A) (h : ReadyX X pins σ false Q v s5) : wpAny (model X.prog X.w) X.A (call (.builtin "all") [v]) (EP X pins σ Q) X.xe s5 := by
  obtain ⟨s4, H4, env, fp, a, go, g, m, rfl, hgo, hI, hG, hF⟩ := h
  obtain ⟨σ', H', J⟩ := id hI
  refine call_function_tree F.kind_all F.plain_all F.entry_all (F.args_all1 _) ?_
  unfold Builtin.«all»
  refine wpAny_bind (m := oneArg "all" _) (wpAny_pure ?_)
  refine wpAny_bind (wpAny_pyIter_gen (hgo _ (J.pin (a, go) (List.mem_append_right _ List.mem_cons_self)).1) ?_)
  exact wpAny_pure ⟨plainId_quiet F.plain_all_loop _, all_loop (X := gcx X (X.A.in1.in1.deeper env) s4 H4 env fp) (A := X.A) hr.hd hr.depth hgo (fun b s' hf => hF b s' hf) m s5 hI hG⟩
theorem pe_allX {X : Cx} {c P : Addr} {tg elt iter : Expr} {ifs : List Expr} {p pos gpos : Pos} {scope : Scope} {own : List (Str × Nat)} {wi : TI} {g : TG} {tt : TT} {te : TE} {k : Nat}
    (hr : Room (k + 3) X.A) (hgl : Gl X "all") (hm : X.mg "all" = none) (hN : X.N.Nodup) (TB : GxR.TabB X.base X.mg c P) (hcode : X.env.code = .ref c) (ok : BlkOk X.N X.env.scope scope own) (hi : PI X tg iter wi)
    (pg : ∀ (s : Shared) (H : Hp) (C : Addr) (cd : Value) (fp : List Addr), PG (gcx X (X.A.in1.in1.deeper (gEnv X scope C cd)) s H (gEnv X scope C cd) fp) tg g)
    (pt : ∀ (s : Shared) (H : Hp) (C : Addr) (cd : Value) (fp : List Addr), PTs (gcx X (X.A.in1.in1.deeper (gEnv X scope C cd)) s H (gEnv X scope C cd) fp) ifs tt)
    (pe : ∀ (s : Shared) (H : Hp) (C : Addr) (cd : Value) (fp : List Addr), PE (gcx X (X.A.in1.in1.deeper (gEnv X scope C cd)) s H (gEnv X scope C cd) fp) elt te)
    (hs : ∀ v, genFold iter X.env v = pure v := by intro _; rfl) (hco : scope.isCoroutine = false := by rfl) (nocell : ∀ y ∈ scope.names, y.2 ≠ .cell := by decide) (hdot : scope.names.lookup (".0" : Str) = some NameKind.local := by decide)
    (he : starEach [.GeneratorExp elt [⟨tg, iter, ifs, 0⟩] scope gpos] X.env = (false, eval (.GeneratorExp elt [⟨tg, iter, ifs, 0⟩] scope gpos) X.env) :: starEach [] X.env := by rfl) :
    PE X (.Call (.Name "all" p) [.GeneratorExp elt [⟨tg, iter, ifs, 0⟩] scope gpos] [] pos) (tGx false P wi g tt te (own.map (·.2))) := by
  refine ⟨fun pins s σ H Q I h => ?_⟩
  refine wpAny_Call_Name_kw (ld_blt I hgl hm (show bootBuiltins "all" = some (.builtin "all") by first | exact boot_all | rfl | kernel_rfl) ?_)
  refine PyProof.Rows.callWith_builtin1 ?_ he (by rfl)
  rw [he]
  show wpAny _ _ (spliced ((false, eval (.GeneratorExp elt [⟨tg, iter, ifs, 0⟩] scope gpos) X.env) :: backTo pos (starEach [] X.env))) _ _ s
  exact Calls.spliced_cons (gen_make hr hN TB hcode ok hco nocell hdot hi hs pg pt pe I h fun v s5 hR => Calls.spliced_nil (call_allX hr hR))

theorem call_anyX {X : Cx} {pins : List (Addr × Obj)} {σ : L2.St} {Q : VK} {v : Value} {s5 : Shared} {k : Nat} (hr : Room k X.A) (h : ReadyX X pins σ true Q v s5) : wpAny (model X.prog X.w) X.A (call (.builtin "any") [v]) (EP X pins σ Q) X.xe s5 := by
  obtain ⟨s4, H4, env, fp, a, go, g, m, rfl, hgo, hI, hG, hF⟩ := h
  obtain ⟨σ', H', J⟩ := id hI
  refine call_function_tree F.kind_any F.plain_any F.entry_any (F.args_any1 _) ?_
  unfold Builtin.«any»
  refine wpAny_bind (m := oneArg "any" _) (wpAny_pure ?_)
  refine wpAny_bind (wpAny_pyIter_gen (hgo _ (J.pin (a, go) (List.mem_append_right _ List.mem_cons_self)).1) ?_)
  exact wpAny_pure ⟨plainId_quiet F.plain_any_loop _, any_loop (X := gcx X (X.A.in1.in1.deeper env) s4 H4 env fp) (A := X.A) hr.hd hr.depth hgo (fun b s' hf => hF b s' hf) m s5 hI hG⟩
theorem pe_anyX {X : Cx} {c P : Addr} {tg elt iter : Expr} {ifs : List Expr} {p pos gpos : Pos} {scope : Scope} {own : List (Str × Nat)} {wi : TI} {g : TG} {tt : TT} {te : TE} {k : Nat}
    (hr : Room (k + 3) X.A) (hgl : Gl X "any") (hm : X.mg "any" = none) (hN : X.N.Nodup) (TB : GxR.TabB X.base X.mg c P) (hcode : X.env.code = .ref c) (ok : BlkOk X.N X.env.scope scope own) (hi : PI X tg iter wi)
    (pg : ∀ (s : Shared) (H : Hp) (C : Addr) (cd : Value) (fp : List Addr), PG (gcx X (X.A.in1.in1.deeper (gEnv X scope C cd)) s H (gEnv X scope C cd) fp) tg g)
    (pt : ∀ (s : Shared) (H : Hp) (C : Addr) (cd : Value) (fp : List Addr), PTs (gcx X (X.A.in1.in1.deeper (gEnv X scope C cd)) s H (gEnv X scope C cd) fp) ifs tt)
    (pe : ∀ (s : Shared) (H : Hp) (C : Addr) (cd : Value) (fp : List Addr), PE (gcx X (X.A.in1.in1.deeper (gEnv X scope C cd)) s H (gEnv X scope C cd) fp) elt te)
    (hs : ∀ v, genFold iter X.env v = pure v := by intro _; rfl) (hco : scope.isCoroutine = false := by rfl) (nocell : ∀ y ∈ scope.names, y.2 ≠ .cell := by decide) (hdot : scope.names.lookup (".0" : Str) = some NameKind.local := by decide)
    (he : starEach [.GeneratorExp elt [⟨tg, iter, ifs, 0⟩] scope gpos] X.env = (false, eval (.GeneratorExp elt [⟨tg, iter, ifs, 0⟩] scope gpos) X.env) :: starEach [] X.env := by rfl) :
    PE X (.Call (.Name "any" p) [.GeneratorExp elt [⟨tg, iter, ifs, 0⟩] scope gpos] [] pos) (tGx true P wi g tt te (own.map (·.2))) := by
  refine ⟨fun pins s σ H Q I h => ?_⟩
  refine wpAny_Call_Name_kw (ld_blt I hgl hm (show bootBuiltins "any" = some (.builtin "any") by exact boot_any) ?_)
  refine PyProof.Rows.callWith_builtin1 ?_ he (by rfl)
  rw [he]
  show wpAny _ _ (spliced ((false, eval (.GeneratorExp elt [⟨tg, iter, ifs, 0⟩] scope gpos) X.env) :: backTo pos (starEach [] X.env))) _ _ s
  exact Calls.spliced_cons (gen_make hr hN TB hcode ok hco nocell hdot hi hs pg pt pe I h fun v s5 hR => Calls.spliced_nil (call_anyX hr hR))
end GX

/-! ## Walks of generator expressions, by an invariant -/
namespace GX
open PySem PySem.Spec PyProof.Rows L2
theorem walk_any {J : It} {n : Nat} {st : Bool} {g : TG} {tt : TT} {te : TE} {vs : List Nat} {σ : L2.St} {Q : VK} (Pv : Nat → Hp → Prop) (hgo : ∀ i H, i < n → Pv i H → J.go i H) (hst : ∀ H, Pv n H → J.stop n H)
    (step : ∀ i x H H', i < n → Pv i H → J.yld i H x H' → g x (wipe σ vs) H' fun σ2 H2 => wipe σ2 vs = wipe σ vs ∧ tt σ2 H2 fun b H3 => if b = true then te σ2 H3 fun y H4 => ∃ c, y = .bl c ∧ if c = st then Q (.bl st) H4 else Pv (i + 1) H4 else Pv (i + 1) H3)
    (hd : ∀ H, Pv n H → Q (.bl (!st)) H) {H0 : Hp} (h0 : Pv 0 H0) : ∃ W : Nat → Nat → Hp → Prop, (∃ m, W 0 m H0) ∧ TurnT st J g tt te vs σ Q W := by
  refine ⟨fun i m H => m = n - i ∧ i ≤ n ∧ Pv i H, ⟨n, by simp, Nat.zero_le _, h0⟩, ?_⟩
  rintro i m H ⟨rfl, hi, p⟩
  by_cases hlt : i < n
  · exact .inr ⟨hgo i H hlt p, Pv (i + 1), fun H' p' => ⟨n - (i + 1), by omega, rfl, hlt, p'⟩, fun x H' y => step i x H H' hlt p y⟩
  · have e : i = n := by omega
    subst e
    exact .inl ⟨hst H p, hd H p⟩
/-- a text's signs -/
theorem walk_str {x : Str} {st : Bool} {g : TG} {tt : TT} {te : TE} {vs : List Nat} {σ : L2.St} {Q : VK} (Pv : Nat → Hp → Prop)
    (step : ∀ i c H, x.cps[i]? = some c → Pv i H → g (.str ⟨#[c]⟩) (wipe σ vs) H fun σ2 H2 => wipe σ2 vs = wipe σ vs ∧ tt σ2 H2 fun b H3 => if b = true then te σ2 H3 fun y H4 => ∃ c, y = .bl c ∧ if c = st then Q (.bl st) H4 else Pv (i + 1) H4 else Pv (i + 1) H3)
    (hd : ∀ H, Pv x.cps.size H → Q (.bl (!st)) H) {H0 : Hp} (h0 : Pv 0 H0) : ∃ W : Nat → Nat → Hp → Prop, (∃ m, W 0 m H0) ∧ TurnT st (Its x) g tt te vs σ Q W :=
  walk_any (J := Its x) (n := x.cps.size) Pv (fun i H h _ => h) (fun H _ => Nat.le_refl _) (fun i v H H' hi p y => by
    obtain ⟨rfl, c, e, rfl⟩ := y
    exact step i c H' e p) hd h0
/-- a tuple's items -/
theorem walk_tup {K : PySem.W.Frag} {a : Addr} {xs : List V} {st : Bool} {g : TG} {tt : TT} {te : TE} {vs : List Nat} {σ : L2.St} {Q : VK} (Pv : Nat → Hp → Prop) (hl : ∀ i H, Pv i H → SqT K H a xs)
    (step : ∀ i x H, xs[i]? = some x → Pv i H → g x (wipe σ vs) H fun σ2 H2 => wipe σ2 vs = wipe σ vs ∧ tt σ2 H2 fun b H3 => if b = true then te σ2 H3 fun y H4 => ∃ c, y = .bl c ∧ if c = st then Q (.bl st) H4 else Pv (i + 1) H4 else Pv (i + 1) H3)
    (hd : ∀ H, Pv xs.length H → Q (.bl (!st)) H) {H0 : Hp} (h0 : Pv 0 H0) : ∃ W : Nat → Nat → Hp → Prop, (∃ m, W 0 m H0) ∧ TurnT st (Itt K a) g tt te vs σ Q W :=
  walk_any (J := Itt K a) (n := xs.length) Pv (fun i H h p => ⟨xs, xs[i], hl i H p, by simp [h]⟩) (fun H p => ⟨xs, hl _ H p, Nat.le_refl _⟩) (fun i v H H' hi p y => by
    obtain ⟨rfl, y⟩ := y
    exact step i v H' (y xs (hl i H' p)) p) hd h0
/-- lo, lo + 1, .. -/
theorem walk_rng {lo : Int} {n : Nat} {st : Bool} {g : TG} {tt : TT} {te : TE} {vs : List Nat} {σ : L2.St} {Q : VK} (Pv : Nat → Hp → Prop)
    (step : ∀ i H, i < n → Pv i H → g (.int (lo + i)) (wipe σ vs) H fun σ2 H2 => wipe σ2 vs = wipe σ vs ∧ tt σ2 H2 fun b H3 => if b = true then te σ2 H3 fun y H4 => ∃ c, y = .bl c ∧ if c = st then Q (.bl st) H4 else Pv (i + 1) H4 else Pv (i + 1) H3)
    (hd : ∀ H, Pv n H → Q (.bl (!st)) H) {H0 : Hp} (h0 : Pv 0 H0) : ∃ W : Nat → Nat → Hp → Prop, (∃ m, W 0 m H0) ∧ TurnT st (Itr lo n) g tt te vs σ Q W :=
  walk_any (J := Itr lo n) (n := n) Pv (fun i H h _ => h) (fun H _ => Nat.le_refl _) (fun i v H H' hi p y => by
    obtain ⟨rfl, rfl⟩ := y
    exact step i H' hi p) hd h0
end GX

/-! # EV: defs as functions over data. The state of a frame: each slot a datum, or a list of the frame's own -/
namespace EV
open PySem PySem.Spec PyProof.Rows L2 Ver

abbrev D := PyData
structure Exc where
  cls : Str
  fs : List (Str × D)
inductive Sl where
  | d (x : D)
  /-- a list of one's own; pinned: an argument's, it stays in its slot -/
  | l (pin : Bool) (ds : List D)
  /-- an exception that was caught, at a, its dict at d -/
  | x (e : Exc) (a : Addr) (d : Option Addr)
abbrev Rho := List (Option Sl)
inductive R (α : Type) where
  | ok (a : α) (ρ : Rho)
  | ex (e : Exc) (ρ : Rho)
  | bad
abbrev M (α : Type) := Rho → R α
def bindM {α β : Type} (m : M α) (k : α → M β) : M β := fun ρ => match m ρ with
  | .ok a ρ' => k a ρ'
  | .ex e ρ' => .ex e ρ'
  | .bad => .bad
def pureM {α : Type} (a : α) : M α := fun ρ => .ok a ρ
def liftM {α : Type} (o : Option α) : M α := fun ρ => match o with
  | some a => .ok a ρ
  | none => .bad
/-- an operand: a datum, or what stands in a slot -/
inductive Ref where
  | val (x : D)
  | slot (i : Nat)
def slotD : Option (Option Sl) → Option D
  | some (some (.d x)) => some x
  | some (some (.l _ ds)) => some (.list ds)
  | _ => none
def rd (ρ : Rho) : Ref → Option D
  | .val x => some x
  | .slot i => slotD ρ[i]?
structure Cfg where
  K : PySem.W.Frag
  Ts : List Addr
  mg : Str → Option Value
/-- a def's entry: the arguments' addresses, what stood (all of it; the data's part), the lists handed in, what else must stay -/
structure Anc where
  pin : Nat → Option V
  h0 : Hp
  H0 : Hp
  S : List Addr
  gh : List (Addr × List V)
mutual
theorem dp_same {K : PySem.W.Frag} {H H' : Hp} (e : Same H H') : ∀ (d : D) (v : V), Dp K H v d → Dp K H' v d
  | .none, _, h => by cases h; exact .non
  | .bool _, _, h => by cases h; exact .bl _
  | .int _, _, h => by cases h; exact .int _
  | .str _, _, h => by cases h; exact .str _
  | .list ds, _, h => by
    cases h with
    | lst hs ha => exact .lst (e.seq hs) (dpAll_same e ds _ ha)
  | .tuple ds, _, h => by
    cases h with
    | tup hs ha =>
      refine .tup ?_ (dpAll_same e ds _ ha)
      rcases hs with (hs | ⟨o, hs⟩) | hs
      · exact .inl (.inl (e _ _ hs))
      · exact .inl (.inr ⟨o, e _ _ hs⟩)
      · exact .inr hs
  | .dict _, _, h => nomatch h
theorem dpAll_same {K : PySem.W.Frag} {H H' : Hp} (e : Same H H') : ∀ (ds : List D) (xs : List V), DpAll K H xs ds → DpAll K H' xs ds
  | [], _, h => by cases h; exact .nil
  | d :: ds, _, h => by
    cases h with
    | cons h1 h2 => exact .cons (dp_same e d _ h1) (dpAll_same e ds _ h2)
end
section
variable {K : PySem.W.Frag} {H : Hp}
theorem dpAll_len : ∀ {xs : List V} {ds : List D}, DpAll K H xs ds → xs.length = ds.length
  | _, _, .nil => rfl
  | _, _, .cons _ t => congrArg Nat.succ (dpAll_len t)
theorem dpAll_get : ∀ {xs : List V} {ds : List D} {i : Nat} {d : D}, DpAll K H xs ds → ds[i]? = some d → ∃ x, xs[i]? = some x ∧ Dp K H x d
  | _, _, _, _, .nil, e => by simp at e
  | _, _, 0, _, .cons h _, e => by
    have e' := Option.some.inj e
    exact ⟨_, rfl, e' ▸ h⟩
  | _, _, i + 1, _, .cons _ t, e => dpAll_get (i := i) t (by simpa using e)
theorem dpAll_get' : ∀ {xs : List V} {ds : List D} {i : Nat} {x : V}, DpAll K H xs ds → xs[i]? = some x → ∃ d, ds[i]? = some d ∧ Dp K H x d
  | _, _, _, _, .nil, e => by simp at e
  | _, _, 0, _, .cons h _, e => by
    have e' := Option.some.inj e
    exact ⟨_, rfl, e' ▸ h⟩
  | _, _, i + 1, _, .cons _ t, e => dpAll_get' (i := i) t (by simpa using e)
theorem dpAll_app : ∀ {xs ys : List V} {ds es : List D}, DpAll K H xs ds → DpAll K H ys es → DpAll K H (xs ++ ys) (ds ++ es)
  | _, _, _, _, .nil, s => s
  | _, _, _, _, .cons h t, s => .cons h (dpAll_app t s)
theorem dpAll_take : ∀ {xs : List V} {ds : List D} (n : Nat), DpAll K H xs ds → DpAll K H (xs.take n) (ds.take n)
  | _, _, 0, _ => by rw [List.take_zero, List.take_zero]; exact .nil
  | _, _, _ + 1, .nil => .nil
  | _, _, n + 1, .cons h t => .cons h (dpAll_take n t)
theorem dpAll_drop : ∀ {xs : List V} {ds : List D} (n : Nat), DpAll K H xs ds → DpAll K H (xs.drop n) (ds.drop n)
  | _, _, 0, h => h
  | _, _, _ + 1, .nil => .nil
  | _, _, n + 1, .cons _ t => dpAll_drop n t
theorem dpAll_set : ∀ {xs : List V} {ds : List D} {v : V} {d : D} (n : Nat), DpAll K H xs ds → Dp K H v d → DpAll K H (xs.set n v) (ds.set n d)
  | _, _, _, _, _, .nil, _ => .nil
  | _, _, _, _, 0, .cons _ t, q => .cons q t
  | _, _, _, _, n + 1, .cons h t, q => .cons h (dpAll_set n t q)
theorem dpAll_nil {ds : List D} (h : DpAll K H [] ds) : ds = [] := by cases h; rfl
end
/-- an exception's fields -/
def FldOk (C : Cfg) (h : Hp) (e : Exc) (d : Option Addr) : Prop := (e.fs = [] ∧ d = none) ∨ ∃ dd vs, d = some dd ∧ h dd = some (.xd ((e.fs.map (·.1)).zip vs)) ∧ DpAll C.K h vs (e.fs.map (·.2))
theorem FldOk.mono {C : Cfg} {h h' : Hp} {e : Exc} {d : Option Addr} (s : Same h h') (q : FldOk C h e d) : FldOk C h' e d := by
  rcases q with q | ⟨dd, vs, h1, h2, h3⟩
  · exact .inl q
  · exact .inr ⟨dd, vs, h1, s _ _ h2, dpAll_same s _ _ h3⟩
def SlOk (C : Cfg) (A : Anc) (h H : Hp) (i : Nat) (v : V) : Sl → Prop
  | .d x => Dp C.K h v x
  | .l p ds => ∃ a xs, v = .ref a ∧ H a = some (.lst xs) ∧ h a = none ∧ DpAll C.K h xs ds ∧ (p = true → A.pin i = some v ∧ a ∈ A.S) ∧ (p = false → A.H0 a = none)
  | .x e a d => v = .ref a ∧ FldOk C h e d
/-- slot i holds a list of the frame's own, at a -/
def OwnAt (ρ : Rho) (σ : L2.St) (i : Nat) (a : Addr) : Prop := (∃ p ds, ρ[i]? = some (some (.l p ds))) ∧ σ[i]? = some (some (.ref a))
structure Fr (C : Cfg) (A : Anc) (h : Hp) (ρ : Rho) (σ : L2.St) (H : Hp) : Prop where
  sub : Same h H
  ext : Same A.h0 h
  new : ∀ a, A.h0 a = none → A.H0 a ≠ none → h a = none
  keep : ∀ a o, A.H0 a = some o → a ∉ A.S → a ∉ C.Ts → H a = some o
  al : ∀ a, A.H0 a ≠ none → H a ≠ none
  len : σ.length = ρ.length
  tabs : ∀ P ∈ C.Ts, GxR.TabG H P ∧ h P = none
  slot : ∀ i s, ρ[i]? = some (some s) → ∃ v, σ[i]? = some (some v) ∧ SlOk C A h H i v s
  dist : ∀ i j a, OwnAt ρ σ i a → OwnAt ρ σ j a → i = j
  gh : ∀ p ∈ A.gh, H p.1 = some (.lst p.2) ∧ h p.1 = none ∧ A.H0 p.1 = none ∧ p.1 ∉ C.Ts ∧ ∀ i, ¬ OwnAt ρ σ i p.1
/-- more data are laid, all else stays -/
structure Ext (h H h' H' : Hp) : Prop where
  hh : Same h h'
  sub : Same h' H'
  HH : Same H H'
  new : ∀ a, h a = none → H a ≠ none → h' a = none
theorem Ext.refl {h H : Hp} (s : Same h H) : Ext h H h H := ⟨fun _ _ e => e, s, fun _ _ e => e, fun _ e _ => e⟩
theorem Ext.trans {h H h1 H1 h2 H2 : Hp} (a : Ext h H h1 H1) (b : Ext h1 H1 h2 H2) : Ext h H h2 H2 := ⟨fun x o e => b.hh x o (a.hh x o e), b.sub, fun x o e => b.HH x o (a.HH x o e), fun x e n => b.new x (a.new x e n) fun z => by
  cases q : H x with
  | none => exact n q
  | some o => rw [a.HH x o q] at z; cases z⟩
theorem same_upd {h : Hp} {p : Addr} (n : h p = none) (o : HO) : Same h (upd h p o) := fun b u q => by rw [upd_ne (ne_of_none q n)]; exact q
theorem same_upd2 {h H : Hp} {p : Addr} (s : Same h H) (o : HO) : Same (upd h p o) (upd H p o) := fun b u q => by
  by_cases e : b = p
  · subst e; rw [upd_same] at q ⊢; exact q
  · rw [upd_ne e] at q ⊢; exact s b u q
theorem none_of {h H : Hp} {p : Addr} (s : Same h H) (n : H p = none) : h p = none := by
  cases q : h p with
  | none => rfl
  | some o => rw [s p o q] at n; cases n
/-- a new thing -/
theorem Ext.lay {h H : Hp} {p : Addr} (s : Same h H) (n : H p = none) (o : HO) : Ext h H (upd h p o) (upd H p o) :=
  ⟨same_upd (none_of s n) o, same_upd2 s o, same_upd n o, fun a e m => by rw [upd_ne (fun z => m (by rw [z]; exact n))]; exact e⟩
section
variable {C : Cfg} {A : Anc} {h h' : Hp} {ρ : Rho} {σ : L2.St} {H H' : Hp}
theorem ne_some {H : Hp} {a : Addr} {o : HO} (e : H a = some o) : H a ≠ none := fun z => by rw [e] at z; cases z
theorem SlOk.ext {i : Nat} {v : V} {s : Sl} (e : Ext h H h' H') (q : SlOk C A h H i v s) : SlOk C A h' H' i v s := by
  cases s with
  | d x => exact dp_same e.hh x v q
  | x e' a d => exact ⟨q.1, q.2.mono e.hh⟩
  | l p ds =>
    obtain ⟨a, xs, q1, q2, q3, q4, q5⟩ := q
    exact ⟨a, xs, q1, e.HH _ _ q2, e.new a q3 (ne_some q2), dpAll_same e.hh ds xs q4, q5⟩
theorem tabG_same {P : Addr} (h : GxR.TabG H P) (e : Same H H') : GxR.TabG H' P := by
  obtain ⟨ps, h1, h2⟩ := h
  exact ⟨ps, e _ _ h1, h2⟩
theorem tabG_ne {P : Addr} (h : GxR.TabG H P) : H P ≠ none := by
  obtain ⟨ps, h1, _⟩ := h
  exact ne_some h1
theorem Fr.extend (F : Fr C A h ρ σ H) (e : Ext h H h' H') : Fr C A h' ρ σ H' where
  sub := e.sub
  ext := fun a o q => e.hh a o (F.ext a o q)
  new := fun a q n => e.new a (F.new a q n) (F.al a n)
  keep := fun a o q n1 n2 => e.HH a o (F.keep a o q n1 n2)
  al := fun a n z => by
    cases q : H a with
    | none => exact F.al a n q
    | some o => rw [e.HH a o q] at z; cases z
  len := F.len
  tabs := fun P hP => ⟨tabG_same (F.tabs P hP).1 e.HH, e.new P (F.tabs P hP).2 (tabG_ne (F.tabs P hP).1)⟩
  slot := fun i s q => by
    obtain ⟨v, q1, q2⟩ := F.slot i s q
    exact ⟨v, q1, q2.ext e⟩
  dist := F.dist
  gh := fun p hp => by
    obtain ⟨q1, q2, q3, q4, q5⟩ := F.gh p hp
    exact ⟨e.HH _ _ q1, e.new _ q2 (ne_some q1), q3, q4, q5⟩
/-- what an operand's value is -/
def RepW (C : Cfg) (h H : Hp) (v : V) (d : D) : Prop := Dp C.K h v d ∨ ∃ a xs ds, v = .ref a ∧ d = .list ds ∧ H a = some (.lst xs) ∧ DpAll C.K h xs ds
theorem RepW.dp {v : V} {d : D} (s : Same h H) (q : RepW C h H v d) : Dp C.K H v d := by
  rcases q with q | ⟨a, xs, ds, rfl, rfl, q1, q2⟩
  · exact dp_same s d v q
  · exact .lst (SqL.of q1) (dpAll_same s ds xs q2)
theorem RepW.list {v : V} {ds : List D} (s : Same h H) (q : RepW C h H v (.list ds)) : ∃ a xs, v = .ref a ∧ SqL C.K H a xs ∧ DpAll C.K h xs ds := by
  rcases q with q | ⟨a, xs, ds', rfl, e, q1, q2⟩
  · cases q with
    | lst hs ha => exact ⟨_, _, rfl, s.seq hs, ha⟩
  · cases e
    exact ⟨a, xs, rfl, SqL.of q1, q2⟩
theorem sqT_same {K : PySem.W.Frag} {a : Addr} {xs : List V} (e : Same H H') (h : SqT K H a xs) : SqT K H' a xs := by
  rcases h with (h | ⟨o, h⟩) | h
  · exact .inl (.inl (e _ _ h))
  · exact .inl (.inr ⟨o, e _ _ h⟩)
  · exact .inr h
theorem RepW.tuple {v : V} {ds : List D} (s : Same h H) (q : RepW C h H v (.tuple ds)) : ∃ a xs, v = .ref a ∧ SqT C.K H a xs ∧ DpAll C.K h xs ds := by
  rcases q with q | ⟨a, xs, ds', rfl, e, q1, q2⟩
  · cases q with
    | tup hs ha => exact ⟨_, _, rfl, sqT_same s hs, ha⟩
  · cases e
theorem RepW.int {v : V} {i : Int} (q : RepW C h H v (.int i)) : v = .int i := by
  rcases q with q | ⟨a, xs, ds', rfl, e, q1, q2⟩
  · cases q; rfl
  · cases e
theorem RepW.str {v : V} {i : Str} (q : RepW C h H v (.str i)) : v = .str i := by
  rcases q with q | ⟨a, xs, ds', rfl, e, q1, q2⟩
  · cases q; rfl
  · cases e
theorem RepW.bool {v : V} {i : Bool} (q : RepW C h H v (.bool i)) : v = .bl i := by
  rcases q with q | ⟨a, xs, ds', rfl, e, q1, q2⟩
  · cases q; rfl
  · cases e
theorem RepW.none {v : V} (q : RepW C h H v .none) : v = .non := by
  rcases q with q | ⟨a, xs, ds', rfl, e, q1, q2⟩
  · cases q; rfl
  · cases e
def RefOk (C : Cfg) (h : Hp) (σ : L2.St) (v : V) : Ref → Prop
  | .val x => Dp C.K h v x
  | .slot i => σ[i]? = some (some v)
theorem RefOk.mono {v : V} {r : Ref} (e : Same h h') (q : RefOk C h σ v r) : RefOk C h' σ v r := by
  cases r with
  | val x => exact dp_same e x v q
  | slot i => exact q
theorem Fr.view (F : Fr C A h ρ σ H) {v : V} {r : Ref} {d : D} (q : RefOk C h σ v r) (e : rd ρ r = some d) : RepW C h H v d := by
  cases r with
  | val x => cases e; exact .inl q
  | slot i =>
    have e : slotD ρ[i]? = some d := e
    cases q1 : ρ[i]? with
    | none => rw [q1] at e; cases e
    | some o =>
      cases o with
      | none => rw [q1] at e; cases e
      | some s =>
        obtain ⟨w, q2, q3⟩ := F.slot i s q1
        have : w = v := by
          rw [show σ[i]? = some (some v) from q] at q2
          cases q2; rfl
        subst this
        rw [q1] at e
        cases s with
        | d x => cases e; exact .inl q3
        | x _ _ _ => cases e
        | l p ds =>
          cases e
          obtain ⟨a, xs, rfl, k1, k2, k3, _⟩ := q3
          exact .inr ⟨a, xs, ds, rfl, rfl, k1, k3⟩
end
/-- the error's class and dict -/
def ExcOk (C : Cfg) (H0 h H : Hp) (e : Exc) (cls : Value) (dd : Option Addr) : Prop := ∃ Ca, C.mg e.cls = some (.ref Ca) ∧ cls = .ref Ca ∧
  ((e.fs = [] ∧ dd = none) ∨ ∃ a vs, dd = some a ∧ H0 a = none ∧ h a = none ∧ H a = some (.xd ((e.fs.map (·.1)).zip vs)) ∧ DpAll C.K h vs (e.fs.map (·.2)))
theorem ExcOk.wider {C : Cfg} {H0 H1 h H : Hp} {e : Exc} {cls : Value} {dd : Option Addr} (k : ∀ a, H1 a = none → H0 a = none) (q : ExcOk C H1 h H e cls dd) : ExcOk C H0 h H e cls dd := by
  obtain ⟨Ca, h1, h2, q⟩ := q
  refine ⟨Ca, h1, h2, ?_⟩
  rcases q with q | ⟨a, vs, q1, q2, q3⟩
  · exact .inl q
  · exact .inr ⟨a, vs, q1, k a q2, q3⟩
def Thrown (C : Cfg) (E : WX) (A : Anc) (h : Hp) (e : Exc) (ρ' : Rho) : Prop := ∀ cls dd σ' h' H', Fr C A h' ρ' σ' H' → Same h h' → ExcOk C A.H0 h' H' e cls dd → E cls dd σ' H'
/-- an expression's datum; an operand; a test -/
def tX (C : Cfg) (E : WX) (f : M D) : TE := fun σ H Q => ∃ A h ρ, Fr C A h ρ σ H ∧ match f ρ with
  | .ok d ρ' => ∀ v h' H', Fr C A h' ρ' σ H' → Same h h' → Dp C.K h' v d → Q v H'
  | .ex e ρ' => Thrown C E A h e ρ'
  | .bad => False
def tO (C : Cfg) (E : WX) (f : M Ref) : TE := fun σ H Q => ∃ A h ρ, Fr C A h ρ σ H ∧ match f ρ with
  | .ok r ρ' => ∀ v h' H', Fr C A h' ρ' σ H' → Same h h' → RefOk C h' σ v r → Q v H'
  | .ex e ρ' => Thrown C E A h e ρ'
  | .bad => False
def tT (C : Cfg) (E : WX) (f : M Bool) : TT := fun σ H Q => ∃ A h ρ, Fr C A h ρ σ H ∧ match f ρ with
  | .ok b ρ' => ∀ h' H', Fr C A h' ρ' σ H' → Same h h' → Q b H'
  | .ex e ρ' => Thrown C E A h e ρ'
  | .bad => False
abbrev PX (C : Cfg) (E : WX) (X : Cx) (e : Expr) (f : M D) : Prop := PE X e (tX C E f)
abbrev PO (C : Cfg) (E : WX) (X : Cx) (e : Expr) (f : M Ref) : Prop := PE X e (tO C E f)
abbrev PB (C : Cfg) (E : WX) (X : Cx) (e : Expr) (f : M Bool) : Prop := PT X e (tT C E f)
theorem Thrown.mono {C : Cfg} {E : WX} {A : Anc} {h h1 : Hp} {e : Exc} {ρ' : Rho} (q : Thrown C E A h e ρ') (s : Same h h1) : Thrown C E A h1 e ρ' :=
  fun cls dd σ' h' H' F s' x => q cls dd σ' h' H' F (fun a o z => s' a o (s a o z)) x
end EV

/-! # EV 2: expressions -/
namespace EV
open PySem PySem.Spec PyProof.Rows L2 Ver
def wpM {α : Type} (C : Cfg) (E : WX) (A : Anc) (h : Hp) (P : α → Rho → Prop) : R α → Prop
  | .ok a ρ' => P a ρ'
  | .ex e ρ' => Thrown C E A h e ρ'
  | .bad => False
section
variable {α β : Type} {C : Cfg} {E : WX} {A : Anc} {h h1 : Hp}
theorem wpM_bind {m : M α} {k : α → M β} {ρ : Rho} {P : β → Rho → Prop} (q : wpM C E A h P (bindM m k ρ)) : wpM C E A h (fun a ρ1 => wpM C E A h P (k a ρ1)) (m ρ) := by
  unfold bindM at q
  cases e : m ρ with
  | ok a ρ1 => rw [e] at q; exact q
  | ex e1 ρ1 => rw [e] at q; exact q
  | bad => rw [e] at q; exact q
theorem wpM_imp {r : R α} {P P' : α → Rho → Prop} (q : wpM C E A h P r) (k : ∀ a ρ', P a ρ' → P' a ρ') : wpM C E A h P' r := by
  cases r with
  | ok a ρ1 => exact k a ρ1 q
  | ex e1 ρ1 => exact q
  | bad => exact q
theorem wpM_h {r : R α} {P P' : α → Rho → Prop} (s : Same h h1) (q : wpM C E A h P r) (k : ∀ a ρ', P a ρ' → P' a ρ') : wpM C E A h1 P' r := by
  cases r with
  | ok a ρ1 => exact k a ρ1 q
  | ex e1 ρ1 => exact q.mono s
  | bad => exact q
theorem wpM_lift {o : Option α} {ρ : Rho} {P : α → Rho → Prop} (q : wpM C E A h P (liftM o ρ)) : ∃ a, o = some a ∧ P a ρ := by
  cases o with
  | none => exact q.elim
  | some a => exact ⟨a, rfl, q⟩
end
/-- what a datum, an operand, a test is to bring -/
def kX (C : Cfg) (A : Anc) (h : Hp) (σ : L2.St) (Q : VK) : D → Rho → Prop := fun d ρ' => ∀ v h' H', Fr C A h' ρ' σ H' → Same h h' → Dp C.K h' v d → Q v H'
def kO (C : Cfg) (A : Anc) (h : Hp) (σ : L2.St) (Q : VK) : Ref → Rho → Prop := fun r ρ' => ∀ v h' H', Fr C A h' ρ' σ H' → Same h h' → RefOk C h' σ v r → Q v H'
def kT (C : Cfg) (A : Anc) (h : Hp) (σ : L2.St) (Q : Bool → Hp → Prop) : Bool → Rho → Prop := fun b ρ' => ∀ h' H', Fr C A h' ρ' σ H' → Same h h' → Q b H'
theorem tX_eq {C : Cfg} {E : WX} {f : M D} {σ : L2.St} {H : Hp} {Q : VK} : tX C E f σ H Q ↔ ∃ A h ρ, Fr C A h ρ σ H ∧ wpM C E A h (kX C A h σ Q) (f ρ) := by
  constructor
  · rintro ⟨A, h, ρ, F, m⟩
    refine ⟨A, h, ρ, F, ?_⟩
    cases e : f ρ <;> rw [e] at m <;> exact m
  · rintro ⟨A, h, ρ, F, m⟩
    refine ⟨A, h, ρ, F, ?_⟩
    cases e : f ρ <;> rw [e] at m <;> exact m
theorem tO_eq {C : Cfg} {E : WX} {f : M Ref} {σ : L2.St} {H : Hp} {Q : VK} : tO C E f σ H Q ↔ ∃ A h ρ, Fr C A h ρ σ H ∧ wpM C E A h (kO C A h σ Q) (f ρ) := by
  constructor
  · rintro ⟨A, h, ρ, F, m⟩
    refine ⟨A, h, ρ, F, ?_⟩
    cases e : f ρ <;> rw [e] at m <;> exact m
  · rintro ⟨A, h, ρ, F, m⟩
    refine ⟨A, h, ρ, F, ?_⟩
    cases e : f ρ <;> rw [e] at m <;> exact m
theorem tT_eq {C : Cfg} {E : WX} {f : M Bool} {σ : L2.St} {H : Hp} {Q : Bool → Hp → Prop} : tT C E f σ H Q ↔ ∃ A h ρ, Fr C A h ρ σ H ∧ wpM C E A h (kT C A h σ Q) (f ρ) := by
  constructor
  · rintro ⟨A, h, ρ, F, m⟩
    refine ⟨A, h, ρ, F, ?_⟩
    cases e : f ρ <;> rw [e] at m <;> exact m
  · rintro ⟨A, h, ρ, F, m⟩
    refine ⟨A, h, ρ, F, ?_⟩
    cases e : f ρ <;> rw [e] at m <;> exact m
section
variable {C : Cfg} {E : WX} {X : Cx} {pos : Pos}
/-! ### constants, names -/
theorem px_c {e : Expr} {v : V} {d : D} (he : PE X e (tC v)) (hd : ∀ K H, Dp K H v d) : PX C E X e (pureM d) :=
  PE.weak he fun σ H Q q => by
    obtain ⟨A, h, ρ, F, m⟩ := tX_eq.mp q
    exact (show kX C A h σ Q d ρ from m) v h H F (fun _ _ e => e) (hd _ _)
theorem px_int {i : Int} {j : Nat} : PX C E X (.Constant (.int i) j pos) (pureM (.int i)) := px_c pe_int fun _ _ => .int _
theorem px_str {i : Str} {j : Nat} : PX C E X (.Constant (.str i) j pos) (pureM (.str i)) := px_c pe_str fun _ _ => .str _
theorem px_bl {i : Bool} {j : Nat} : PX C E X (.Constant (.bool i) j pos) (pureM (.bool i)) := px_c pe_bl fun _ _ => .bl _
theorem px_non {j : Nat} : PX C E X (.Constant .none j pos) (pureM .none) := px_c pe_non fun _ _ => .non
theorem px_gint {x : Str} {i : Int} (hg : Gl X x) (h : ∃ t, X.mg x = some (.int i t)) (hd : (x == ("__debug__" : Str)) = false := by decide) : PX C E X (.Name x pos) (pureM (.int i)) := by
  obtain ⟨t, h⟩ := h
  exact px_c (v := .int i) (pe_glob hg h ⟨t, rfl⟩ hd) fun _ _ => .int _
theorem px_gstr {x : Str} {i : Str} (hg : Gl X x) (h : ∃ t, X.mg x = some (.str i t)) (hd : (x == ("__debug__" : Str)) = false := by decide) : PX C E X (.Name x pos) (pureM (.str i)) := by
  obtain ⟨t, h⟩ := h
  exact px_c (v := .str i) (pe_glob hg h ⟨t, rfl⟩ hd) fun _ _ => .str _
def nmO (i : Nat) : M Ref := fun ρ => match ρ[i]? with
  | some (some (.d x)) => .ok (.val x) ρ
  | some (some (.l _ _)) => .ok (.slot i) ρ
  | _ => .bad
/-- a name whose value is handed on: a list of one's own is one's own no more -/
def nmX (i : Nat) : M D := fun ρ => match ρ[i]? with
  | some (some (.d x)) => .ok x ρ
  | some (some (.l false ds)) => .ok (.list ds) (ρ.set i (some (.d (.list ds))))
  | _ => .bad
theorem Fr.at {A : Anc} {h : Hp} {ρ : Rho} {σ : L2.St} {H : Hp} (F : Fr C A h ρ σ H) {i : Nat} {s : Sl} (e : ρ[i]? = some (some s)) : ∃ v, σ[i]? = some (some v) ∧ SlOk C A h H i v s := F.slot i s e
theorem ownAt_set {ρ : Rho} {σ : L2.St} {i j : Nat} {a : Addr} {x : D} (q : OwnAt (ρ.set i (some (.d x))) σ j a) : j ≠ i ∧ OwnAt ρ σ j a := by
  obtain ⟨⟨p, ds, e⟩, r⟩ := q
  by_cases z : j = i
  · subst z
    rw [List.getElem?_set] at e
    simp only [if_true] at e
    split at e <;> cases e
  · rw [List.getElem?_set_ne (Ne.symm z)] at e
    exact ⟨z, ⟨p, ds, e⟩, r⟩
theorem Fr.freeze {A : Anc} {h : Hp} {ρ : Rho} {σ : L2.St} {H : Hp} (F : Fr C A h ρ σ H) {i : Nat} {ds : List D} (e : ρ[i]? = some (some (.l false ds))) :
    ∃ v h', σ[i]? = some (some v) ∧ Same h h' ∧ Dp C.K h' v (.list ds) ∧ Fr C A h' (ρ.set i (some (.d (.list ds)))) σ H := by
  obtain ⟨v, e1, a, xs, rfl, e2, e3, e4, _, e5⟩ := F.slot i _ e
  have na := e5 rfl
  have sm : Same h (upd h a (.lst xs)) := same_upd e3 _
  have own : OwnAt ρ σ i a := ⟨⟨_, _, e⟩, e1⟩
  have hi : i < ρ.length := (List.getElem?_eq_some_iff.mp e).1
  refine ⟨.ref a, upd h a (.lst xs), e1, sm, .lst (SqL.of upd_same) (dpAll_same sm ds xs e4), ⟨fun b o q => ?_, fun b o q => sm b o (F.ext b o q), fun b q n => ?_, F.keep, F.al, by rw [List.length_set]; exact F.len, fun P hP => ?_, fun j s q => ?_, fun j k b q1 q2 => F.dist j k b (ownAt_set q1).2 (ownAt_set q2).2, fun p hp => ?_⟩⟩
  · by_cases z : b = a
    · subst z; rw [upd_same] at q; rw [e2]; exact q
    · rw [upd_ne z] at q; exact F.sub b o q
  · rw [upd_ne fun z => n (by rw [z]; exact na)]
    exact F.new b q n
  · obtain ⟨k1, k2⟩ := F.tabs P hP
    refine ⟨k1, ?_⟩
    rw [upd_ne ?_]
    · exact k2
    · rintro rfl
      obtain ⟨ps, k3, _⟩ := k1
      rw [e2] at k3; cases k3
  · by_cases z : j = i
    · subst z
      rw [List.getElem?_set_self hi] at q
      cases q
      exact ⟨_, e1, .lst (SqL.of upd_same) (dpAll_same sm ds xs e4)⟩
    · rw [List.getElem?_set_ne (Ne.symm z)] at q
      obtain ⟨w, k1, k2⟩ := F.slot j s q
      refine ⟨w, k1, ?_⟩
      cases s with
      | d x => exact dp_same sm x w k2
      | x _ _ _ => exact ⟨k2.1, k2.2.mono sm⟩
      | l p es =>
        obtain ⟨b, ys, rfl, m1, m2, m3, m4, m5⟩ := k2
        refine ⟨b, ys, rfl, m1, ?_, dpAll_same sm es ys m3, m4, m5⟩
        rw [upd_ne fun y => z (F.dist j i a ⟨⟨_, _, q⟩, by rw [k1, y]⟩ own)]
        exact m2
  · obtain ⟨k1, k2, k3, k4, k5⟩ := F.gh p hp
    refine ⟨k1, ?_, k3, k4, fun j q => k5 j (ownAt_set q).2⟩
    rw [upd_ne fun y => k5 i (by rw [y]; exact own)]
    exact k2
theorem po_name {i : Nat} {x : Str} (he : PE X (.Name x pos) (tVar i)) : PO C E X (.Name x pos) (nmO i) :=
  PE.weak he fun σ H Q q => by
    obtain ⟨A, h, ρ, F, m⟩ := tO_eq.mp q
    unfold nmO at m
    split at m
    · rename_i d e
      obtain ⟨v, e1, e2⟩ := F.slot i _ e
      exact ⟨v, e1, (show kO C A h σ Q (.val d) ρ from m) v h H F (fun _ _ e => e) e2⟩
    · rename_i p ds e
      obtain ⟨v, e1, e2⟩ := F.slot i _ e
      exact ⟨v, e1, (show kO C A h σ Q (.slot i) ρ from m) v h H F (fun _ _ e => e) e1⟩
    · exact m.elim
theorem px_name {i : Nat} {x : Str} (he : PE X (.Name x pos) (tVar i)) : PX C E X (.Name x pos) (nmX i) :=
  PE.weak he fun σ H Q q => by
    obtain ⟨A, h, ρ, F, m⟩ := tX_eq.mp q
    unfold nmX at m
    split at m
    · rename_i d e
      obtain ⟨v, e1, e2⟩ := F.slot i _ e
      exact ⟨v, e1, (show kX C A h σ Q d ρ from m) v h H F (fun _ _ e => e) e2⟩
    · rename_i ds e
      obtain ⟨v, h', e1, e2, e3, e4⟩ := F.freeze e
      exact ⟨v, e1, (show kX C A h σ Q (.list ds) _ from m) v h' H e4 e2 e3⟩
    · exact m.elim
def valO (f : M D) : M Ref := bindM f fun d => pureM (.val d)
theorem po_of {e : Expr} {f : M D} (he : PX C E X e f) : PO C E X e (valO f) :=
  PE.weak he fun σ H Q q => by
    obtain ⟨A, h, ρ, F, m⟩ := tO_eq.mp q
    exact tX_eq.mpr ⟨A, h, ρ, F, wpM_imp (wpM_bind m) fun d ρ1 m1 v h1 H1 F1 s1 q1 => (show kO C A h σ Q (.val d) ρ1 from m1) v h1 H1 F1 s1 q1⟩
/-! ### operations on two data -/
def opM (g : D → D → Option D) (a b : Ref) : M D := fun ρ => match rd ρ a, rd ρ b with
  | some x, some y => liftM (g x y) ρ
  | _, _ => .bad
def bop (g : D → D → Option D) (fa fb : M Ref) : M D := bindM fa fun a => bindM fb fun b => opM g a b
/-- a rule of values serves a function of data -/
def OpD (C : Cfg) (r : R2) (g : D → D → Option D) : Prop := ∀ h H x y a b d (Q : VK), Same h H → RepW C h H x a → RepW C h H y b → g a b = some d → (∀ v h' H', Ext h H h' H' → Dp C.K h' v d → Q v H') → r x y H Q
theorem run_op {A : Anc} {h : Hp} {ρ : Rho} {σ : L2.St} {H : Hp} {Q : VK} {r : R2} {g : D → D → Option D} (hg : OpD C r g) (F : Fr C A h ρ σ H) {ra rb : Ref} {x y : V} (q1 : RefOk C h σ x ra) (q2 : RefOk C h σ y rb) (m : wpM C E A h (kX C A h σ Q) (opM g ra rb ρ)) : r x y H Q := by
  unfold opM at m
  cases e1 : rd ρ ra with
  | none => rw [e1] at m; exact m.elim
  | some a =>
    cases e2 : rd ρ rb with
    | none => rw [e1, e2] at m; exact m.elim
    | some b =>
      rw [e1, e2] at m
      obtain ⟨d, e3, m⟩ := wpM_lift m
      exact hg h H x y a b d Q F.sub (F.view q1 e1) (F.view q2 e2) e3 fun v h' H' e q => m v h' H' (F.extend e) e.hh q
theorem t2_of {r : R2} {g : D → D → Option D} {fa fb : M Ref} (hg : OpD C r g) : ∀ σ H Q, tX C E (bop g fa fb) σ H Q → tOp r (tO C E fa) (tO C E fb) σ H Q := fun σ H Q q => by
  obtain ⟨A, h, ρ, F, m⟩ := tX_eq.mp q
  refine tO_eq.mpr ⟨A, h, ρ, F, wpM_imp (wpM_bind m) fun ra ρ1 m1 x h1 H1 F1 s1 q1 => ?_⟩
  refine tO_eq.mpr ⟨A, h1, ρ1, F1, wpM_h s1 (wpM_bind m1) fun rb ρ2 m2 y h2 H2 F2 s2 q2 => ?_⟩
  refine run_op hg F2 (q1.mono s2) q2 (wpM_h (E := E) (fun a o e => s2 a o (s1 a o e)) m2 fun d ρ' k v h' H' F' s' q' => k v h' H' F' (fun a o e => s' a o (s2 a o (s1 a o e))) q')
theorem px_op {op : Operator} {a b : Expr} {r : R2} {g : D → D → Option D} {fa fb : M Ref} (ho : OpR X (binaryOp op) r) (hg : OpD C r g) (ha : PO C E X a fa) (hb : PO C E X b fb) : PX C E X (.BinOp a op b pos) (bop g fa fb) := PE.weak (pe_op ho ha hb) (t2_of hg)
theorem px_cmp {op : CmpOp} {a b : Expr} {r : R2} {g : D → D → Option D} {fa fb : M Ref} (ho : OpR X (compareOp op) r) (hg : OpD C r g) (ha : PO C E X a fa) (hb : PO C E X b fb) (hm : behindInMarks op b = false) : PX C E X (.Compare a [op] [b] pos) (bop g fa fb) := PE.weak (pe_cmpR ho ha hb hm) (t2_of hg)
/-- a datum's truth, of bools alone -/
def boolD : D → Option Bool
  | .bool b => some b
  | _ => none
def tst (f : M D) : M Bool := bindM f fun d => liftM (boolD d)
theorem boolD_some {d : D} {b : Bool} (h : boolD d = some b) : d = .bool b := by cases d <;> cases h; rfl
theorem dp_bool {K : PySem.W.Frag} {H : Hp} {v : V} {b : Bool} (h : Dp K H v (.bool b)) : v = .bl b := by cases h; rfl
theorem tX_test {f : M D} {σ : L2.St} {H : Hp} {Q : Bool → Hp → Prop} (q : tT C E (tst f) σ H Q) : tX C E f σ H fun x H1 => ∃ c, x = .bl c ∧ Q c H1 := by
  obtain ⟨A, h, ρ, F, m⟩ := tT_eq.mp q
  refine tX_eq.mpr ⟨A, h, ρ, F, wpM_imp (wpM_bind m) fun d ρ1 m1 v h1 H1 F1 s1 q1 => ?_⟩
  obtain ⟨b, e, m1⟩ := wpM_lift m1
  have := boolD_some e
  subst this
  exact ⟨b, dp_bool q1, m1 h1 H1 F1 s1⟩
theorem pb_cmp {op : CmpOp} {a b : Expr} {r : R2} {g : D → D → Option D} {fa fb : M Ref} (ho : OpR X (compareOp op) r) (hg : OpD C r g) (ha : PO C E X a fa) (hb : PO C E X b fb) (hm : behindInMarks op b = false) : PB C E X (.Compare a [op] [b] pos) (tst (bop g fa fb)) :=
  PT.weak (pt_cmpR ho ha hb hm) fun σ H Q q => t2_of hg _ _ _ (tX_test q)
/-- a bool's expression as a test -/
theorem pb_val {e : Expr} {f : M D} (h : PX C E X e f) (he : ∀ whole, isTrue e X.env whole = (do let v ← whole; standAt e.pos; holding [v] (truthy v)) := by intro _; rfl) : PB C E X e (tst f) :=
  PT.weak (pt_val h he) fun σ H Q q => tX_test q
/-- the truth of any datum -/
def truD : D → Option Bool
  | .none => some false
  | .bool b => some b
  | .int i => some (i != 0)
  | .str x => if x.length ≤ 1000000 then some (x.length != 0) else none
  | .list ds => some (!ds.isEmpty)
  | .tuple ds => some (!ds.isEmpty)
  | .dict _ => none
def truM (a : Ref) : M Bool := fun ρ => match rd ρ a with
  | some x => liftM (truD x) ρ
  | none => .bad
def tru (f : M Ref) : M Bool := bindM f truM
theorem big_le : 1000000 ≤ sizeLine := by decide
theorem truV_of {h H : Hp} {v : V} {d : D} {b : Bool} (s : Same h H) (q : RepW C h H v d) (e : truD d = some b) : TruV C.K v H b := by
  cases d with
  | none => cases e; cases q.none; rfl
  | bool b => cases e; cases q.bool; rfl
  | int i => cases e; cases q.int; rfl
  | str x =>
    cases q.str
    have e : (if x.length ≤ 1000000 then some (x.length != 0) else Option.none) = some b := e
    by_cases hl : x.length ≤ 1000000
    · rw [if_pos hl] at e
      cases e
      refine ⟨Nat.le_trans hl big_le, ?_⟩
      cases x.length <;> rfl
    · rw [if_neg hl] at e
      cases e
  | list ds =>
    cases e
    obtain ⟨a, xs, rfl, h1, h2⟩ := q.list s
    exact .inl ⟨xs, h1, by cases h2 <;> rfl⟩
  | tuple ds =>
    cases e
    obtain ⟨a, xs, rfl, h1, h2⟩ := q.tuple s
    exact .inr (.inl ⟨xs, h1, by cases h2 <;> rfl⟩)
  | dict _ => cases e
theorem pb_tru {e : Expr} {f : M Ref} (hK : C.K = X.K) (h : PO C E X e f) (he : ∀ whole, isTrue e X.env whole = (do let v ← whole; standAt e.pos; holding [v] (truthy v)) := by intro _; rfl) : PB C E X e (tru f) :=
  PT.weak (pt_truth h he) fun σ H Q q => by
    obtain ⟨A, h, ρ, F, m⟩ := tT_eq.mp q
    refine tO_eq.mpr ⟨A, h, ρ, F, wpM_imp (wpM_bind m) fun r ρ1 m1 v h1 H1 F1 s1 q1 => ?_⟩
    unfold truM at m1
    cases e1 : rd ρ1 r with
    | none => rw [e1] at m1; exact m1.elim
    | some x =>
      rw [e1] at m1
      obtain ⟨b, e2, m1⟩ := wpM_lift m1
      exact ⟨b, hK ▸ truV_of F1.sub (F1.view q1 e1) e2, m1 h1 H1 F1 s1⟩
/-! ### and, or, not, if -/
def andB (f g : M Bool) : M Bool := bindM f fun b => if b = true then g else pureM false
def orB (f g : M Bool) : M Bool := bindM f fun b => if b = true then pureM true else g
def notB (f : M Bool) : M Bool := bindM f fun b => pureM (!b)
theorem kT_mono {A : Anc} {h h1 : Hp} {σ : L2.St} {Q : Bool → Hp → Prop} {b : Bool} {ρ' : Rho} (s : Same h h1) (k : kT C A h σ Q b ρ') : kT C A h1 σ Q b ρ' := fun h' H' F s' => k h' H' F fun a o e => s' a o (s a o e)
theorem kX_mono {A : Anc} {h h1 : Hp} {σ : L2.St} {Q : VK} {d : D} {ρ' : Rho} (s : Same h h1) (k : kX C A h σ Q d ρ') : kX C A h1 σ Q d ρ' := fun v h' H' F s' => k v h' H' F fun a o e => s' a o (s a o e)
theorem kO_mono {A : Anc} {h h1 : Hp} {σ : L2.St} {Q : VK} {d : Ref} {ρ' : Rho} (s : Same h h1) (k : kO C A h σ Q d ρ') : kO C A h1 σ Q d ρ' := fun v h' H' F s' => k v h' H' F fun a o e => s' a o (s a o e)
abbrev PWB (C : Cfg) (E : WX) (X : Cx) (e : Expr) (f : M Bool) : Prop := PW X e (tT C E f)
theorem PW.weak {e : Expr} {t u : TT} (h : PW X e t) (k : ∀ σ H Q, u σ H Q → t σ H Q) : PW X e u := ⟨fun wh pins s σ H Q I q => h.run wh pins s σ H Q I (k σ H Q q)⟩
theorem pwb_and1 {a : Expr} {f : M Bool} (h : PB C E X a f) : PWB C E X (.BoolOp .And [a] pos) f := pw_and1 h
theorem pwb_or1 {a : Expr} {f : M Bool} (h : PB C E X a f) : PWB C E X (.BoolOp .Or [a] pos) f := pw_or1 h
theorem pwb_and {a b : Expr} {rest : List Expr} {f g : M Bool} (ha : PB C E X a f) (hb : PWB C E X (.BoolOp .And (b :: rest) pos) g) : PWB C E X (.BoolOp .And (a :: b :: rest) pos) (andB f g) :=
  PW.weak (pw_and ha hb) fun σ H Q q => by
    obtain ⟨A, h, ρ, F, m⟩ := tT_eq.mp q
    refine tT_eq.mpr ⟨A, h, ρ, F, wpM_imp (wpM_bind m) fun c ρ1 m1 h1 H1 F1 s1 => ?_⟩
    cases c with
    | true => exact tT_eq.mpr ⟨A, h1, ρ1, F1, wpM_h s1 m1 fun _ _ k => kT_mono s1 k⟩
    | false => exact (show kT C A h σ Q false ρ1 from m1) h1 H1 F1 s1
theorem pwb_or {a b : Expr} {rest : List Expr} {f g : M Bool} (ha : PB C E X a f) (hb : PWB C E X (.BoolOp .Or (b :: rest) pos) g) : PWB C E X (.BoolOp .Or (a :: b :: rest) pos) (orB f g) :=
  PW.weak (pw_or ha hb) fun σ H Q q => by
    obtain ⟨A, h, ρ, F, m⟩ := tT_eq.mp q
    refine tT_eq.mpr ⟨A, h, ρ, F, wpM_imp (wpM_bind m) fun c ρ1 m1 h1 H1 F1 s1 => ?_⟩
    cases c with
    | false => exact tT_eq.mpr ⟨A, h1, ρ1, F1, wpM_h s1 m1 fun _ _ k => kT_mono s1 k⟩
    | true => exact (show kT C A h σ Q true ρ1 from m1) h1 H1 F1 s1
theorem pb_of {e : Expr} {f : M Bool} (h : PWB C E X e f) : PB C E X e f := PW.pt h
theorem pb_not {a : Expr} {f : M Bool} (h : PB C E X a f) : PB C E X (.UnaryOp .Not a pos) (notB f) :=
  PT.weak (pt_not h) fun σ H Q q => by
    obtain ⟨A, h, ρ, F, m⟩ := tT_eq.mp q
    exact tT_eq.mpr ⟨A, h, ρ, F, wpM_imp (wpM_bind m) fun c ρ1 m1 h1 H1 F1 s1 => (show kT C A h σ Q (!c) ρ1 from m1) h1 H1 F1 s1⟩
/-- as values: all but the last are bools -/
def andX (f g : M D) : M D := bindM f fun d => bindM (liftM (boolD d)) fun b => if b = true then g else pureM (.bool false)
def orX (f g : M D) : M D := bindM f fun d => bindM (liftM (boolD d)) fun b => if b = true then pureM (.bool true) else g
def notX (f : M D) : M D := bindM f fun d => bindM (liftM (boolD d)) fun b => pureM (.bool (!b))
def ifX (c : M Bool) (f g : M D) : M D := bindM c fun b => if b = true then f else g
theorem px_one {a : Expr} {op : BoolOp} {f : M D} (h : PX C E X a f) : PX C E X (.BoolOp op [a] pos) f := pe_one h
theorem px_and {a b : Expr} {rest : List Expr} {f g : M D} (ha : PX C E X a f) (hb : PX C E X (.BoolOp .And (b :: rest) pos) g) : PX C E X (.BoolOp .And (a :: b :: rest) pos) (andX f g) :=
  PE.weak (pe_and ha hb) fun σ H Q q => by
    obtain ⟨A, h, ρ, F, m⟩ := tX_eq.mp q
    refine tX_eq.mpr ⟨A, h, ρ, F, wpM_imp (wpM_bind m) fun d ρ1 m1 v h1 H1 F1 s1 q1 => ?_⟩
    obtain ⟨c, e, m1⟩ := wpM_lift (wpM_bind m1)
    have := boolD_some e
    subst this
    refine ⟨c, dp_bool q1, ?_⟩
    cases c with
    | true => exact tX_eq.mpr ⟨A, h1, ρ1, F1, wpM_h s1 m1 fun _ _ k => kX_mono s1 k⟩
    | false => exact (show kX C A h σ Q (.bool false) ρ1 from m1) _ h1 H1 F1 s1 (.bl _)
theorem px_or {a b : Expr} {rest : List Expr} {f g : M D} (ha : PX C E X a f) (hb : PX C E X (.BoolOp .Or (b :: rest) pos) g) : PX C E X (.BoolOp .Or (a :: b :: rest) pos) (orX f g) :=
  PE.weak (pe_or ha hb) fun σ H Q q => by
    obtain ⟨A, h, ρ, F, m⟩ := tX_eq.mp q
    refine tX_eq.mpr ⟨A, h, ρ, F, wpM_imp (wpM_bind m) fun d ρ1 m1 v h1 H1 F1 s1 q1 => ?_⟩
    obtain ⟨c, e, m1⟩ := wpM_lift (wpM_bind m1)
    have := boolD_some e
    subst this
    refine ⟨c, dp_bool q1, ?_⟩
    cases c with
    | false => exact tX_eq.mpr ⟨A, h1, ρ1, F1, wpM_h s1 m1 fun _ _ k => kX_mono s1 k⟩
    | true => exact (show kX C A h σ Q (.bool true) ρ1 from m1) _ h1 H1 F1 s1 (.bl _)
theorem px_not {a : Expr} {f : M D} (h : PX C E X a f) : PX C E X (.UnaryOp .Not a pos) (notX f) :=
  PE.weak (pe_not h) fun σ H Q q => by
    obtain ⟨A, h, ρ, F, m⟩ := tX_eq.mp q
    refine tX_eq.mpr ⟨A, h, ρ, F, wpM_imp (wpM_bind m) fun d ρ1 m1 v h1 H1 F1 s1 q1 => ?_⟩
    obtain ⟨c, e, m1⟩ := wpM_lift (wpM_bind m1)
    have := boolD_some e
    subst this
    exact ⟨c, dp_bool q1, (show kX C A h σ Q (.bool (!c)) ρ1 from m1) _ h1 H1 F1 s1 (.bl _)⟩
theorem px_if {c a b : Expr} {fc : M Bool} {f g : M D} (hc : PB C E X c fc) (ha : PX C E X a f) (hb : PX C E X b g) : PX C E X (.IfExp c a b pos) (ifX fc f g) :=
  PE.weak (pe_ifExp hc ha hb) fun σ H Q q => by
    obtain ⟨A, h, ρ, F, m⟩ := tX_eq.mp q
    refine tT_eq.mpr ⟨A, h, ρ, F, wpM_imp (wpM_bind m) fun c ρ1 m1 h1 H1 F1 s1 => ?_⟩
    cases c with
    | true => exact tX_eq.mpr ⟨A, h1, ρ1, F1, wpM_h s1 m1 fun _ _ k => kX_mono s1 k⟩
    | false => exact tX_eq.mpr ⟨A, h1, ρ1, F1, wpM_h s1 m1 fun _ _ k => kX_mono s1 k⟩
end
end EV

/-! # EV 3: operators, subscripts, displays, built-in calls -/
namespace EV
open PySem PySem.Spec PyProof.Rows L2 Ver
def i2 (c : Int → Int → Bool) (g : Int → Int → D) : D → D → Option D
  | .int i, .int j => if c i j = true then some (g i j) else none
  | _, _ => none
section
variable {C : Cfg} {X : Cx}
theorem od_i {c : Int → Int → Bool} {P : Int → Int → Prop} (hc : ∀ i j, c i j = true → P i j) {g : Int → Int → Int} : OpD C (rI P fun i j => .int (g i j)) (i2 c fun i j => .int (g i j)) := fun h H x y p q d Q s k1 k2 e k => by
  unfold i2 at e
  split at e
  · split at e
    · cases e
      rename_i hcc
      exact ⟨_, _, k1.int, k2.int, hc _ _ hcc, k _ h H (Ext.refl s) (.int _)⟩
    · cases e
  · cases e
theorem od_i0 {g : Int → Int → Int} : OpD C (rI0 fun i j => .int (g i j)) (i2 (fun _ _ => true) fun i j => .int (g i j)) := fun h H x y p q d Q s k1 k2 e k => by
  unfold i2 at e
  split at e
  · cases e
    exact ⟨_, _, k1.int, k2.int, k _ h H (Ext.refl s) (.int _)⟩
  · cases e
theorem od_ib {g : Int → Int → Bool} : OpD C (rI0 fun i j => .bl (g i j)) (i2 (fun _ _ => true) fun i j => .bool (g i j)) := fun h H x y p q d Q s k1 k2 e k => by
  unfold i2 at e
  split at e
  · cases e
    exact ⟨_, _, k1.int, k2.int, k _ h H (Ext.refl s) (.bl _)⟩
  · cases e
/-! ### arithmetic -/
def addD : D → D → Option D
  | .int i, .int j => some (.int (i + j))
  | .str x, .str y => if x.length + y.length ≤ 1000000 then some (.str (x ++ y)) else none
  | .tuple xs, .tuple ys => if xs.length + ys.length ≤ 1000000 then some (.tuple (xs ++ ys)) else none
  | _, _ => none
def rAddD (K : PySem.W.Frag) : R2 := fun x y H Q => (rI0 (fun i j => .int (i + j)) x y H Q) ∨ ((∃ i j, x = .str i ∧ y = .str j ∧ i.length + j.length ≤ sizeLine ∧ Q (.str (i ++ j)) H) ∨ rCatA K x y H Q)
theorem op_addD : OpR X (binaryOp .Add) (rAddD X.K) := OpR.or op_add (OpR.or op_add_str op_catA)
theorem od_add : OpD C (rAddD C.K) addD := fun h H x y p q d Q s k1 k2 e k => by
  unfold addD at e
  split at e
  · cases e
    exact .inl ⟨_, _, k1.int, k2.int, k _ h H (Ext.refl s) (.int _)⟩
  · split at e
    · cases e
      rename_i hl
      exact .inr (.inl ⟨_, _, k1.str, k2.str, Nat.le_trans hl big_le, k _ h H (Ext.refl s) (.str _)⟩)
    · cases e
  · split at e
    · cases e
      rename_i hl
      obtain ⟨a, us, rfl, u1, u2⟩ := k1.tuple s
      obtain ⟨b, ws, rfl, w1, w2⟩ := k2.tuple s
      have l1 := dpAll_len u2
      have l2 := dpAll_len w2
      refine .inr (.inr ⟨a, b, us, ws, rfl, rfl, u1, w1, Nat.le_trans (by omega) big_le, fun e => ?_, fun _ e => ?_, fun _ _ t ht => ?_⟩)
      · subst e
        have := dpAll_nil u2
        subst this
        rw [List.nil_append] at k
        rcases k2 with k2 | ⟨_, _, _, _, z, _⟩
        · exact k _ h H (Ext.refl s) k2
        · cases z
      · subst e
        have := dpAll_nil w2
        subst this
        rw [List.append_nil] at k
        rcases k1 with k1 | ⟨_, _, _, _, z, _⟩
        · exact k _ h H (Ext.refl s) k1
        · cases z
      · refine k _ _ _ (Ext.lay s ht _) (.tup (SqT.of upd_same) ?_)
        exact dpAll_same (same_upd (none_of s ht) _) _ _ (dpAll_app u2 w2)
    · cases e
  · cases e
def subD : D → D → Option D := i2 (fun _ _ => true) fun i j => .int (i - j)
theorem od_sub : OpD C (rI0 fun i j => .int (i - j)) subD := od_i0
def mulC (i j : Int) : Bool := (decide (-(2 ^ 64) < i) && decide (i < 2 ^ 64)) || (decide (-(2 ^ 64) < j) && decide (j < 2 ^ 64))
def mulD : D → D → Option D := i2 mulC fun i j => .int (i * j)
theorem od_mul : OpD C (rI CMul fun i j => .int (i * j)) mulD := od_i fun i j h => by
  unfold mulC at h
  simp only [Bool.or_eq_true, Bool.and_eq_true, decide_eq_true_eq] at h
  exact h
def divC (i j : Int) : Bool := decide (0 < j) && decide (j < 2 ^ 64)
def fdivD : D → D → Option D := i2 divC fun i j => .int (i / j)
theorem od_fdiv : OpD C (rI CDivW fun i j => .int (i / j)) fdivD := od_i fun i j h => by
  unfold divC at h
  simp only [Bool.and_eq_true, decide_eq_true_eq] at h
  exact wide_div (b := 64) h.1 (by omega) (by decide) (by decide)
def modD : D → D → Option D := i2 (fun _ j => decide (0 < j)) fun i j => .int (i % j)
theorem od_mod : OpD C (rI (fun _ j => 0 < j) fun i j => .int (i % j)) modD := od_i fun i j h => of_decide_eq_true h
def powC (i j : Int) : Bool := decide (0 ≤ j) && (decide (j ≤ 1000000) && decide (i.natAbs < 2 ^ 64))
theorem powC_ok {i j : Int} (h : powC i j = true) : CPow i j := by
  unfold powC at h
  simp only [Bool.and_eq_true, decide_eq_true_eq] at h
  exact h
def powD : D → D → Option D := i2 powC fun i j => .int (i ^ j.toNat)
theorem od_pow : OpD C (rI CPow fun i j => .int (i ^ j.toNat)) powD := od_i fun _ _ h => powC_ok h
def shlD : D → D → Option D := i2 powC fun i j => .int (i * 2 ^ j.toNat)
theorem od_shl : OpD C (rI CPow fun i j => .int (i * 2 ^ j.toNat)) shlD := od_i fun _ _ h => powC_ok h
def shrD : D → D → Option D := i2 (fun _ j => decide (0 ≤ j)) fun i j => .int (i / 2 ^ j.toNat)
theorem od_shr : OpD C (rI (fun _ j => 0 ≤ j) fun i j => .int (i / 2 ^ j.toNat)) shrD := od_i fun i j h => of_decide_eq_true h
def bandD : D → D → Option D := i2 (fun _ _ => true) fun i j => .int (Builtin.bitAnd i j)
theorem od_band : OpD C (rI0 fun i j => .int (Builtin.bitAnd i j)) bandD := od_i0
def borD : D → D → Option D := i2 (fun _ _ => true) fun i j => .int (Builtin.bitOr i j)
theorem od_bor : OpD C (rI0 fun i j => .int (Builtin.bitOr i j)) borD := od_i0
/-! ### comparisons -/
/-- the pairs that are compared without a look inside -/
def flat2 : D → D → Bool
  | .none, .none => true | .none, .int _ => true | .int _, .none => true | .none, .bool _ => true | .bool _, .none => true | .none, .str _ => true | .str _, .none => true
  | .int _, .int _ => true | .bool _, .bool _ => true | .str _, .str _ => true
  | .int _, .str _ => true | .str _, .int _ => true | .bool _, .str _ => true | .str _, .bool _ => true
  | _, _ => false
def eqD (a b : D) : Option D := if flat2 a b = true then some (.bool (PyData.eqv a b)) else if (SeqAt.shaped a && SeqAt.shaped b) = true then some (.bool (PyData.eqv a b)) else none
def neD (a b : D) : Option D := if flat2 a b = true then some (.bool (!PyData.eqv a b)) else if (SeqAt.shaped a && SeqAt.shaped b) = true then some (.bool (!PyData.eqv a b)) else none
def rEqA (K : PySem.W.Frag) : R2 := fun x y H Q => rEq x y H Q ∨ rEqD K x y H Q
def rNeA (K : PySem.W.Frag) : R2 := fun x y H Q => rNe x y H Q ∨ rNeD K x y H Q
theorem op_eqA (hu : X.A.units + 64 < cLine) : OpR X (compareOp .Eq) (rEqA X.K) := OpR.or op_eq (op_eqD hu)
theorem op_neA (hu : X.A.units + 64 < cLine) : OpR X (compareOp .NotEq) (rNeA X.K) := OpR.or op_ne (op_neD hu)
theorem flat2_ok {h H : Hp} {x y : V} {a b : D} (k1 : RepW C h H x a) (k2 : RepW C h H y b) (e : flat2 a b = true) : scal x y = true ∧ decide (x = y) = PyData.eqv a b := by
  unfold flat2 at e
  split at e <;> first | (cases e; done) | skip
  all_goals
    first
      | cases k1.none | cases k1.int | cases k1.bool | cases k1.str
    first
      | cases k2.none | cases k2.int | cases k2.bool | cases k2.str
    refine ⟨rfl, ?_⟩
    first
      | rfl
      | exact dec_int
      | exact dec_bl
      | exact dec_str
      | (simp [PyData.eqv])
theorem od_eq : OpD C (rEqA C.K) eqD := fun h H x y p q d Q s k1 k2 e k => by
  unfold eqD at e
  split at e
  · rename_i hf
    cases e
    obtain ⟨e1, e2⟩ := flat2_ok k1 k2 hf
    exact .inl ⟨e1, by rw [e2]; exact k _ h H (Ext.refl s) (.bl _)⟩
  · split at e
    · rename_i hs
      cases e
      rw [Bool.and_eq_true] at hs
      exact .inr ⟨_, _, k1.dp s, k2.dp s, hs.1, hs.2, k _ h H (Ext.refl s) (.bl _)⟩
    · cases e
theorem od_ne : OpD C (rNeA C.K) neD := fun h H x y p q d Q s k1 k2 e k => by
  unfold neD at e
  split at e
  · rename_i hf
    cases e
    obtain ⟨e1, e2⟩ := flat2_ok k1 k2 hf
    exact .inl ⟨e1, by rw [e2]; exact k _ h H (Ext.refl s) (.bl _)⟩
  · split at e
    · rename_i hs
      cases e
      rw [Bool.and_eq_true] at hs
      exact .inr ⟨_, _, k1.dp s, k2.dp s, hs.1, hs.2, k _ h H (Ext.refl s) (.bl _)⟩
    · cases e
def ordD (f : Int → Int → Bool) (g : List Nat → List Nat → Bool) : D → D → Option D
  | .int i, .int j => some (.bool (f i j))
  | .str x, .str y => some (.bool (g x.cps.toList y.cps.toList))
  | _, _ => none
def rOrd (f : Int → Int → Bool) (g : List Nat → List Nat → Bool) : R2 := fun x y H Q => rI0 (fun i j => .bl (f i j)) x y H Q ∨ ∃ i j, x = .str i ∧ y = .str j ∧ Q (.bl (g i.cps.toList j.cps.toList)) H
theorem od_ord {f : Int → Int → Bool} {g : List Nat → List Nat → Bool} : OpD C (rOrd f g) (ordD f g) := fun h H x y p q d Q s k1 k2 e k => by
  unfold ordD at e
  split at e
  · cases e
    exact .inl ⟨_, _, k1.int, k2.int, k _ h H (Ext.refl s) (.bl _)⟩
  · cases e
    exact .inr ⟨_, _, k1.str, k2.str, k _ h H (Ext.refl s) (.bl _)⟩
  · cases e
def ltD : D → D → Option D := ordD (fun i j => decide (i < j)) fun a b => decide (a < b)
def leD : D → D → Option D := ordD (fun i j => decide (i ≤ j)) fun a b => !decide (b < a)
def gtD : D → D → Option D := ordD (fun i j => decide (j < i)) fun a b => decide (b < a)
def geD : D → D → Option D := ordD (fun i j => decide (j ≤ i)) fun a b => !decide (a < b)
theorem op_ltA : OpR X (compareOp .Lt) (rOrd (fun i j => decide (i < j)) fun a b => decide (a < b)) := OpR.or op_lt op_lt_str
theorem op_leA : OpR X (compareOp .LtE) (rOrd (fun i j => decide (i ≤ j)) fun a b => !decide (b < a)) := OpR.or op_le op_le_str
theorem op_gtA : OpR X (compareOp .Gt) (rOrd (fun i j => decide (j < i)) fun a b => decide (b < a)) := OpR.or op_gt op_gt_str
theorem op_geA : OpR X (compareOp .GtE) (rOrd (fun i j => decide (j ≤ i)) fun a b => !decide (a < b)) := OpR.or op_ge op_ge_str
def isNon : D → Bool
  | .none => true
  | _ => false
/-- x is None, x is True -/
def isD : D → D → Option D
  | a, .none => some (.bool (isNon a))
  | .bool a, .bool b => some (.bool (decide (a = b)))
  | .tuple _, .bool _ => some (.bool false)
  | .list _, .bool _ => some (.bool false)
  | _, _ => none
theorem dp_non_iff {K : PySem.W.Frag} {H : Hp} {v : V} {d : D} (h : Dp K H v d) : decide (v = V.non) = isNon d := by
  cases h <;> first | rfl | simp
def rIsA : R2 := fun x y H Q => (y = .non ∧ Q (.bl (decide (x = .non))) H) ∨ ∃ b, y = .bl b ∧ ((∃ a, x = .bl a) ∨ ∃ a, x = .ref a) ∧ Q (.bl (isB b x)) H
theorem op_isA : OpR X (compareOp .Is) rIsA := OpR.or op_isN op_isAny
theorem od_is : OpD C rIsA isD := fun h H x y p q d Q s k1 k2 e k => by
  unfold isD at e
  split at e
  · cases e
    cases k2.none
    refine .inl ⟨rfl, ?_⟩
    rw [dp_non_iff (k1.dp s)]
    exact k _ h H (Ext.refl s) (.bl _)
  · cases e
    cases k1.bool
    cases k2.bool
    refine .inr ⟨_, rfl, .inl ⟨_, rfl⟩, ?_⟩
    rename_i a b
    have : isB b (.bl a) = decide (a = b) := by cases a <;> cases b <;> rfl
    rw [this]
    exact k _ h H (Ext.refl s) (.bl _)
  · cases e
    cases k2.bool
    obtain ⟨a, xs, rfl, _, _⟩ := k1.tuple s
    exact .inr ⟨_, rfl, .inr ⟨a, rfl⟩, k _ h H (Ext.refl s) (.bl _)⟩
  · cases e
    cases k2.bool
    obtain ⟨a, xs, rfl, _, _⟩ := k1.list s
    exact .inr ⟨_, rfl, .inr ⟨a, rfl⟩, k _ h H (Ext.refl s) (.bl _)⟩
  · cases e
/-- a sign in a text; a flat thing in a list or tuple of such; data in a list -/
def flatD : D → Bool
  | .none => true | .bool _ => true | .int _ => true | .str _ => true | _ => false
def inB : D → D → Option Bool
  | .str x, .str y => if x.length = 1 then some (decide (x.cps.getD 0 0 ∈ y.cps.toList)) else some (!(Builtin.Str.occurrences y x 0 y.length 1).isEmpty)
  | a, .list ds => if (flatD a && ds.all flatD) = true then some (ds.any fun z => PyData.eqv z a) else if (SeqAt.shaped a && SeqAt.shaped (.list ds)) = true then some (ds.any fun z => PyData.eqv z a) else none
  | a, .tuple ds => if (flatD a && ds.all flatD) = true then some (ds.any fun z => PyData.eqv z a) else none
  | _, _ => none
def inD (a b : D) : Option D := (inB a b).map .bool
def notInD (a b : D) : Option D := (inB a b).map fun c => .bool (!c)
theorem flatV_of {K : PySem.W.Frag} {H : Hp} {v : V} {d : D} (h : Dp K H v d) (e : flatD d = true) : flatV v = true := by cases h <;> first | rfl | cases e
theorem eqV_of {K : PySem.W.Frag} {H : Hp} {v w : V} {d d' : D} (h : Dp K H v d) (h' : Dp K H w d') (e : flatD d = true) (e' : flatD d' = true) : eqV v w = PyData.eqv d d' := by
  cases h <;> first | (cases e; done) | skip
  all_goals
    cases h' <;> first | (cases e'; done) | skip
    all_goals first | rfl | simp [eqV, PyData.eqv]
theorem inV_of {K : PySem.W.Frag} {H : Hp} {v : V} {d : D} (h : Dp K H v d) (e : flatD d = true) : ∀ {xs : List V} {ds : List D}, DpAll K H xs ds → ds.all flatD = true → xs.all flatV = true ∧ inV v xs = ds.any fun z => PyData.eqv z d
  | _, _, .nil, _ => ⟨rfl, rfl⟩
  | _, _, .cons a t, k => by
    rw [List.all_cons, Bool.and_eq_true] at k
    obtain ⟨h1, h2⟩ := inV_of h e t k.2
    refine ⟨by rw [List.all_cons, flatV_of a k.1, h1]; rfl, ?_⟩
    unfold inV at h2 ⊢
    rw [List.any_cons, List.any_cons, h2, eqV_of a h k.1 e]
def rInA (K : PySem.W.Frag) : R2 := fun x y H Q => (∃ i j, x = .str i ∧ y = .str j ∧ Q (.bl (!(Builtin.Str.occurrences j i 0 j.length 1).isEmpty)) H) ∨ (rIn K false x y H Q ∨ rInD K x y H Q)
def rNotInA (K : PySem.W.Frag) : R2 := fun x y H Q => (∃ i j, x = .str i ∧ y = .str j ∧ Q (.bl (!(!(Builtin.Str.occurrences j i 0 j.length 1).isEmpty))) H) ∨ (rIn K true x y H Q ∨ rNotInD K x y H Q)
theorem op_inA (hu : X.A.units + 65 < cLine) : OpR X (compareOp .In) (rInA X.K) := OpR.or op_in_str (OpR.or op_in_seq (op_inD hu))
theorem op_notInA (hu : X.A.units + 65 < cLine) : OpR X (compareOp .NotIn) (rNotInA X.K) := OpR.or op_notIn_str (OpR.or op_notIn_seq (op_notInD hu))
theorem one_in {x y : Str} (h : x.length = 1) : (!(Builtin.Str.occurrences y x 0 y.length 1).isEmpty) = decide (x.cps.getD 0 0 ∈ y.cps.toList) := by
  obtain ⟨⟨l⟩⟩ := x
  match l, h with
  | [c], _ => exact StrLaws.found_one y c
theorem inB_any {h H : Hp} {x y : V} {p q : D} {c : Bool} (s : Same h H) (k1 : RepW C h H x p) (k2 : RepW C h H y q) (e : inB p q = some c) :
    (∃ i j, x = .str i ∧ y = .str j ∧ (!(Builtin.Str.occurrences j i 0 j.length 1).isEmpty) = c) ∨ (∃ a xs, y = .ref a ∧ (SqL C.K H a xs ∨ SqT C.K H a xs) ∧ flatV x = true ∧ xs.all flatV = true ∧ inV x xs = c) ∨
      ∃ d ds, Dp C.K H x d ∧ Dp C.K H y (.list ds) ∧ SeqAt.shaped d = true ∧ SeqAt.shaped (.list ds) = true ∧ (ds.any fun z => PyData.eqv z d) = c := by
  unfold inB at e
  split at e
  · refine .inl ⟨_, _, k1.str, k2.str, ?_⟩
    split at e
    · rename_i hl
      cases e
      exact one_in hl
    · cases e
      rfl
  · split at e
    · rename_i hf
      cases e
      rw [Bool.and_eq_true] at hf
      obtain ⟨a, xs, rfl, h1, h2⟩ := k2.list s
      obtain ⟨h3, h4⟩ := inV_of (k1.dp s) hf.1 (dpAll_same s _ _ h2) hf.2
      exact .inr (.inl ⟨a, xs, rfl, .inl h1, flatV_of (k1.dp s) hf.1, h3, h4⟩)
    · split at e
      · rename_i hs
        cases e
        rw [Bool.and_eq_true] at hs
        exact .inr (.inr ⟨_, _, k1.dp s, k2.dp s, hs.1, hs.2, rfl⟩)
      · cases e
  · split at e
    · rename_i hf
      cases e
      rw [Bool.and_eq_true] at hf
      obtain ⟨a, xs, rfl, h1, h2⟩ := k2.tuple s
      obtain ⟨h3, h4⟩ := inV_of (k1.dp s) hf.1 (dpAll_same s _ _ h2) hf.2
      exact .inr (.inl ⟨a, xs, rfl, .inr h1, flatV_of (k1.dp s) hf.1, h3, h4⟩)
    · cases e
  · cases e
theorem od_in : OpD C (rInA C.K) inD := fun h H x y p q d Q s k1 k2 e k => by
  unfold inD at e
  cases e1 : inB p q with
  | none => rw [e1] at e; cases e
  | some c =>
    rw [e1] at e
    cases e
    have kk := k _ h H (Ext.refl s) (.bl c)
    rcases inB_any s k1 k2 e1 with ⟨i, j, h1, h2, h3⟩ | ⟨a, xs, h1, h2, h3, h4, h5⟩ | ⟨d, ds, h1, h2, h3, h4, h5⟩
    · exact .inl ⟨i, j, h1, h2, by rw [h3]; exact kk⟩
    · exact .inr (.inl ⟨a, xs, h1, h2, h3, h4, by rw [h5]; exact kk⟩)
    · exact .inr (.inr ⟨d, ds, h1, h2, h3, h4, by rw [h5]; exact kk⟩)
theorem od_notIn : OpD C (rNotInA C.K) notInD := fun h H x y p q d Q s k1 k2 e k => by
  unfold notInD at e
  cases e1 : inB p q with
  | none => rw [e1] at e; cases e
  | some c =>
    rw [e1] at e
    cases e
    have kk := k _ h H (Ext.refl s) (.bl (!c))
    rcases inB_any s k1 k2 e1 with ⟨i, j, h1, h2, h3⟩ | ⟨a, xs, h1, h2, h3, h4, h5⟩ | ⟨d, ds, h1, h2, h3, h4, h5⟩
    · exact .inl ⟨i, j, h1, h2, by rw [h3]; exact kk⟩
    · exact .inr (.inl ⟨a, xs, h1, h2, h3, h4, by rw [h5]; exact kk⟩)
    · exact .inr (.inr ⟨d, ds, h1, h2, h3, h4, by rw [h5]; exact kk⟩)
end
end EV

/-! # EV 4: subscripts, slices, displays, built-in calls, lists of one's own -/
namespace EV
open PySem PySem.Spec PyProof.Rows L2 Ver
section
variable {C : Cfg} {E : WX} {X : Cx} {pos : Pos}
/-! ### subscripts -/
def getD : D → D → Option D
  | .list ds, .int i => atI ds i
  | .tuple ds, .int i => atI ds i
  | .str x, .int i => if x.length ≤ 1000000 then (atI x.cps.toList i).map fun c => .str ⟨#[c]⟩ else none
  | _, _ => none
theorem dpAll_at {K : PySem.W.Frag} {H : Hp} {xs : List V} {ds : List D} {i : Int} {d : D} (h : DpAll K H xs ds) (e : atI ds i = some d) : ∃ x, atI xs i = some x ∧ Dp K H x d := by
  unfold atI at e ⊢
  rw [dpAll_len h]
  cases q : ixN ds.length i with
  | none => rw [q] at e; cases e
  | some j =>
    rw [q] at e
    exact dpAll_get h e
def rIxA (K : PySem.W.Frag) : R2 := fun x y H Q => rIxL K x y H Q ∨ (rIxT K x y H Q ∨ rIxS x y H Q)
theorem ix_any : IxR X (rIxA X.K) := IxR.or ix_list (IxR.or ix_tup ix_str)
theorem od_get : OpD C (rIxA C.K) getD := fun h H x y p q d Q s k1 k2 e k => by
  unfold getD at e
  split at e
  · obtain ⟨a, xs, rfl, h1, h2⟩ := k1.list s
    obtain ⟨v, e1, e2⟩ := dpAll_at h2 e
    exact .inl ⟨a, xs, _, v, rfl, k2.int, h1, e1, k v h H (Ext.refl s) e2⟩
  · obtain ⟨a, xs, rfl, h1, h2⟩ := k1.tuple s
    obtain ⟨v, e1, e2⟩ := dpAll_at h2 e
    exact .inr (.inl ⟨a, xs, _, v, rfl, k2.int, h1, e1, k v h H (Ext.refl s) e2⟩)
  · split at e
    · rename_i z i hl
      cases e1 : atI z.cps.toList i with
      | none => rw [e1] at e; cases e
      | some c =>
        rw [e1] at e
        cases e
        exact .inr (.inr ⟨z, i, c, k1.str, k2.int, Nat.le_trans hl big_le, e1, k _ h H (Ext.refl s) (.str _)⟩)
    · cases e
  · cases e
theorem px_ix {a b : Expr} {fa fb : M Ref} (hK : C.K = X.K) (ha : PO C E X a fa) (hb : PO C E X b fb) (hs : PlainIx b := by exact fun _ _ => rfl) : PX C E X (.Subscript a b pos) (bop getD fa fb) :=
  PE.weak (pe_ix ix_any ha hb hs) (t2_of (hK ▸ od_get))
def intD : D → Option Int
  | .int i => some i
  | _ => none
theorem intD_some {d : D} {i : Int} (h : intD d = some i) : d = .int i := by cases d <;> cases h; rfl
theorem dp_int {K : PySem.W.Frag} {H : Hp} {v : V} {b : Int} (h : Dp K H v (.int b)) : v = .int b := by cases h; rfl
theorem dp_str {K : PySem.W.Frag} {H : Hp} {v : V} {b : Str} (h : Dp K H v (.str b)) : v = .str b := by cases h; rfl
/-- a part of a slice -/
def tPt (C : Cfg) (E : WX) (f : M (Option Int)) : TO := fun σ H Q => ∃ A h ρ, Fr C A h ρ σ H ∧ wpM C E A h (fun o ρ' => ∀ h' H', Fr C A h' ρ' σ H' → Same h h' → Q o H') (f ρ)
abbrev PP (C : Cfg) (E : WX) (X : Cx) (e : Option Expr) (f : M (Option Int)) : Prop := L2.PO X e (tPt C E f)
theorem PO.weak {e : Option Expr} {t u : TO} (h : L2.PO X e t) (k : ∀ σ H Q, u σ H Q → t σ H Q) : L2.PO X e u := ⟨fun pins s σ H Q I q => h.run pins s σ H Q I (k σ H Q q)⟩
theorem pp_none : PP C E X none (pureM none) := PO.weak po_none fun σ H Q q => by
  obtain ⟨A, h, ρ, F, m⟩ := q
  exact (show ∀ h' H', Fr C A h' ρ σ H' → Same h h' → Q none H' from m) h H F fun _ _ e => e
def ptM (f : M D) : M (Option Int) := bindM f fun d => bindM (liftM (intD d)) fun i => pureM (some i)
theorem pp_some {e : Expr} {f : M D} (he : PX C E X e f) : PP C E X (some e) (ptM f) := PO.weak (po_some he) fun σ H Q q => by
  obtain ⟨A, h, ρ, F, m⟩ := q
  refine tX_eq.mpr ⟨A, h, ρ, F, wpM_imp (wpM_bind m) fun d ρ1 m1 v h1 H1 F1 s1 q1 => ?_⟩
  obtain ⟨i, e, m1⟩ := wpM_lift (wpM_bind m1)
  have := intD_some e
  subst this
  exact ⟨i, dp_int q1, (show ∀ h' H', Fr C A h' ρ1 σ H' → Same h h' → Q (some i) H' from m1) h1 H1 F1 s1⟩
def cutL {α : Type} (xs : List α) (lo hi : Option Int) : List α := (xs.drop (HT.sIx xs.length 0 lo)).take (HT.sIx xs.length xs.length hi - HT.sIx xs.length 0 lo)
theorem dpAll_cut {K : PySem.W.Frag} {H : Hp} {xs : List V} {ds : List D} {lo hi : Option Int} (h : DpAll K H xs ds) : DpAll K H (cutV xs lo hi) (cutL ds lo hi) := by
  unfold cutV cutL
  rw [dpAll_len h]
  exact dpAll_take _ (dpAll_drop _ h)
def slD (d : D) (lo hi : Option Int) : Option D := match d with
  | .list ds => some (.list (cutL ds lo hi))
  | .tuple ds => some (.tuple (cutL ds lo hi))
  | .str x => if x.length ≤ 1000000 then some (.str (cutS x lo hi)) else none
  | _ => none
def slM (r : Ref) (lo hi : Option Int) : M D := fun ρ => match rd ρ r with
  | some d => liftM (slD d lo hi) ρ
  | none => .bad
def slX (f : M Ref) (fl fh : M (Option Int)) : M D := bindM f fun r => bindM fl fun lo => bindM fh fun hi => slM r lo hi
def rSlAny (K : PySem.W.Frag) : V → Option Int → Option Int → Hp → VK → Prop := fun x lo hi H Q => rSlL K x lo hi H Q ∨ (rSlA K x lo hi H Q ∨ rSlS x lo hi H Q)
theorem sl_any : SlR X (rSlAny X.K) := SlR.or sl_list (SlR.or sl_tupA sl_str)
theorem sl_of {h H : Hp} {v : V} {d : D} {lo hi : Option Int} {e : D} {Q : VK} (s : Same h H) (q : RepW C h H v d) (z : slD d lo hi = some e) (k : ∀ w h' H', Ext h H h' H' → Dp C.K h' w e → Q w H') : rSlAny C.K v lo hi H Q := by
  unfold slD at z
  split at z
  · cases z
    obtain ⟨a, xs, rfl, h1, h2⟩ := q.list s
    exact .inl ⟨a, xs, rfl, h1, fun p hp => k _ _ _ (Ext.lay s hp _) (.lst (SqL.of upd_same) (dpAll_same (same_upd (none_of s hp) _) _ _ (dpAll_cut h2)))⟩
  · cases z
    obtain ⟨a, xs, rfl, h1, h2⟩ := q.tuple s
    refine .inr (.inl ⟨a, xs, rfl, h1, fun hw => ?_, fun _ p hp => k _ _ _ (Ext.lay s hp _) (.tup (SqT.of upd_same) (dpAll_same (same_upd (none_of s hp) _) _ _ (dpAll_cut h2)))⟩)
    have l := dpAll_len h2
    rename_i ds
    have : cutL ds lo hi = ds := by
      unfold cutL
      rw [← l, hw.1, hw.2, List.drop_zero, Nat.sub_zero, l, List.take_length]
    rw [this] at k
    rcases q with q | ⟨_, _, _, _, z, _⟩
    · exact k _ h H (Ext.refl s) q
    · cases z
  · split at z
    · rename_i hl
      cases z
      exact .inr (.inr ⟨_, q.str, Nat.le_trans hl big_le, k _ h H (Ext.refl s) (.str _)⟩)
    · cases z
  · cases z
theorem px_sl {a : Expr} {lo hi : Option Expr} {p2 : Pos} {f : M Ref} {fl fh : M (Option Int)} (hK : C.K = X.K) (ha : PO C E X a f) (hl : PP C E X lo fl) (hh : PP C E X hi fh) : PX C E X (.Subscript a (.Slice lo hi none p2) pos) (slX f fl fh) :=
  PE.weak (pe_slice sl_any ha hl hh) fun σ H Q q => by
    obtain ⟨A, h, ρ, F, m⟩ := tX_eq.mp q
    refine tO_eq.mpr ⟨A, h, ρ, F, wpM_imp (wpM_bind m) fun r ρ1 m1 x h1 H1 F1 s1 q1 => ?_⟩
    refine ⟨A, h1, ρ1, F1, wpM_h s1 (wpM_bind m1) fun l ρ2 m2 h2 H2 F2 s2 => ?_⟩
    refine ⟨A, h2, ρ2, F2, wpM_h (fun a o e => s2 a o (s1 a o e)) (wpM_bind m2) fun u ρ3 m3 h3 H3 F3 s3 => ?_⟩
    unfold slM at m3
    cases e1 : rd ρ3 r with
    | none => rw [e1] at m3; exact m3.elim
    | some d =>
      rw [e1] at m3
      obtain ⟨e, e2, m3⟩ := wpM_lift m3
      rw [← hK]
      exact sl_of F3.sub (F3.view (q1.mono fun a o e => s3 a o (s2 a o e)) e1) e2 fun w h' H' ee qq => (show kX C A h σ Q e ρ3 from m3) w h' H' (F3.extend ee) (fun a o e => ee.hh a o (s3 a o (s2 a o (s1 a o e)))) qq
/-! ### displays -/
def tAX (C : Cfg) (E : WX) (f : M (List D)) : TA := fun σ H Q => ∃ A h ρ, Fr C A h ρ σ H ∧ wpM C E A h (fun ds ρ' => ∀ xs h' H', Fr C A h' ρ' σ H' → Same h h' → DpAll C.K h' xs ds → Q xs H') (f ρ)
abbrev PAX (C : Cfg) (E : WX) (X : Cx) (es : List Expr) (f : M (List D)) : Prop := PA X es (tAX C E f)
theorem pax_nil : PAX C E X [] (pureM []) := PA.weak pa_nil fun σ H Q q => by
  obtain ⟨A, h, ρ, F, m⟩ := q
  exact (show ∀ xs h' H', Fr C A h' ρ σ H' → Same h h' → DpAll C.K h' xs [] → Q xs H' from m) [] h H F (fun _ _ e => e) .nil
def consM (f : M D) (g : M (List D)) : M (List D) := bindM f fun d => bindM g fun ds => pureM (d :: ds)
theorem pax_cons {e : Expr} {es : List Expr} {f : M D} {g : M (List D)} (he : PX C E X e f) (hes : PAX C E X es g) (hs : starEach (e :: es) X.env = (false, eval e X.env) :: starEach es X.env := by rfl) : PAX C E X (e :: es) (consM f g) :=
  PA.weak (pa_cons he hes hs) fun σ H Q q => by
    obtain ⟨A, h, ρ, F, m⟩ := q
    refine tX_eq.mpr ⟨A, h, ρ, F, wpM_imp (wpM_bind m) fun d ρ1 m1 v h1 H1 F1 s1 q1 => ?_⟩
    refine ⟨A, h1, ρ1, F1, wpM_h s1 (wpM_bind m1) fun ds ρ2 m2 xs h2 H2 F2 s2 q2 => ?_⟩
    exact (show ∀ xs h' H', Fr C A h' ρ2 σ H' → Same h h' → DpAll C.K h' xs (d :: ds) → Q xs H' from m2) _ h2 H2 F2 (fun a o e => s2 a o (s1 a o e)) (.cons (dp_same s2 d v q1) q2)
def tupX (f : M (List D)) : M D := bindM f fun ds => if ds.length ≤ 1000000 then pureM (.tuple ds) else fun _ => .bad
def lstX (f : M (List D)) : M D := bindM f fun ds => if ds.length ≤ 1000000 then pureM (.list ds) else fun _ => .bad
theorem px_tup {es : List Expr} {f : M (List D)} {x1 : Nat} (h : PAX C E X es f) : PX C E X (.Tuple es x1 pos) (tupX f) :=
  PE.weak (pe_tup h) fun σ H Q q => by
    obtain ⟨A, h, ρ, F, m⟩ := tX_eq.mp q
    refine ⟨A, h, ρ, F, wpM_imp (wpM_bind m) fun ds ρ1 m1 xs h1 H1 F1 s1 q1 => ?_⟩
    have l := dpAll_len q1
    by_cases hl : ds.length ≤ 1000000
    · rw [if_pos hl] at m1
      have sm : ∀ {p : Addr}, H1 p = none → Same h1 (upd h1 p (.tup xs)) := fun hp => same_upd (none_of F1.sub hp) _
      exact ⟨Nat.le_trans (by omega) big_le, fun p hp => (show kX C A h σ Q (.tuple ds) ρ1 from m1) _ _ _ (F1.extend (Ext.lay F1.sub hp _)) (fun a o e => sm hp a o (s1 a o e)) (.tup (SqT.of upd_same) (dpAll_same (sm hp) _ _ q1))⟩
    · rw [if_neg hl] at m1
      exact m1.elim
theorem px_lst {es : List Expr} {f : M (List D)} (h : PAX C E X es f) : PX C E X (.List es pos) (lstX f) :=
  PE.weak (pe_lst h) fun σ H Q q => by
    obtain ⟨A, h, ρ, F, m⟩ := tX_eq.mp q
    refine ⟨A, h, ρ, F, wpM_imp (wpM_bind m) fun ds ρ1 m1 xs h1 H1 F1 s1 q1 => ?_⟩
    have l := dpAll_len q1
    by_cases hl : ds.length ≤ 1000000
    · rw [if_pos hl] at m1
      have sm : ∀ {p : Addr}, H1 p = none → Same h1 (upd h1 p (.lst xs)) := fun hp => same_upd (none_of F1.sub hp) _
      exact ⟨Nat.le_trans (by omega) big_le, fun p hp => (show kX C A h σ Q (.list ds) ρ1 from m1) _ _ _ (F1.extend (Ext.lay F1.sub hp _)) (fun a o e => sm hp a o (s1 a o e)) (.lst (SqL.of upd_same) (dpAll_same (sm hp) _ _ q1))⟩
    · rw [if_neg hl] at m1
      exact m1.elim
/-! ### a thing of one's own: a list that was just made -/
inductive Tm where
  | d (x : D)
  | l (ds : List D)
def TmOk (C : Cfg) (A : Anc) (h : Hp) (ρ : Rho) (σ : L2.St) (H : Hp) (v : V) : Tm → Prop
  | .d x => Dp C.K h v x
  | .l ds => ∃ a xs, v = .ref a ∧ H a = some (.lst xs) ∧ h a = none ∧ DpAll C.K h xs ds ∧ A.H0 a = none ∧ (∀ i, ¬ OwnAt ρ σ i a) ∧ (∀ p ∈ A.gh, p.1 ≠ a)
def kC (C : Cfg) (A : Anc) (h : Hp) (σ : L2.St) (Q : VK) : Tm → Rho → Prop := fun t ρ' => ∀ v h' H', Fr C A h' ρ' σ H' → Same h h' → TmOk C A h' ρ' σ H' v t → Q v H'
def tC' (C : Cfg) (E : WX) (f : M Tm) : TE := fun σ H Q => ∃ A h ρ, Fr C A h ρ σ H ∧ wpM C E A h (kC C A h σ Q) (f ρ)
abbrev PC' (C : Cfg) (E : WX) (X : Cx) (e : Expr) (f : M Tm) : Prop := PE X e (tC' C E f)
def tmD (f : M D) : M Tm := bindM f fun d => pureM (.d d)
theorem pc_of {e : Expr} {f : M D} (he : PX C E X e f) : PC' C E X e (tmD f) := PE.weak he fun σ H Q q => by
  obtain ⟨A, h, ρ, F, m⟩ := q
  exact tX_eq.mpr ⟨A, h, ρ, F, wpM_imp (wpM_bind m) fun d ρ1 m1 v h1 H1 F1 s1 q1 => (show kC C A h σ Q (.d d) ρ1 from m1) v h1 H1 F1 s1 q1⟩
/-- a new list at p, nobody's yet -/
theorem Fr.layOwn {A : Anc} {h : Hp} {ρ : Rho} {σ : L2.St} {H : Hp} (F : Fr C A h ρ σ H) {p : Addr} {xs : List V} {ds : List D} (n : H p = none) (q : DpAll C.K h xs ds) :
    Fr C A h ρ σ (upd H p (.lst xs)) ∧ TmOk C A h ρ σ (upd H p (.lst xs)) (.ref p) (.l ds) := by
  have sm := same_upd n (.lst xs)
  have n0 : A.H0 p = none := by
    cases e : A.H0 p with
    | none => rfl
    | some o => exact absurd n (F.al p (ne_some e))
  have ow : ∀ i, ¬ OwnAt ρ σ i p := fun i ⟨⟨pn, es, e⟩, e2⟩ => by
    obtain ⟨v, e1, a, ys, rfl, k1, _⟩ := F.slot i _ e
    rw [e2] at e1
    cases e1
    rw [n] at k1
    cases k1
  refine ⟨⟨fun b o e => sm b o (F.sub b o e), F.ext, F.new, fun b o e m1 m2 => sm b o (F.keep b o e m1 m2), fun b m z => ?_, F.len, fun P hP => ⟨tabG_same (F.tabs P hP).1 sm, (F.tabs P hP).2⟩, fun i s e => ?_, F.dist, fun g hg => ?_⟩, p, xs, rfl, upd_same, none_of F.sub n, q, n0, ow, fun g hg e => ?_⟩
  · by_cases y : b = p
    · subst y; exact m n0
    · rw [upd_ne y] at z; exact F.al b m z
  · obtain ⟨v, e1, e2⟩ := F.slot i s e
    refine ⟨v, e1, ?_⟩
    cases s with
    | d x => exact e2
    | x _ _ _ => exact e2
    | l pn es =>
      obtain ⟨a, ys, k0, k1, k2⟩ := e2
      exact ⟨a, ys, k0, sm _ _ k1, k2⟩
  · obtain ⟨k1, k2⟩ := F.gh g hg
    exact ⟨sm _ _ k1, k2⟩
  · have := (F.gh g hg).1
    rw [e, n] at this
    cases this
def ownX (f : M (List D)) : M Tm := bindM f fun ds => if ds.length ≤ 1000000 then pureM (.l ds) else fun _ => .bad
theorem pc_lst {es : List Expr} {f : M (List D)} (h : PAX C E X es f) : PC' C E X (.List es pos) (ownX f) :=
  PE.weak (pe_lst h) fun σ H Q q => by
    obtain ⟨A, h, ρ, F, m⟩ := q
    refine ⟨A, h, ρ, F, wpM_imp (wpM_bind m) fun ds ρ1 m1 xs h1 H1 F1 s1 q1 => ?_⟩
    have l := dpAll_len q1
    by_cases hl : ds.length ≤ 1000000
    · rw [if_pos hl] at m1
      refine ⟨Nat.le_trans (by omega) big_le, fun p hp => ?_⟩
      obtain ⟨F2, t2⟩ := F1.layOwn hp q1
      exact (show kC C A h σ Q (.l ds) ρ1 from m1) _ _ _ F2 s1 t2
    · rw [if_neg hl] at m1
      exact m1.elim
/-- it is data from now on -/
theorem Fr.frzTm {A : Anc} {h : Hp} {ρ : Rho} {σ : L2.St} {H : Hp} (F : Fr C A h ρ σ H) {v : V} {ds : List D} (t : TmOk C A h ρ σ H v (.l ds)) : ∃ h', Same h h' ∧ Fr C A h' ρ σ H ∧ Dp C.K h' v (.list ds) := by
  obtain ⟨a, xs, rfl, e1, e2, e3, e4, e5, e6⟩ := t
  have sm := same_upd e2 (.lst xs)
  refine ⟨upd h a (.lst xs), sm, ⟨fun b o e => ?_, fun b o e => sm b o (F.ext b o e), fun b e n => ?_, F.keep, F.al, F.len, fun P hP => ?_, fun i s e => ?_, F.dist, fun g hg => ?_⟩, .lst (SqL.of upd_same) (dpAll_same sm ds xs e3)⟩
  · by_cases z : b = a
    · subst z; rw [upd_same] at e; rw [e1]; exact e
    · rw [upd_ne z] at e; exact F.sub b o e
  · rw [upd_ne fun z => n (by rw [z]; exact e4)]
    exact F.new b e n
  · obtain ⟨k1, k2⟩ := F.tabs P hP
    refine ⟨k1, ?_⟩
    rw [upd_ne ?_]
    · exact k2
    · rintro rfl
      obtain ⟨ps, k3, _⟩ := k1
      rw [e1] at k3; cases k3
  · obtain ⟨w, k1, k2⟩ := F.slot i s e
    refine ⟨w, k1, ?_⟩
    cases s with
    | d x => exact dp_same sm x w k2
    | x _ _ _ => exact ⟨k2.1, k2.2.mono sm⟩
    | l p es =>
      obtain ⟨b, ys, rfl, m1, m2, m3, m4⟩ := k2
      refine ⟨b, ys, rfl, m1, ?_, dpAll_same sm es ys m3, m4⟩
      rw [upd_ne fun y => e5 i ⟨⟨_, _, e⟩, by rw [k1, y]⟩]
      exact m2
  · obtain ⟨k1, k2, k3, k4, k5⟩ := F.gh g hg
    refine ⟨k1, ?_, k3, k4, k5⟩
    rw [upd_ne (e6 g hg)]
    exact k2
def frzT : Tm → D
  | .d x => x
  | .l ds => .list ds
def frzM (f : M Tm) : M D := bindM f fun t => pureM (frzT t)
theorem px_of {e : Expr} {f : M Tm} (he : PC' C E X e f) : PX C E X e (frzM f) := PE.weak he fun σ H Q q => by
  obtain ⟨A, h, ρ, F, m⟩ := tX_eq.mp q
  refine ⟨A, h, ρ, F, wpM_imp (wpM_bind m) fun t ρ1 m1 v h1 H1 F1 s1 q1 => ?_⟩
  cases t with
  | d x => exact (show kX C A h σ Q x ρ1 from m1) v h1 H1 F1 s1 q1
  | l ds =>
    obtain ⟨h2, s2, F2, q2⟩ := F1.frzTm q1
    exact (show kX C A h σ Q (.list ds) ρ1 from m1) v h2 H1 F2 (fun a o e => s2 a o (s1 a o e)) q2
/-! ### calls of built-ins by values -/
def refsOk (C : Cfg) (h : Hp) (σ : L2.St) : List V → List Ref → Prop
  | [], [] => True
  | v :: vs, r :: rs => RefOk C h σ v r ∧ refsOk C h σ vs rs
  | _, _ => False
theorem refsOk.mono {h h' : Hp} {σ : L2.St} (e : Same h h') : ∀ {vs : List V} {rs : List Ref}, refsOk C h σ vs rs → refsOk C h' σ vs rs
  | [], [], _ => trivial
  | _ :: _, _ :: _, ⟨a, b⟩ => ⟨a.mono e, b.mono e⟩
  | [], _ :: _, h => h.elim
  | _ :: _, [], h => h.elim
def tAO (C : Cfg) (E : WX) (f : M (List Ref)) : TA := fun σ H Q => ∃ A h ρ, Fr C A h ρ σ H ∧ wpM C E A h (fun rs ρ' => ∀ vs h' H', Fr C A h' ρ' σ H' → Same h h' → refsOk C h' σ vs rs → Q vs H') (f ρ)
abbrev PAO (C : Cfg) (E : WX) (X : Cx) (es : List Expr) (f : M (List Ref)) : Prop := PA X es (tAO C E f)
theorem pao_nil : PAO C E X [] (pureM []) := PA.weak pa_nil fun σ H Q q => by
  obtain ⟨A, h, ρ, F, m⟩ := q
  exact (show ∀ vs h' H', Fr C A h' ρ σ H' → Same h h' → refsOk C h' σ vs [] → Q vs H' from m) [] h H F (fun _ _ e => e) trivial
def consR (f : M Ref) (g : M (List Ref)) : M (List Ref) := bindM f fun d => bindM g fun ds => pureM (d :: ds)
theorem pao_cons {e : Expr} {es : List Expr} {f : M Ref} {g : M (List Ref)} (he : PO C E X e f) (hes : PAO C E X es g) (hs : starEach (e :: es) X.env = (false, eval e X.env) :: starEach es X.env := by rfl) : PAO C E X (e :: es) (consR f g) :=
  PA.weak (pa_cons he hes hs) fun σ H Q q => by
    obtain ⟨A, h, ρ, F, m⟩ := q
    refine tO_eq.mpr ⟨A, h, ρ, F, wpM_imp (wpM_bind m) fun r ρ1 m1 v h1 H1 F1 s1 q1 => ?_⟩
    refine ⟨A, h1, ρ1, F1, wpM_h s1 (wpM_bind m1) fun rs ρ2 m2 vs h2 H2 F2 s2 q2 => ?_⟩
    exact (show ∀ vs h' H', Fr C A h' ρ2 σ H' → Same h h' → refsOk C h' σ vs (r :: rs) → Q vs H' from m2) _ h2 H2 F2 (fun a o e => s2 a o (s1 a o e)) ⟨q1.mono s2, q2⟩
def rds (ρ : Rho) : List Ref → Option (List D)
  | [] => some []
  | r :: rs => match rd ρ r, rds ρ rs with
    | some d, some ds => some (d :: ds)
    | _, _ => none
def RepWs (C : Cfg) (h H : Hp) : List V → List D → Prop
  | [], [] => True
  | v :: vs, d :: ds => RepW C h H v d ∧ RepWs C h H vs ds
  | _, _ => False
theorem Fr.views {A : Anc} {h : Hp} {ρ : Rho} {σ : L2.St} {H : Hp} (F : Fr C A h ρ σ H) : ∀ {vs : List V} {rs : List Ref} {ds : List D}, refsOk C h σ vs rs → rds ρ rs = some ds → RepWs C h H vs ds
  | [], [], ds, _, e => by cases e; trivial
  | v :: vs, r :: rs, ds, ⟨a, b⟩, e => by
    have e : (match rd ρ r, rds ρ rs with
      | some d, some ds => some (d :: ds)
      | _, _ => none) = some ds := e
    cases e1 : rd ρ r with
    | none => rw [e1] at e; cases e
    | some d =>
      cases e2 : rds ρ rs with
      | none => rw [e1, e2] at e; cases e
      | some es =>
        rw [e1, e2] at e
        cases e
        exact ⟨F.view a e1, F.views b e2⟩
  | [], _ :: _, _, h, _ => h.elim
  | _ :: _, [], _, h, _ => h.elim
def CaD (C : Cfg) (r : List V → Hp → VK → Prop) (g : List D → Option D) : Prop := ∀ h H vs ds d (Q : VK), Same h H → RepWs C h H vs ds → g ds = some d → (∀ v h' H', Ext h H h' H' → Dp C.K h' v d → Q v H') → r vs H Q
def caM (g : List D → Option D) (rs : List Ref) : M D := fun ρ => match rds ρ rs with
  | some ds => liftM (g ds) ρ
  | none => .bad
def caX (g : List D → Option D) (f : M (List Ref)) : M D := bindM f (caM g)
theorem tCB_of {r : List V → Hp → VK → Prop} {g : List D → Option D} {f : M (List Ref)} (hg : CaD C r g) : ∀ σ H Q, tX C E (caX g f) σ H Q → tCB r (tAO C E f) σ H Q := fun σ H Q q => by
  obtain ⟨A, h, ρ, F, m⟩ := tX_eq.mp q
  refine ⟨A, h, ρ, F, wpM_imp (wpM_bind m) fun rs ρ1 m1 vs h1 H1 F1 s1 q1 => ?_⟩
  unfold caM at m1
  cases e1 : rds ρ1 rs with
  | none => rw [e1] at m1; exact m1.elim
  | some ds =>
    rw [e1] at m1
    obtain ⟨d, e2, m1⟩ := wpM_lift m1
    exact hg h1 H1 vs ds d Q F1.sub (F1.views q1 e1) e2 fun v h' H' ee qq => (show kX C A h σ Q d ρ1 from m1) v h' H' (F1.extend ee) (fun a o e => ee.hh a o (s1 a o e)) qq
theorem px_callB {id : String} {x : Str} {e : Expr} {es : List Expr} {p : Pos} {r : List V → Hp → VK → Prop} {g : List D → Option D} {f : M (List Ref)} (hc : CallR X (.builtin id) r) (hr : CaD C r g) (hg : Gl X x) (hm : X.mg x = none) (hv : bootBuiltins x = some (.builtin id)) (ha : PAO C E X (e :: es) f)
    (hn : x ≠ "__name__" := by decide) (hdb : (x == ("__debug__" : Str)) = false := by decide) (he : starEach (e :: es) X.env = (false, eval e X.env) :: starEach es X.env := by rfl) (hpl : (backTo pos (starEach es X.env)).any (·.1) = false := by rfl) : PX C E X (.Call (.Name x p) (e :: es) [] pos) (caX g f) :=
  PE.weak (pe_callB hc hg hm hv ha hn hdb he hpl) (tCB_of hr)
theorem px_callTy {id : String} {x : Str} {e : Expr} {es : List Expr} {p : Pos} {r : List V → Hp → VK → Prop} {g : List D → Option D} {f : M (List Ref)} (hc : CallR X (.type id) r) (hr : CaD C r g) (hg : Gl X x) (hm : X.mg x = none) (hv : bootBuiltins x = some (.type id)) (ha : PAO C E X (e :: es) f)
    (hn : x ≠ "__name__" := by decide) (hdb : (x == ("__debug__" : Str)) = false := by decide) (he : starEach (e :: es) X.env = (false, eval e X.env) :: starEach es X.env := by rfl) (hpl : (backTo pos (starEach es X.env)).any (·.1) = false := by rfl) : PX C E X (.Call (.Name x p) (e :: es) [] pos) (caX g f) :=
  PE.weak (pe_callTy hc hg hm hv ha hn hdb he hpl) (tCB_of hr)
def lenD : List D → Option D
  | [.str x] => if x.length ≤ 1000000 then some (.int x.length) else none
  | [.list ds] => some (.int ds.length)
  | [.tuple ds] => some (.int ds.length)
  | _ => none
theorem repWs1 {h H : Hp} {vs : List V} {d : D} (q : RepWs C h H vs [d]) : ∃ v, vs = [v] ∧ RepW C h H v d := by
  match vs, q with
  | [v], ⟨a, _⟩ => exact ⟨v, rfl, a⟩
theorem ca_len : CaD C (fun xs H Q => ∃ x n, xs = [x] ∧ LenV C.K x H n ∧ Q (.int n) H) lenD := fun h H vs ds d Q s q e k => by
  unfold lenD at e
  split at e
  · obtain ⟨v, rfl, qq⟩ := repWs1 q
    split at e
    · rename_i hl
      cases e
      cases qq.str
      exact ⟨_, _, rfl, ⟨Nat.le_trans hl big_le, rfl⟩, k _ h H (Ext.refl s) (.int _)⟩
    · cases e
  · obtain ⟨v, rfl, qq⟩ := repWs1 q
    cases e
    obtain ⟨a, xs, rfl, h1, h2⟩ := qq.list s
    rw [← dpAll_len h2] at k
    exact ⟨_, _, rfl, .inl ⟨xs, h1, rfl⟩, k _ h H (Ext.refl s) (.int _)⟩
  · obtain ⟨v, rfl, qq⟩ := repWs1 q
    cases e
    obtain ⟨a, xs, rfl, h1, h2⟩ := qq.tuple s
    rw [← dpAll_len h2] at k
    exact ⟨_, _, rfl, .inr ⟨xs, h1, rfl⟩, k _ h H (Ext.refl s) (.int _)⟩
  · cases e
def intF : List D → Option D
  | [.int i] => some (.int i)
  | [.bool b] => some (.int (if b then 1 else 0))
  | _ => none
theorem ca_int : CaD C (fun xs H Q => (∃ i, xs = [.int i] ∧ Q (.int i) H) ∨ ∃ k, xs = [.bl k] ∧ Q (.int (if k then 1 else 0)) H) intF := fun h H vs ds d Q s q e k => by
  unfold intF at e
  split at e
  · obtain ⟨v, rfl, qq⟩ := repWs1 q
    cases e
    cases qq.int
    exact .inl ⟨_, rfl, k _ h H (Ext.refl s) (.int _)⟩
  · obtain ⟨v, rfl, qq⟩ := repWs1 q
    cases e
    cases qq.bool
    exact .inr ⟨_, rfl, k _ h H (Ext.refl s) (.int _)⟩
  · cases e
/-- - of an int -/
def negX (f : M D) : M D := bindM f fun d => bindM (liftM (intD d)) fun i => pureM (.int (-i))
theorem px_neg {a : Expr} {f : M D} (ha : PX C E X a f) : PX C E X (.UnaryOp .USub a pos) (negX f) := PE.weak (pe_un un_neg ha) fun σ H Q q => by
  obtain ⟨A, h, ρ, F, m⟩ := tX_eq.mp q
  refine tX_eq.mpr ⟨A, h, ρ, F, wpM_imp (wpM_bind m) fun d ρ1 m1 v h1 H1 F1 s1 q1 => ?_⟩
  obtain ⟨i, e, m1⟩ := wpM_lift (wpM_bind m1)
  have := intD_some e
  subst this
  exact ⟨i, dp_int q1, (show kX C A h σ Q (.int (-i)) ρ1 from m1) _ h1 H1 F1 s1 (.int _)⟩
def isLst : D → Bool
  | .list _ => true
  | _ => false
/-- isinstance(x, T) -/
def tyIs (T : String) (d : D) : Bool := match T with
  | "tuple" => isTup d
  | "bool" => isBool d
  | "int" => isInt d
  | "str" => isStr d
  | _ => isLst d
theorem dp_ty {K : PySem.W.Frag} {H : Hp} {v : V} {d : D} (h : Dp K H v d) : TyX K H v (.type (dTy d)) := by
  cases h with
  | non => exact .base .non
  | bl b => exact .base (.bl b)
  | int b => exact .base (.int b)
  | str b => exact .base (.str b)
  | lst hs _ =>
    rcases hs with (hs | ⟨o, hs⟩) | ⟨o, its, n, e, c, _⟩
    · exact .base (.lst hs)
    · exact .base (.frz hs)
    · exact .kList e c
  | tup hs _ =>
    rcases hs with (hs | ⟨o, hs⟩) | ⟨o, its, n, e, c, _⟩
    · exact .base (.tup hs)
    · exact .fTuple hs
    · exact .kTuple e c
theorem kit_lst {K : PySem.W.Frag} (d : PyData) : PySem.W.kitOne K (.type (dTy d)) (.type "list") = some (tyIs "list" d) := by
  show _ = some (isLst d)
  cases d <;> simp only [dTy, isLst] <;> exact kit_ty (by decide +kernel)
def isiM (T : String) (r : Ref) : M D := fun ρ => match rd ρ r with
  | some d => .ok (.bool (tyIs T d)) ρ
  | none => .bad
def isiX (T : String) (f : M Ref) : M D := bindM f (isiM T)
theorem px_isi {T : String} {e : Expr} {Tn : Str} {p p2 : Pos} {f : M Ref} (hK : C.K = X.K) (kit : ∀ d, PySem.W.kitOne X.K (.type (dTy d)) (.type T) = some (tyIs T d)) (hg : Gl X "isinstance") (hm : X.mg "isinstance" = none) (hT : PE X (.Name Tn p2) (tC (.ty T))) (he : PO C E X e f)
    (h1 : starEach [e, .Name Tn p2] X.env = (false, eval e X.env) :: starEach [.Name Tn p2] X.env := by rfl) (h2 : starEach [.Name Tn p2] X.env = (false, eval (.Name Tn p2) X.env) :: starEach [] X.env := by rfl) (hpl : (backTo pos (starEach [.Name Tn p2] X.env)).any (·.1) = false := by rfl) :
    PX C E X (.Call (.Name "isinstance" p) [e, .Name Tn p2] [] pos) (isiX T f) :=
  PE.weak (pe_callB call_isi hg hm (by decide +kernel) (pa_cons he (pa_cons hT pa_nil h2) h1) (by decide) (by decide) h1 hpl) fun σ H Q q => by
    obtain ⟨A, h, ρ, F, m⟩ := tX_eq.mp q
    refine tO_eq.mpr ⟨A, h, ρ, F, wpM_imp (wpM_bind m) fun r ρ1 m1 v h1 H1 F1 s1 q1 => ?_⟩
    unfold isiM at m1
    cases e1 : rd ρ1 r with
    | none => rw [e1] at m1; exact m1.elim
    | some d =>
      rw [e1] at m1
      exact ⟨v, .ty T, _, _, _, rfl, .ty _, dp_ty (hK ▸ (F1.view q1 e1).dp F1.sub), kit d, (show kX C A h σ Q (.bool (tyIs T d)) ρ1 from m1) _ h1 H1 F1 s1 (.bl _)⟩
end
end EV

/-! # EV 5: statements, loops -/
namespace EV
open PySem PySem.Spec PyProof.Rows L2 Ver
inductive Out where
  | nx (ρ : Rho)
  | ret (t : Tm) (ρ : Rho)
  | brk (ρ : Rho)
  | ct (ρ : Rho)
  | ex (e : Exc) (ρ : Rho)
  | bad
def wpS (C : Cfg) (E : WX) (A : Anc) (h : Hp) (D : Ends) : Out → Prop
  | .nx ρ' => ∀ σ' h' H', Fr C A h' ρ' σ' H' → Same h h' → D.nx σ' H'
  | .brk ρ' => ∀ σ' h' H', Fr C A h' ρ' σ' H' → Same h h' → D.bk σ' H'
  | .ct ρ' => ∀ σ' h' H', Fr C A h' ρ' σ' H' → Same h h' → D.ct σ' H'
  | .ret t ρ' => ∀ v σ' h' H', Fr C A h' ρ' σ' H' → Same h h' → TmOk C A h' ρ' σ' H' v t → D.rt v H'
  | .ex e ρ' => Thrown C E A h e ρ'
  | .bad => False
def tS (C : Cfg) (E : WX) (f : Rho → Out) : TS := fun D σ H => ∃ A h ρ, Fr C A h ρ σ H ∧ wpS C E A h D (f ρ)
abbrev SS (C : Cfg) (E : WX) (X : Cx) (st : Stmt) (f : Rho → Out) : Prop := PS X st (tS C E f)
abbrev SSs (C : Cfg) (E : WX) (X : Cx) (st : List Stmt) (f : Rho → Out) : Prop := PSs X st (tS C E f)
theorem PS.weak {X : Cx} {e : Stmt} {t u : TS} (h : PS X e t) (k : ∀ D σ H, u D σ H → t D σ H) : PS X e u := ⟨fun pins s σ H D I q => h.run pins s σ H D I (k D σ H q)⟩
theorem PSs.weak {X : Cx} {e : List Stmt} {t u : TS} (h : PSs X e t) (k : ∀ D σ H, u D σ H → t D σ H) : PSs X e u := ⟨fun pins s σ H D I q => h.run pins s σ H D I (k D σ H q)⟩
theorem Same.tr {a b c : Hp} (x : Same a b) (y : Same b c) : Same a c := fun p o e => y p o (x p o e)
section
variable {C : Cfg} {E : WX} {X : Cx} {pos : Pos}
theorem wpS_h {A : Anc} {h h1 : Hp} {D : Ends} {o : Out} (s : Same h h1) (q : wpS C E A h D o) : wpS C E A h1 D o := by
  cases o with
  | nx ρ => exact fun σ' h' H' F s' => q σ' h' H' F (Same.tr s s')
  | brk ρ => exact fun σ' h' H' F s' => q σ' h' H' F (Same.tr s s')
  | ct ρ => exact fun σ' h' H' F s' => q σ' h' H' F (Same.tr s s')
  | ret t ρ => exact fun v σ' h' H' F s' => q v σ' h' H' F (Same.tr s s')
  | ex e ρ => exact Thrown.mono q s
  | bad => exact q
def skipS : Rho → Out := .nx
def seqS (f g : Rho → Out) : Rho → Out := fun ρ => match f ρ with
  | .nx ρ' => g ρ'
  | o => o
theorem ss_nil : SSs C E X [] skipS := PSs.weak pss_nil fun D σ H q => by
  obtain ⟨A, h, ρ, F, m⟩ := q
  exact (show ∀ σ' h' H', Fr C A h' ρ σ' H' → Same h h' → D.nx σ' H' from m) σ h H F fun _ _ e => e
theorem ss_cons {st : Stmt} {rest : List Stmt} {f g : Rho → Out} (a : SS C E X st f) (b : SSs C E X rest g) : SSs C E X (st :: rest) (seqS f g) := PSs.weak (pss_cons a b) fun D σ H q => by
  obtain ⟨A, h, ρ, F, m⟩ := q
  refine ⟨A, h, ρ, F, ?_⟩
  have m : wpS C E A h D (match f ρ with
    | .nx ρ' => g ρ'
    | o => o) := m
  cases e : f ρ with
  | nx ρ1 => rw [e] at m; exact fun σ1 h1 H1 F1 s1 => ⟨A, h1, ρ1, F1, wpS_h s1 m⟩
  | brk ρ1 => rw [e] at m; exact m
  | ct ρ1 => rw [e] at m; exact m
  | ret t ρ1 => rw [e] at m; exact m
  | ex e ρ1 => rw [e] at m; exact m
  | bad => rw [e] at m; exact m
theorem ss_pass : SS C E X (.Pass pos) skipS := PS.weak ps_pass fun D σ H q => by
  obtain ⟨A, h, ρ, F, m⟩ := q
  exact (show ∀ σ' h' H', Fr C A h' ρ σ' H' → Same h h' → D.nx σ' H' from m) σ h H F fun _ _ e => e
theorem ss_break : SS C E X (.Break pos) .brk := PS.weak ps_break fun D σ H q => by
  obtain ⟨A, h, ρ, F, m⟩ := q
  exact (show ∀ σ' h' H', Fr C A h' ρ σ' H' → Same h h' → D.bk σ' H' from m) σ h H F fun _ _ e => e
theorem ss_continue : SS C E X (.Continue pos) .ct := PS.weak ps_continue fun D σ H q => by
  obtain ⟨A, h, ρ, F, m⟩ := q
  exact (show ∀ σ' h' H', Fr C A h' ρ σ' H' → Same h h' → D.ct σ' H' from m) σ h H F fun _ _ e => e
/-- what is done with an expression's outcome -/
def onM {α : Type} (f : M α) (k : α → Rho → Out) : Rho → Out := fun ρ => match f ρ with
  | .ok a ρ' => k a ρ'
  | .ex e ρ' => .ex e ρ'
  | .bad => .bad
theorem wpS_on {α : Type} {A : Anc} {h : Hp} {D : Ends} {f : M α} {k : α → Rho → Out} {ρ : Rho} (m : wpS C E A h D (onM f k ρ)) : wpM C E A h (fun a ρ' => wpS C E A h D (k a ρ')) (f ρ) := by
  unfold onM at m
  cases e : f ρ <;> rw [e] at m <;> exact m
def dropS (f : M Tm) : Rho → Out := onM f fun _ ρ => .nx ρ
theorem ss_expr {e : Expr} {f : M Tm} (he : PC' C E X e f) (hs : swapsWith e none pos.line X.env = pure false := by rfl) : SS C E X (.Expr e pos) (dropS f) := PS.weak (ps_expr he hs) fun D σ H q => by
  obtain ⟨A, h, ρ, F, m⟩ := q
  exact ⟨A, h, ρ, F, wpM_imp (wpS_on m) fun t ρ1 m1 v h1 H1 F1 s1 _ => (show ∀ σ' h' H', Fr C A h' ρ1 σ' H' → Same h h' → D.nx σ' H' from m1) σ h1 H1 F1 s1⟩
def retS (f : M Tm) : Rho → Out := onM f fun t ρ => .ret t ρ
theorem ss_ret {e : Expr} {f : M Tm} (he : PC' C E X e f) : SS C E X (.Return (some e) pos) (retS f) := PS.weak (ps_ret he) fun D σ H q => by
  obtain ⟨A, h, ρ, F, m⟩ := q
  exact ⟨A, h, ρ, F, wpM_imp (wpS_on m) fun t ρ1 m1 v h1 H1 F1 s1 k => (show ∀ v σ' h' H', Fr C A h' ρ1 σ' H' → Same h h' → TmOk C A h' ρ1 σ' H' v t → D.rt v H' from m1) v σ h1 H1 F1 s1 k⟩
theorem ss_retN : SS C E X (.Return none pos) (fun ρ => .ret (.d .none) ρ) := PS.weak ps_retN fun D σ H q => by
  obtain ⟨A, h, ρ, F, m⟩ := q
  exact (show ∀ v σ' h' H', Fr C A h' ρ σ' H' → Same h h' → TmOk C A h' ρ σ' H' v (.d .none) → D.rt v H' from m) .non σ h H F (fun _ _ e => e) Dp.non
/-- return name: one's own list leaves the frame -/
def nmT (i : Nat) : M Tm := fun ρ => match ρ[i]? with
  | some (some (.d x)) => .ok (.d x) ρ
  | some (some (.l false ds)) => .ok (.l ds) (ρ.set i none)
  | _ => .bad
theorem ownAt_clear {ρ : Rho} {σ : L2.St} {i j : Nat} {a : Addr} (q : OwnAt (ρ.set i none) σ j a) : j ≠ i ∧ OwnAt ρ σ j a := by
  obtain ⟨⟨p, ds, e⟩, r⟩ := q
  by_cases z : j = i
  · subst z
    rw [List.getElem?_set] at e
    simp only [if_true] at e
    split at e <;> cases e
  · rw [List.getElem?_set_ne (Ne.symm z)] at e
    exact ⟨z, ⟨p, ds, e⟩, r⟩
theorem Fr.clear {A : Anc} {h : Hp} {ρ : Rho} {σ : L2.St} {H : Hp} (F : Fr C A h ρ σ H) (i : Nat) : Fr C A h (ρ.set i none) σ H :=
  ⟨F.sub, F.ext, F.new, F.keep, F.al, by rw [List.length_set]; exact F.len, F.tabs, fun j s e => by
    by_cases z : j = i
    · subst z
      rw [List.getElem?_set] at e
      simp only [if_true] at e
      split at e <;> cases e
    · rw [List.getElem?_set_ne (Ne.symm z)] at e
      exact F.slot j s e, fun j k a q1 q2 => F.dist j k a (ownAt_clear q1).2 (ownAt_clear q2).2, fun p hp => by
    obtain ⟨k1, k2, k3, k4, k5⟩ := F.gh p hp
    exact ⟨k1, k2, k3, k4, fun j q => k5 j (ownAt_clear q).2⟩⟩
theorem pc_name {i : Nat} {x : Str} (he : PE X (.Name x pos) (tVar i)) : PC' C E X (.Name x pos) (nmT i) := PE.weak he fun σ H Q q => by
  obtain ⟨A, h, ρ, F, m⟩ := q
  unfold nmT at m
  split at m
  · rename_i d e
    obtain ⟨v, e1, e2⟩ := F.slot i _ e
    exact ⟨v, e1, (show kC C A h σ Q (.d d) ρ from m) v h H F (fun _ _ e => e) e2⟩
  · rename_i ds e
    obtain ⟨v, e1, a, xs, rfl, k1, k2, k3, k4, k5⟩ := F.slot i _ e
    have ow : OwnAt ρ σ i a := ⟨⟨_, _, e⟩, e1⟩
    exact ⟨_, e1, (show kC C A h σ Q (.l ds) (ρ.set i none) from m) _ h H (F.clear i) (fun _ _ e => e) ⟨a, xs, rfl, k1, k2, k3, k5 rfl, fun j q => (ownAt_clear q).1 (F.dist j i a (ownAt_clear q).2 ow), fun p hp z => (F.gh p hp).2.2.2.2 i (z ▸ ow)⟩⟩
  · exact m.elim
/-! ### stores -/
def canSet : Option (Option Sl) → Bool
  | some (some (.l true _)) => false
  | some _ => true
  | none => false
def slOf : Tm → Sl
  | .d x => .d x
  | .l ds => .l false ds
theorem Fr.set {A : Anc} {h : Hp} {ρ : Rho} {σ : L2.St} {H : Hp} (F : Fr C A h ρ σ H) {i : Nat} {v : V} {t : Tm} (hc : canSet ρ[i]? = true) (k : TmOk C A h ρ σ H v t) : Fr C A h (ρ.set i (some (slOf t))) (σ.set i (some v)) H := by
  have hi : i < ρ.length := by
    cases e : ρ[i]? with
    | none => rw [e] at hc; cases hc
    | some _ => exact (List.getElem?_eq_some_iff.mp e).1
  have hi2 : i < σ.length := by rw [F.len]; exact hi
  have own : ∀ j a, OwnAt (ρ.set i (some (slOf t))) (σ.set i (some v)) j a → (j ≠ i ∧ OwnAt ρ σ j a) ∨ (j = i ∧ ∃ ds, t = .l ds ∧ v = .ref a) := fun j a ⟨⟨p, ds, e⟩, r⟩ => by
    by_cases z : j = i
    · subst z
      rw [List.getElem?_set_self hi] at e
      rw [List.getElem?_set_self hi2] at r
      cases t with
      | d x => cases e
      | l es => exact .inr ⟨rfl, es, rfl, Option.some.inj (Option.some.inj r)⟩
    · rw [List.getElem?_set_ne (Ne.symm z)] at e r
      exact .inl ⟨z, ⟨p, ds, e⟩, r⟩
  refine ⟨F.sub, F.ext, F.new, F.keep, F.al, by rw [List.length_set, List.length_set]; exact F.len, F.tabs, fun j s e => ?_, fun j l a q1 q2 => ?_, fun p hp => ?_⟩
  · by_cases z : j = i
    · subst z
      rw [List.getElem?_set_self hi] at e
      cases e
      refine ⟨v, List.getElem?_set_self hi2, ?_⟩
      cases t with
      | d x => exact k
      | l ds =>
        obtain ⟨a, xs, k1, k2, k3, k4, k5, _⟩ := k
        exact ⟨a, xs, k1, k2, k3, k4, (fun z => nomatch z), fun _ => k5⟩
    · rw [List.getElem?_set_ne (Ne.symm z)] at e
      rw [List.getElem?_set_ne (Ne.symm z)]
      exact F.slot j s e
  · have clash : ∀ n b, (∃ ds, t = .l ds ∧ v = .ref b) → ¬ OwnAt ρ σ n b := fun n b ⟨ds, e, ev⟩ o => by
      subst e
      obtain ⟨a', xs, k1, _, _, _, _, k6, _⟩ := k
      rw [ev] at k1
      cases k1
      exact k6 n o
    rcases own j a q1 with ⟨_, o1⟩ | ⟨z1, t1⟩ <;> rcases own l a q2 with ⟨_, o2⟩ | ⟨z2, t2⟩
    · exact F.dist j l a o1 o2
    · exact (clash j a t2 o1).elim
    · exact (clash l a t1 o2).elim
    · rw [z1, z2]
  · obtain ⟨k1, k2, k3, k4, k5⟩ := F.gh p hp
    refine ⟨k1, k2, k3, k4, fun j q => ?_⟩
    rcases own j p.1 q with ⟨_, o⟩ | ⟨_, ds, e, ev⟩
    · exact k5 j o
    · subst e
      obtain ⟨a', xs, m1, _, _, _, _, _, m7⟩ := k
      rw [ev] at m1
      cases m1
      exact m7 p hp rfl
def putS (i : Nat) (t : Tm) : Rho → Out := fun ρ => if canSet ρ[i]? = true then .nx (ρ.set i (some (slOf t))) else .bad
def setS (i : Nat) (f : M Tm) : Rho → Out := onM f (putS i)
theorem put_ok {A : Anc} {h h0 : Hp} {ρ : Rho} {σ : L2.St} {H : Hp} {D : Ends} {i : Nat} {t : Tm} {v : V} (F : Fr C A h ρ σ H) (s : Same h0 h) (k : TmOk C A h ρ σ H v t) (m : wpS C E A h0 D (putS i t ρ)) : D.nx (σ.set i (some v)) H := by
  unfold putS at m
  by_cases hc : canSet ρ[i]? = true
  · rw [if_pos hc] at m
    exact (show ∀ σ' h' H', Fr C A h' (ρ.set i (some (slOf t))) σ' H' → Same h0 h' → D.nx σ' H' from m) _ h H (F.set hc k) s
  · rw [if_neg hc] at m
    exact m.elim
theorem ss_set {i : Nat} {x : Str} {e : Expr} {f : M Tm} {pos' : Pos} (hN : X.N.Nodup) (hi : X.N[i]? = some x) (hx : Loc X.env.scope x) (he : PC' C E X e f) (hs : swapsWith e (some (.Name x pos')) pos.line X.env = pure false := by rfl) (hf : X.fn x = true ∨ X.env.scope.names.lookup x = some .local := by first | exact .inl rfl | exact .inr rfl | assumption) :
    SS C E X (.Assign [.Name x pos'] e pos) (setS i f) := PS.weak (ps_set hN hi hx he hs hf) fun D σ H q => by
  obtain ⟨A, h, ρ, F, m⟩ := q
  exact ⟨A, h, ρ, F, wpM_imp (wpS_on m) fun t ρ1 m1 v h1 H1 F1 s1 k => put_ok F1 s1 k m1⟩
/-- a target -/
def Agree (ws : List Nat) (σ σ' : L2.St) : Prop := σ'.length = σ.length ∧ ∀ j, j ∉ ws → σ'[j]? = σ[j]?
def gT (C : Cfg) (ws : List Nat) (g : D → Rho → Option Rho) : TG := fun v σ H Q => ∃ A h ρ d ρ', Fr C A h ρ σ H ∧ Dp C.K h v d ∧ g d ρ = some ρ' ∧ ∀ σ', Agree ws σ σ' → Fr C A h ρ' σ' H → Q σ' H
def gTs (C : Cfg) (ws : List Nat) (g : List D → Rho → Option Rho) : TGs := fun vs σ H Q => ∃ A h ρ ds ρ', Fr C A h ρ σ H ∧ DpAll C.K h vs ds ∧ g ds ρ = some ρ' ∧ ∀ σ', Agree ws σ σ' → Fr C A h ρ' σ' H → Q σ' H
theorem PG.weak {tg : Expr} {t u : TG} (h : PG X tg t) (k : ∀ v σ H Q, u v σ H Q → t v σ H Q) : PG X tg u := ⟨fun pins s σ H v u Q I r q => h.run pins s σ H v u Q I r (k v σ H Q q)⟩
theorem PGs.weak {tg : List Expr} {t u : TGs} (h : PGs X tg t) (k : ∀ v σ H Q, u v σ H Q → t v σ H Q) : PGs X tg u := ⟨fun pins s σ H v u Q I r q => h.run pins s σ H v u Q I r (k v σ H Q q)⟩
def nmG (i : Nat) : D → Rho → Option Rho := fun d ρ => if canSet ρ[i]? = true then some (ρ.set i (some (.d d))) else none
theorem tg_name {i : Nat} {x : Str} (he : PG X (.Name x pos) (gName i)) : PG X (.Name x pos) (gT C [i] (nmG i)) := PG.weak he fun v σ H Q q => by
  obtain ⟨A, h, ρ, d, ρ', F, k, e, q⟩ := q
  unfold nmG at e
  by_cases hc : canSet ρ[i]? = true
  · rw [if_pos hc] at e
    cases e
    exact q _ ⟨List.length_set, fun j m => List.getElem?_set_ne fun z => m (by rw [z]; exact List.mem_cons_self)⟩ (F.set (t := .d d) hc k)
  · rw [if_neg hc] at e
    cases e
def nilG : List D → Rho → Option Rho := fun ds ρ => match ds with
  | [] => some ρ
  | _ => none
def consG (g : D → Rho → Option Rho) (gs : List D → Rho → Option Rho) : List D → Rho → Option Rho := fun ds ρ => match ds with
  | d :: r => (match g d ρ with
    | some ρ1 => gs r ρ1
    | none => none)
  | [] => none
def tupG (n : Nat) (gs : List D → Rho → Option Rho) : D → Rho → Option Rho := fun d ρ => match d with
  | .tuple ds => if ds.length = n then gs ds ρ else none
  | _ => none
theorem tgs_nil : PGs X [] (gTs C [] nilG) := PGs.weak pgs_nil fun v σ H Q q => by
  obtain ⟨A, h, ρ, ds, ρ', F, k, e, q⟩ := q
  cases k with
  | nil => cases e; exact ⟨rfl, q σ ⟨rfl, fun _ _ => rfl⟩ F⟩
  | cons _ _ => cases e
theorem tgs_cons {e : Expr} {es : List Expr} {ws us : List Nat} {g : D → Rho → Option Rho} {gs : List D → Rho → Option Rho} (a : PG X e (gT C ws g)) (b : PGs X es (gTs C us gs)) (hs : (assignEach (e :: es) X.env).map (·.2) = assign e X.env :: (assignEach es X.env).map (·.2) := by rfl) : PGs X (e :: es) (gTs C (ws ++ us) (consG g gs)) :=
  PGs.weak (pgs_cons a b hs) fun v σ H Q q => by
    obtain ⟨A, h, ρ, ds, ρ', F, k, e, q⟩ := q
    cases k with
    | nil => cases e
    | cons k1 k2 =>
      rename_i x xs d r
      have e : (match g d ρ with
        | some ρ1 => gs r ρ1
        | none => none) = some ρ' := e
      cases e1 : g d ρ with
      | none => rw [e1] at e; cases e
      | some ρ1 =>
        rw [e1] at e
        exact ⟨x, xs, rfl, A, h, ρ, d, ρ1, F, k1, e1, fun σ1 g1 F1 => ⟨A, h, ρ1, r, ρ', F1, k2, e, fun σ2 g2 F2 => q σ2 ⟨g2.1.trans g1.1, fun j m => (g2.2 j fun z => m (List.mem_append_right _ z)).trans (g1.2 j fun z => m (List.mem_append_left _ z))⟩ F2⟩⟩
theorem tg_tup {es : List Expr} {k : Nat} {ws : List Nat} {gs : List D → Rho → Option Rho} {n : Nat} (hK : C.K = X.K) (hc : X.calm = true) (h : PGs X es (gTs C ws gs)) (hn : (assignEach es X.env).length = n := by rfl) (hst : (assignEach es X.env).findIdx? (·.1) = none := by rfl) : PG X (.Tuple es k pos) (gT C ws (tupG n gs)) :=
  PG.weak (pg_tup hc h hn hst) fun v σ H Q q => by
    obtain ⟨A, h, ρ, d, ρ', F, k, e, q⟩ := q
    unfold tupG at e
    split at e
    · split at e
      · rename_i ds hl
        obtain ⟨a, xs, rfl, h1, h2⟩ := (show RepW C h H v (.tuple ds) from .inl k).tuple F.sub
        exact ⟨a, xs, rfl, hK ▸ h1, by rw [dpAll_len h2]; exact hl, A, h, ρ, ds, ρ', F, h2, e, q⟩
      · cases e
    · cases e
def asgS (f : M D) (g : D → Rho → Option Rho) : Rho → Out := onM f fun d ρ => match g d ρ with
  | some ρ' => .nx ρ'
  | none => .bad
theorem ss_asg {tg e : Expr} {ws : List Nat} {f : M D} {g : D → Rho → Option Rho} (he : PX C E X e f) (hg : PG X tg (gT C ws g)) (hs : swapsWithSole [tg] e pos.line X.env = pure false := by rfl) (hw : swappedStores [tg] e X.env = pure none := by rfl)
    (h1 : (assignEach [tg] X.env).map (·.2) = [assign tg X.env] := by rfl) : SS C E X (.Assign [tg] e pos) (asgS f g) := PS.weak (ps_asg he hg hs hw h1) fun D σ H q => by
  obtain ⟨A, h, ρ, F, m⟩ := q
  refine tX_eq.mpr ⟨A, h, ρ, F, wpM_imp (wpS_on m) fun d ρ1 m1 v h1 H1 F1 s1 k => ?_⟩
  cases e : g d ρ1 with
  | none => rw [e] at m1; exact m1.elim
  | some ρ2 =>
    rw [e] at m1
    exact ⟨A, h1, ρ1, d, ρ2, F1, k, e, fun σ2 _ F2 => (show ∀ σ' h' H', Fr C A h' ρ2 σ' H' → Same h h' → D.nx σ' H' from m1) σ2 h1 H1 F2 s1⟩
/-! ### if, while -/
def ifS (c : M Bool) (f g : Rho → Out) : Rho → Out := onM c fun b ρ => if b = true then f ρ else g ρ
theorem ss_if {c : Expr} {a b : List Stmt} {fc : M Bool} {f g : Rho → Out} (hc : PB C E X c fc) (ha : SSs C E X a f) (hb : SSs C E X b g) : SS C E X (.If c a b pos) (ifS fc f g) := PS.weak (ps_if hc ha hb) fun D σ H q => by
  obtain ⟨A, h, ρ, F, m⟩ := q
  refine tT_eq.mpr ⟨A, h, ρ, F, wpM_imp (wpS_on m) fun c ρ1 m1 h1 H1 F1 s1 => ?_⟩
  cases c with
  | true => exact ⟨A, h1, ρ1, F1, wpS_h s1 m1⟩
  | false => exact ⟨A, h1, ρ1, F1, wpS_h s1 m1⟩
def loopS (next : Rho → Out) : Out → Out
  | .nx ρ => next ρ
  | .ct ρ => next ρ
  | .brk ρ => .nx ρ
  | o => o
def whileS (c : M Bool) (body : Rho → Out) : Nat → Rho → Out
  | 0 => fun _ => .bad
  | n + 1 => onM c fun b ρ => if b = true then loopS (whileS c body n) (body ρ) else .nx ρ
theorem ss_while {c : Expr} {body : List Stmt} {fc : M Bool} {f : Rho → Out} (n : Nat) (hp : PassesOwn (model X.prog X.w) X.A X.env X.xe) (hc : PB C E X c fc) (hb : SSs C E X body f) : SS C E X (.While c body [] pos) (whileS fc f n) := PS.weak (ps_while hp hc hb) fun D σ H q => by
  obtain ⟨A, h, ρ, F, m⟩ := q
  refine ⟨fun m σ H => ∃ h1 ρ1, Fr C A h1 ρ1 σ H ∧ Same h h1 ∧ wpS C E A h D (whileS fc f m ρ1), ⟨n, h, ρ, F, fun _ _ e => e, m⟩, ?_⟩
  rintro k σ1 H1 ⟨h1, ρ1, F1, s1, m1⟩
  cases k with
  | zero => exact m1.elim
  | succ k =>
    refine tT_eq.mpr ⟨A, h1, ρ1, F1, wpM_h s1 (wpS_on m1) fun b ρ2 m2 h2 H2 F2 s2 => ?_⟩
    cases b with
    | false => exact (show ∀ σ' h' H', Fr C A h' ρ2 σ' H' → Same h h' → D.nx σ' H' from m2) σ1 h2 H2 F2 (Same.tr s1 s2)
    | true =>
      rw [if_pos rfl]
      rw [if_pos rfl] at m2
      refine ⟨fun σ' H' => ∃ h1 ρ1, Fr C A h1 ρ1 σ' H' ∧ Same h h1 ∧ wpS C E A h D (whileS fc f k ρ1), fun σ' H' x => ⟨k, Nat.lt_succ_self k, x⟩, A, h2, ρ2, F2, ?_⟩
      have s12 := Same.tr s1 s2
      cases e : f ρ2 with
      | nx ρ3 => rw [e] at m2; exact fun σ3 h3 H3 F3 s3 => ⟨h3, ρ3, F3, Same.tr s12 s3, m2⟩
      | ct ρ3 => rw [e] at m2; exact fun σ3 h3 H3 F3 s3 => ⟨h3, ρ3, F3, Same.tr s12 s3, m2⟩
      | brk ρ3 => rw [e] at m2; exact fun σ3 h3 H3 F3 s3 => (show ∀ σ' h' H', Fr C A h' ρ3 σ' H' → Same h h' → D.nx σ' H' from m2) σ3 h3 H3 F3 (Same.tr s12 s3)
      | ret t ρ3 => rw [e] at m2; exact wpS_h s12 (o := .ret t ρ3) m2
      | ex x ρ3 => rw [e] at m2; exact Thrown.mono m2 s12
      | bad => rw [e] at m2; exact m2
/-! ### for -/
def ItOk (C : Cfg) (hI : Hp) (J : It) (ds : List D) : Prop := ∀ i h H, Same hI h → Same h H → (∀ d, ds[i]? = some d → J.go i H ∧ ∀ x H2, J.yld i H x H2 → ∃ h2, Ext h H h2 H2 ∧ Dp C.K h2 x d) ∧ (ds.length ≤ i → J.stop i H)
def tI (C : Cfg) (E : WX) (f : M (List D)) : TI := fun σ H R => ∃ A h ρ, Fr C A h ρ σ H ∧ wpM C E A h (fun ds ρ' => ∀ J h' H', Fr C A h' ρ' σ H' → Same h h' → ItOk C h' J ds → R J H') (f ρ)
abbrev PIx (C : Cfg) (E : WX) (X : Cx) (tg iter : Expr) (f : M (List D)) : Prop := PI X tg iter (tI C E f)
theorem PI.weak {tg iter : Expr} {t u : TI} (h : PI X tg iter t) (k : ∀ σ H R, u σ H R → t σ H R) : PI X tg iter u := ⟨fun pins s σ H R I q => h.run pins s σ H R I (k σ H R q)⟩
theorem PI.or {tg iter : Expr} {t u : TI} (h : PI X tg iter t) (k : PI X tg iter u) : PI X tg iter (fun σ H R => t σ H R ∨ u σ H R) := ⟨fun pins s σ H R I q => q.elim (h.run pins s σ H R I) (k.run pins s σ H R I)⟩
def forS (g : D → Rho → Option Rho) (body : Rho → Out) : List D → Rho → Out
  | [], ρ => .nx ρ
  | d :: r, ρ => match g d ρ with
    | some ρ1 => loopS (forS g body r) (body ρ1)
    | none => .bad
def forM (f : M (List D)) (g : D → Rho → Option Rho) (body : Rho → Out) : Rho → Out := onM f fun ds => forS g body ds
theorem ss_for {tg iter : Expr} {body : List Stmt} {ws : List Nat} {f : M (List D)} {g : D → Rho → Option Rho} {fb : Rho → Out} (hp : PassesOwn (model X.prog X.w) X.A X.env X.xe) (hc : X.calm = true) (hi : PIx C E X tg iter f) (hg : PG X tg (gT C ws g)) (hb : SSs C E X body fb) (hs : ∀ x, foldedSetIterable iter X.env x = pure x := by intro _; rfl) :
    SS C E X (.For tg iter body [] pos) (forM f g fb) := PS.weak (ps_for hp hc hi hg hb hs) fun D σ H q => by
  obtain ⟨A, h, ρ, F, m⟩ := q
  refine ⟨A, h, ρ, F, wpM_imp (wpS_on m) fun ds ρ1 m1 J h1 H1 F1 s1 hJ => ?_⟩
  refine ⟨fun i n σ' H' => n = ds.length - i ∧ ∃ h2 ρ2, Fr C A h2 ρ2 σ' H' ∧ Same h1 h2 ∧ wpS C E A h D (forS g fb (ds.drop i) ρ2), ⟨ds.length, rfl, h1, ρ1, F1, fun _ _ e => e, m1⟩, ?_⟩
  rintro i n σ2 H2 ⟨rfl, h2, ρ2, F2, s2, m2⟩
  obtain ⟨j1, j2⟩ := hJ i h2 H2 s2 F2.sub
  have s12 := Same.tr s1 s2
  by_cases hlt : i < ds.length
  · have e1 : ds[i]? = some ds[i] := List.getElem?_eq_getElem hlt
    obtain ⟨jg, jy⟩ := j1 _ e1
    have ed : ds.drop i = ds[i] :: ds.drop (i + 1) := List.drop_eq_getElem_cons hlt
    refine .inr ⟨jg, fun σ' H' => ∃ h3 ρ3, Fr C A h3 ρ3 σ' H' ∧ Same h1 h3 ∧ wpS C E A h D (forS g fb (ds.drop (i + 1)) ρ3), fun σ' H' x => ⟨ds.length - (i + 1), by omega, rfl, x⟩, fun x H3 hy => ?_⟩
    obtain ⟨h3, e3, d3⟩ := jy x H3 hy
    rw [ed] at m2
    have m2 : wpS C E A h D (match g ds[i] ρ2 with
      | some ρ1 => loopS (forS g fb (ds.drop (i + 1))) (fb ρ1)
      | none => .bad) := m2
    cases eg : g ds[i] ρ2 with
    | none => rw [eg] at m2; exact m2.elim
    | some ρ3 =>
      rw [eg] at m2
      have m2 : wpS C E A h D (loopS (forS g fb (ds.drop (i + 1))) (fb ρ3)) := m2
      refine ⟨A, h3, ρ2, ds[i], ρ3, F2.extend e3, d3, eg, fun σ3 _ F3 => ⟨A, h3, ρ3, F3, ?_⟩⟩
      have s13 := Same.tr s12 e3.hh
      have s23 := Same.tr s2 e3.hh
      cases e : fb ρ3 with
      | nx ρ4 => rw [e] at m2; exact fun σ4 h4 H4 F4 s4 => ⟨h4, ρ4, F4, Same.tr s23 s4, m2⟩
      | ct ρ4 => rw [e] at m2; exact fun σ4 h4 H4 F4 s4 => ⟨h4, ρ4, F4, Same.tr s23 s4, m2⟩
      | brk ρ4 => rw [e] at m2; exact fun σ4 h4 H4 F4 s4 => (show ∀ σ' h' H', Fr C A h' ρ4 σ' H' → Same h h' → D.nx σ' H' from m2) σ4 h4 H4 F4 (Same.tr s13 s4)
      | ret t ρ4 => rw [e] at m2; exact wpS_h s13 (o := .ret t ρ4) m2
      | ex x ρ4 => rw [e] at m2; exact Thrown.mono m2 s13
      | bad => rw [e] at m2; exact m2
  · refine .inl ⟨j2 (by omega), ?_⟩
    rw [List.drop_eq_nil_of_le (by omega)] at m2
    exact (show ∀ σ' h' H', Fr C A h' ρ2 σ' H' → Same h h' → D.nx σ' H' from m2) σ2 h2 H2 F2 s12
/-! what is walked -/
theorem it_list {K : PySem.W.Frag} {hI : Hp} {a : Addr} {xs : List V} {ds : List D} (hK : C.K = K) (hs : SqL K hI a xs) (hd : DpAll K hI xs ds) : ItOk C hI (Itl K a) ds := by
  subst hK
  intro i h H s1 s2
  have hq := (Same.tr s1 s2 : Same hI H).seq hs
  have l := dpAll_len hd
  refine ⟨fun d e => ?_, fun hl => ⟨xs, hq, by omega⟩⟩
  obtain ⟨x, e1, e2⟩ := dpAll_get hd e
  refine ⟨⟨xs, x, hq, e1⟩, fun y H2 ⟨e3, e4⟩ => ?_⟩
  subst e3
  have e5 := e4 xs hq
  rw [e1] at e5
  cases e5
  exact ⟨h, Ext.refl s2, dp_same s1 d _ e2⟩
theorem it_tup {K : PySem.W.Frag} {hI : Hp} {a : Addr} {xs : List V} {ds : List D} (hK : C.K = K) (hs : SqT K hI a xs) (hd : DpAll K hI xs ds) : ItOk C hI (Itt K a) ds := by
  subst hK
  intro i h H s1 s2
  have hq := sqT_same (Same.tr s1 s2 : Same hI H) hs
  have l := dpAll_len hd
  refine ⟨fun d e => ?_, fun hl => ⟨xs, hq, by omega⟩⟩
  obtain ⟨x, e1, e2⟩ := dpAll_get hd e
  refine ⟨⟨xs, x, hq, e1⟩, fun y H2 ⟨e3, e4⟩ => ?_⟩
  subst e3
  have e5 := e4 xs hq
  rw [e1] at e5
  cases e5
  exact ⟨h, Ext.refl s2, dp_same s1 d _ e2⟩
def intsD (lo : Int) (n : Nat) : List D := (List.range n).map fun (k : Nat) => .int (lo + k)
theorem it_rng {hI : Hp} {lo : Int} {n : Nat} : ItOk C hI (Itr lo n) (intsD lo n) := by
  intro i h H s1 s2
  have l : (intsD lo n).length = n := by unfold intsD; rw [List.length_map, List.length_range]
  refine ⟨fun d e => ?_, fun hl => show n ≤ i by omega⟩
  have hi : i < n := by rw [← l]; exact (List.getElem?_eq_some_iff.mp e).1
  refine ⟨hi, fun y H2 ⟨e3, e4⟩ => ?_⟩
  subst e3 e4
  have : d = .int (lo + i) := by
    unfold intsD at e
    rw [List.getElem?_map, List.getElem?_range hi] at e
    exact (Option.some.inj e).symm
  subst this
  exact ⟨h, Ext.refl s2, .int _⟩
def signs (x : Str) : List D := x.cps.toList.map fun c => .str ⟨#[c]⟩
theorem it_str {hI : Hp} {x : Str} : ItOk C hI (Its x) (signs x) := by
  intro i h H s1 s2
  have l : (signs x).length = x.cps.size := by unfold signs; rw [List.length_map, Array.length_toList]
  refine ⟨fun d e => ?_, fun hl => show x.cps.size ≤ i by omega⟩
  have hi : i < x.cps.size := by rw [← l]; exact (List.getElem?_eq_some_iff.mp e).1
  refine ⟨hi, fun y H2 ⟨e3, c, e4, e5⟩ => ?_⟩
  subst e3 e5
  have : d = .str ⟨#[c]⟩ := by
    unfold signs at e
    rw [List.getElem?_map, Array.getElem?_toList, e4] at e
    exact (Option.some.inj e).symm
  subst this
  exact ⟨h, Ext.refl s2, .str _⟩
def itD : D → Option (List D)
  | .list ds => some ds
  | .tuple ds => some ds
  | .str x => some (signs x)
  | _ => none
def itX (f : M D) : M (List D) := bindM f fun d => liftM (itD d)
theorem pix {tg e : Expr} {f : M D} (hK : C.K = X.K) (he : PX C E X e f) : PIx C E X tg e (itX f) := PI.weak (PI.or (pi_list he) (PI.or (pi_tup he) (pi_str he))) fun σ H R q => by
  obtain ⟨A, h, ρ, F, m⟩ := q
  have m := wpM_bind m
  cases e1 : f ρ with
  | bad => rw [e1] at m; exact m.elim
  | ex x ρ1 =>
    rw [e1] at m
    refine .inl (tX_eq.mpr ⟨A, h, ρ, F, ?_⟩)
    rw [e1]
    exact m
  | ok d ρ1 =>
    rw [e1] at m
    obtain ⟨ds, e2, m⟩ := wpM_lift (show wpM C E A h _ (liftM (itD d) ρ1) from m)
    unfold itD at e2
    split at e2
    · cases e2
      refine .inl (tX_eq.mpr ⟨A, h, ρ, F, ?_⟩)
      rw [e1]
      intro v h1 H1 F1 s1 q1
      cases q1 with
      | lst hs ha => exact ⟨_, rfl, ⟨_, hK ▸ F1.sub.seq hs⟩, m _ h1 H1 F1 s1 (it_list hK (hK ▸ hs) (hK ▸ ha))⟩
    · cases e2
      refine .inr (.inl (tX_eq.mpr ⟨A, h, ρ, F, ?_⟩))
      rw [e1]
      intro v h1 H1 F1 s1 q1
      cases q1 with
      | tup hs ha => exact ⟨_, rfl, ⟨_, hK ▸ sqT_same F1.sub hs⟩, m _ h1 H1 F1 s1 (it_tup hK (hK ▸ hs) (hK ▸ ha))⟩
    · cases e2
      refine .inr (.inr (tX_eq.mpr ⟨A, h, ρ, F, ?_⟩))
      rw [e1]
      intro v h1 H1 F1 s1 q1
      cases q1
      exact ⟨_, rfl, m _ h1 H1 F1 s1 it_str⟩
    · cases e2
def small62 (j : Int) : Bool := decide (-(2 ^ 62) ≤ j) && decide (j < 2 ^ 62)
theorem small62_ok {j : Int} (h : small62 j = true) : -(2 ^ 62) ≤ j ∧ j < 2 ^ 62 := by
  unfold small62 at h
  simpa using h
def rng1D : List D → Option (List D)
  | [.int j] => if small62 j = true then some (intsD 0 j.toNat) else none
  | _ => none
def rng2D : List D → Option (List D)
  | [.int i, .int j] => if (small62 i && small62 j) = true then some (intsD i (j - i).toNat) else none
  | _ => none
def rngX (g : List D → Option (List D)) (f : M (List D)) : M (List D) := bindM f fun ds => liftM (g ds)
theorem dpAll_one {K : PySem.W.Frag} {h : Hp} {xs : List V} {i : Int} (q : DpAll K h xs [.int i]) : xs = [.int i] := by
  cases q with
  | cons a b => cases a; cases b; rfl
theorem dpAll_two {K : PySem.W.Frag} {h : Hp} {xs : List V} {i j : Int} (q : DpAll K h xs [.int i, .int j]) : xs = [.int i, .int j] := by
  cases q with
  | cons a b => cases a; rw [dpAll_one b]
theorem pix_rng1 {tg a : Expr} {f : M (List D)} {p : Pos} (hg : Gl X "range") (hm : X.mg "range" = none) (ha : PAX C E X [a] f) (hs : starEach [a] X.env = [(false, eval a X.env)] := by rfl) : PIx C E X tg (.Call (.Name "range" p) [a] [] pos) (rngX rng1D f) :=
  PI.weak (pi_range1 hg hm ha hs) fun σ H R q => by
    obtain ⟨A, h, ρ, F, m⟩ := q
    refine ⟨A, h, ρ, F, wpM_imp (wpM_bind m) fun ds ρ1 m1 xs h1 H1 F1 s1 q1 => ?_⟩
    obtain ⟨es, e, m1⟩ := wpM_lift m1
    unfold rng1D at e
    split at e
    · split at e
      · rename_i j hj
        cases e
        obtain ⟨k1, k2⟩ := small62_ok hj
        exact ⟨j, dpAll_one q1, k1, k2, m1 _ h1 H1 F1 s1 it_rng⟩
      · cases e
    · cases e
theorem pix_rng2 {tg a b : Expr} {f : M (List D)} {p : Pos} (hg : Gl X "range") (hm : X.mg "range" = none) (ha : PAX C E X [a, b] f) (hs : starEach [a, b] X.env = [(false, eval a X.env), (false, eval b X.env)] := by rfl) (hs2 : starEach [b] X.env = [(false, eval b X.env)] := by rfl) :
    PIx C E X tg (.Call (.Name "range" p) [a, b] [] pos) (rngX rng2D f) :=
  PI.weak (pi_range2 hg hm ha hs hs2) fun σ H R q => by
    obtain ⟨A, h, ρ, F, m⟩ := q
    refine ⟨A, h, ρ, F, wpM_imp (wpM_bind m) fun ds ρ1 m1 xs h1 H1 F1 s1 q1 => ?_⟩
    obtain ⟨es, e, m1⟩ := wpM_lift m1
    unfold rng2D at e
    split at e
    · split at e
      · rename_i i j hj
        cases e
        rw [Bool.and_eq_true] at hj
        obtain ⟨k1, k2⟩ := small62_ok hj.1
        obtain ⟨k3, k4⟩ := small62_ok hj.2
        exact ⟨i, j, dpAll_two q1, ⟨k1, k2, k3, k4⟩, m1 _ h1 H1 F1 s1 it_rng⟩
      · cases e
    · cases e
/-- enumerate(a list), the target a written tuple -/
def pairs0 (ds : List D) : List D := (List.range ds.length).zipWith (fun (i : Nat) d => .tuple [.int (i : Nat), d]) ds
theorem pairs0_get {ds : List D} {i : Nat} : (pairs0 ds)[i]? = ds[i]?.map fun d => .tuple [.int (i : Nat), d] := by
  unfold pairs0
  rw [List.getElem?_zipWith]
  by_cases hi : i < ds.length
  · rw [List.getElem?_range hi, List.getElem?_eq_getElem hi]
    rfl
  · rw [List.getElem?_eq_none (by rw [List.length_range]; omega), List.getElem?_eq_none (show ds.length ≤ i by omega)]
    try rfl
theorem pairs0_len (ds : List D) : (pairs0 ds).length = ds.length := by unfold pairs0; simp
theorem it_enum {K : PySem.W.Frag} {hI : Hp} {a : Addr} {xs : List V} {ds : List D} (hK : C.K = K) (hs : SqL K hI a xs) (hd : DpAll K hI xs ds) : ItOk C hI (Ite K a) (pairs0 ds) := by
  subst hK
  intro i h H s1 s2
  have hq := (Same.tr s1 s2 : Same hI H).seq hs
  have l := dpAll_len hd
  refine ⟨fun d e => ?_, fun hl => ⟨xs, hq, by rw [pairs0_len] at hl; omega⟩⟩
  rw [pairs0_get] at e
  cases e0 : ds[i]? with
  | none => rw [e0] at e; cases e
  | some d0 =>
    rw [e0] at e
    cases e
    obtain ⟨x, e1, e2⟩ := dpAll_get hd e0
    refine ⟨⟨xs, x, hq, e1⟩, fun y H2 ⟨T, z, ey, nT, e3, e4⟩ => ?_⟩
    subst e3 ey
    have e5 := e4 xs hq
    rw [e1] at e5
    cases e5
    have sm := same_upd (none_of s2 nT) (.tup [.int (i : Nat), x])
    exact ⟨_, Ext.lay s2 nT _, .tup (SqT.of upd_same) (.cons (.int _) (.cons (dp_same (Same.tr s1 sm) d0 _ e2) .nil))⟩
def enumD : List D → Option (List D)
  | [.list ds] => some (pairs0 ds)
  | _ => none
theorem pix_enum {e : Expr} {f : M (List D)} {p tpos : Pos} {elts : List Expr} {kk : Nat} (hK : C.K = X.K) (hg : Gl X "enumerate") (hm : X.mg "enumerate" = none) (ha : PAX C E X [e] f) (hs : starEach [e] X.env = [(false, eval e X.env)] := by rfl) : PIx C E X (.Tuple elts kk tpos) (.Call (.Name "enumerate" p) [e] [] pos) (rngX enumD f) :=
  PI.weak (pi_enum hg hm ha hs) fun σ H R q => by
    obtain ⟨A, h, ρ, F, m⟩ := q
    refine ⟨A, h, ρ, F, wpM_imp (wpM_bind m) fun ds ρ1 m1 xs h1 H1 F1 s1 q1 => ?_⟩
    obtain ⟨es, e, m1⟩ := wpM_lift m1
    unfold enumD at e
    split at e
    · cases e
      cases q1 with
      | cons a b =>
        cases b
        cases a with
        | lst hs ha => exact ⟨_, _, rfl, hK ▸ F1.sub.seq hs, m1 _ h1 H1 F1 s1 (it_enum hK (hK ▸ hs) (hK ▸ ha))⟩
    · cases e
end
end EV

/-! # EV 6: defs and their calls -/
namespace EV
open PySem PySem.Spec PyProof.Rows L2 Ver
inductive Res where
  | val (t : Tm) (as : List Sl)
  | ex (e : Exc) (as : List Sl)
  | bad
def ArgsOk (C : Cfg) (h H : Hp) : List Sl → List V → Prop
  | [], [] => True
  | .d x :: as, v :: vs => Dp C.K h v x ∧ ArgsOk C h H as vs
  | .l _ ds :: as, v :: vs => (∃ a xs, v = .ref a ∧ H a = some (.lst xs) ∧ h a = none ∧ DpAll C.K h xs ds) ∧ ArgsOk C h H as vs
  | _, _ => False
/-- the lists that are handed in -/
def owns : List Sl → List V → List Addr
  | .l _ _ :: as, .ref a :: vs => a :: owns as vs
  | _ :: as, _ :: vs => owns as vs
  | _, _ => []
/-- what a call leaves -/
structure PostF (C : Cfg) (h H h' H' : Hp) (S : List Addr) : Prop where
  hh : Same h h'
  sub : Same h' H'
  new : ∀ a, h a = none → H a ≠ none → h' a = none
  keep : ∀ a o, H a = some o → a ∉ S → a ∉ C.Ts → H' a = some o
  al : ∀ a, H a ≠ none → H' a ≠ none
  tabs : ∀ P ∈ C.Ts, GxR.TabG H' P ∧ h' P = none
def TmF (C : Cfg) (H h' H' : Hp) (v : V) : Tm → Prop
  | .d x => Dp C.K h' v x
  | .l ds => ∃ a xs, v = .ref a ∧ H' a = some (.lst xs) ∧ h' a = none ∧ DpAll C.K h' xs ds ∧ H a = none
def okR (C : Cfg) (h H : Hp) (S : List Addr) (vs : List V) (Q : VK) (E : XK) : Res → Prop
  | .val t as' => ∀ v h' H', PostF C h H h' H' S → ArgsOk C h' H' as' vs → TmF C H h' H' v t → Q v H'
  | .ex e as' => ∀ cls dd h' H', PostF C h H h' H' S → ArgsOk C h' H' as' vs → ExcOk C H h' H' e cls dd → E cls dd H'
  | .bad => False
/-- THE PROMISE of a def that is worth F: k its parameters -/
def spF (C : Cfg) (k : Nat) (F : List Sl → Res) : Sp := fun vs H Q E => ∃ h as, as.length = k ∧ Same h H ∧ ArgsOk C h H as vs ∧ (owns as vs).Nodup ∧ (∀ P ∈ C.Ts, GxR.TabG H P ∧ h P = none) ∧ okR C h H (owns as vs) vs Q E (F as)
theorem ArgsOk.len {C : Cfg} {h H : Hp} : ∀ {as : List Sl} {vs : List V}, ArgsOk C h H as vs → vs.length = as.length
  | [], [], _ => rfl
  | .d _ :: _, _ :: _, ⟨_, t⟩ => congrArg Nat.succ t.len
  | .l _ _ :: _, _ :: _, ⟨_, t⟩ => congrArg Nat.succ t.len
theorem spF_len {C : Cfg} {k : Nat} {F : List Sl → Res} {vs : List V} {H : Hp} {Q : VK} {E : XK} (q : spF C k F vs H Q E) : vs.length = k := by
  obtain ⟨h, as, hl, _, ha, _⟩ := q
  rw [ha.len, hl]
def pinS : Sl → Sl
  | .d x => .d x
  | .l _ ds => .l true ds
  | .x e a d => .x e a d
/-- the arguments' lists as the def leaves them -/
def backs : Nat → List Sl → Rho → Option (List Sl)
  | _, [], _ => some []
  | i, .d x :: as, ρ => (backs (i + 1) as ρ).map (.d x :: ·)
  | i, .l p _ :: as, ρ => match ρ[i]? with
    | some (some (.l true ds)) => (backs (i + 1) as ρ).map (.l p ds :: ·)
    | _ => none
  | _, .x _ _ _ :: _, _ => none
def rho0 (n : Nat) (as : List Sl) : Rho := as.map (fun s => some (pinS s)) ++ List.replicate (n - as.length) none
def finR (f : List Sl → Res) : Option (List Sl) → Res
  | some as' => f as'
  | none => .bad
def endR (as : List Sl) : Out → Res
  | .ret t ρ => finR (.val t) (backs 0 as ρ)
  | .nx ρ => finR (.val (.d .none)) (backs 0 as ρ)
  | .ex e ρ => finR (.ex e) (backs 0 as ρ)
  | _ => .bad
def runF (n : Nat) (body : Rho → Out) (as : List Sl) : Res := endR as (body (rho0 n as))
section
variable {C : Cfg}
theorem argsOk_get {h H : Hp} : ∀ {as : List Sl} {vs : List V} {i : Nat} {s : Sl}, ArgsOk C h H as vs → as[i]? = some s → ∃ v, vs[i]? = some v ∧ (match s with
    | .d x => Dp C.K h v x
    | .l _ ds => ∃ a xs, v = .ref a ∧ H a = some (.lst xs) ∧ h a = none ∧ DpAll C.K h xs ds ∧ a ∈ owns as vs
    | .x _ _ _ => False)
  | [], [], _, _, _, e => by simp at e
  | .d x :: as, v :: vs, 0, s, ⟨a, _⟩, e => by cases e; exact ⟨v, rfl, a⟩
  | .l p ds :: as, v :: vs, 0, s, ⟨⟨a, xs, e1, e2, e3, e4⟩, _⟩, e => by
    cases e
    subst e1
    exact ⟨_, rfl, a, xs, rfl, e2, e3, e4, List.mem_cons_self⟩
  | .d x :: as, v :: vs, i + 1, s, ⟨_, t⟩, e => by
    obtain ⟨u, h1, h2⟩ := argsOk_get (i := i) t (by simpa using e)
    refine ⟨u, by simpa using h1, ?_⟩
    cases s with
    | d x => exact h2
    | x _ _ _ => exact h2
    | l p ds => exact h2
  | .l p ds :: as, v :: vs, i + 1, s, ⟨⟨a, xs, e1, _⟩, t⟩, e => by
    obtain ⟨u, h1, h2⟩ := argsOk_get (i := i) t (by simpa using e)
    subst e1
    refine ⟨u, by simpa using h1, ?_⟩
    cases s with
    | d x => exact h2
    | x _ _ _ => exact h2
    | l p ds =>
      obtain ⟨b, ys, k1, k2, k3, k4, k5⟩ := h2
      exact ⟨b, ys, k1, k2, k3, k4, List.mem_cons_of_mem _ k5⟩
theorem owns_at {h H : Hp} : ∀ {as : List Sl} {vs : List V} {a : Addr}, ArgsOk C h H as vs → a ∈ owns as vs → ∃ (i : Nat) (p : Bool) (ds : List D), as[i]? = some (Sl.l p ds) ∧ vs[i]? = some (V.ref a) ∧ H a ≠ none
  | [], [], _, _, e => by cases e
  | .d x :: as, v :: vs, a, ⟨_, t⟩, e => by
    have e : a ∈ owns as vs := by cases v <;> exact e
    obtain ⟨i, p, ds, h1, h2, h3⟩ := owns_at t e
    exact ⟨i + 1, p, ds, by simpa using h1, by simpa using h2, h3⟩
  | .l p ds :: as, v :: vs, a, ⟨⟨b, xs, e1, e2, _⟩, t⟩, e => by
    subst e1
    rcases List.mem_cons.mp (show a ∈ b :: owns as vs from e) with z | z
    · subst z
      exact ⟨0, p, ds, rfl, rfl, ne_some e2⟩
    · obtain ⟨i, p, ds, h1, h2, h3⟩ := owns_at t z
      exact ⟨i + 1, p, ds, by simpa using h1, by simpa using h2, h3⟩
theorem owns_inj {h H : Hp} : ∀ {as : List Sl} {vs : List V} {a : Addr} {i j : Nat} {p q : Bool} {ds es : List D}, ArgsOk C h H as vs → (owns as vs).Nodup → as[i]? = some (.l p ds) → as[j]? = some (.l q es) → vs[i]? = some (.ref a) → vs[j]? = some (.ref a) → i = j
  | [], [], _, _, _, _, _, _, _, _, _, e, _, _, _ => by simp at e
  | .d x :: as, v :: vs, a, i, j, p, q, ds, es, ⟨_, t⟩, nd, e1, e2, e3, e4 => by
    have nd : (owns as vs).Nodup := by cases v <;> exact nd
    cases i with
    | zero => cases e1
    | succ i =>
      cases j with
      | zero => cases e2
      | succ j => exact congrArg Nat.succ (owns_inj t nd (by simpa using e1) (by simpa using e2) (by simpa using e3) (by simpa using e4))
  | .l p0 ds0 :: as, v :: vs, a, i, j, p, q, ds, es, ⟨⟨b, xs, k1, k2, _⟩, t⟩, nd, e1, e2, e3, e4 => by
    subst k1
    have nd : (b :: owns as vs).Nodup := nd
    rw [List.nodup_cons] at nd
    have notin : ∀ {k : Nat} {p : Bool} {ds : List D}, as[k]? = some (.l p ds) → vs[k]? = some (.ref b) → False := fun {k p ds} f1 f2 => by
      obtain ⟨v, g1, c, ys, g2, _, _, _, g3⟩ := argsOk_get t f1
      rw [f2] at g1
      cases g1
      cases g2
      exact nd.1 g3
    cases i with
    | zero =>
      cases j with
      | zero => rfl
      | succ j =>
        cases e3
        exact (notin (by simpa using e2) (by simpa using e4)).elim
    | succ i =>
      cases j with
      | zero =>
        cases e4
        exact (notin (by simpa using e1) (by simpa using e3)).elim
      | succ j => exact congrArg Nat.succ (owns_inj t nd.2 (by simpa using e1) (by simpa using e2) (by simpa using e3) (by simpa using e4))
/-- a def's frame at its entry -/
theorem Fr.entry {h H : Hp} {as : List Sl} {vs : List V} {N : List Str} (s : Same h H) (ha : ArgsOk C h H as vs) (nd : (owns as vs).Nodup) (ht : ∀ P ∈ C.Ts, GxR.TabG H P ∧ h P = none) (hN : as.length ≤ N.length) :
    Fr C ⟨fun i => vs[i]?, h, H, owns as vs, []⟩ h (rho0 N.length as) (L2.start N vs) H := by
  have hl := ha.len
  have at_ : ∀ {i : Nat} {s : Sl}, (rho0 N.length as)[i]? = some (some s) → ∃ s0 v, as[i]? = some s0 ∧ s = pinS s0 ∧ vs[i]? = some v ∧ (L2.start N vs)[i]? = some (some v) := fun {i s} e => by
    unfold rho0 at e
    by_cases hi : i < as.length
    · rw [List.getElem?_append_left (by rw [List.length_map]; exact hi), List.getElem?_map, List.getElem?_eq_getElem hi] at e
      have hv : i < vs.length := by omega
      refine ⟨as[i], vs[i], List.getElem?_eq_getElem hi, (Option.some.inj (Option.some.inj e)).symm, List.getElem?_eq_getElem hv, ?_⟩
      unfold L2.start
      rw [List.getElem?_append_left (by rw [List.length_map]; exact hv), List.getElem?_map, List.getElem?_eq_getElem hv]
      rfl
    · rw [List.getElem?_append_right (by rw [List.length_map]; omega), List.getElem?_replicate] at e
      split at e <;> cases e
  refine ⟨s, fun _ _ e => e, fun _ e _ => e, fun _ _ e _ _ => e, fun _ e => e, ?_, ht, fun i sl e => ?_, fun i j a q1 q2 => ?_, fun p hp => by cases hp⟩
  · unfold L2.start rho0
    rw [List.length_append, List.length_append, List.length_map, List.length_map, List.length_replicate, List.length_replicate, hl]
  · obtain ⟨s0, v, e1, rfl, e2, e3⟩ := at_ e
    obtain ⟨w, k1, k2⟩ := argsOk_get ha e1
    rw [e2] at k1
    cases k1
    refine ⟨v, e3, ?_⟩
    cases s0 with
    | d x => exact k2
    | x _ _ _ => exact k2.elim
    | l p ds =>
      obtain ⟨a, xs, rfl, m1, m2, m3, m4⟩ := k2
      exact ⟨a, xs, rfl, m1, m2, m3, fun _ => ⟨e2, m4⟩, fun z => nomatch z⟩
  · obtain ⟨⟨p, ds, e1⟩, r1⟩ := q1
    obtain ⟨⟨q, es, e2⟩, r2⟩ := q2
    obtain ⟨s1, v1, f1, f2, f3, f4⟩ := at_ e1
    obtain ⟨s2, v2, g1, g2, g3, g4⟩ := at_ e2
    rw [r1] at f4
    cases f4
    rw [r2] at g4
    cases g4
    cases s1 with
    | d x => cases f2
    | x _ _ _ => cases f2
    | l p1 ds1 =>
      cases s2 with
      | d x => cases g2
      | x _ _ _ => cases g2
      | l p2 ds2 => exact owns_inj ha nd f1 g1 f3 g3
/-- what stands at its end, for the caller -/
theorem Fr.post {h H h' H' : Hp} {as : List Sl} {vs : List V} {ρ : Rho} {σ : L2.St} (F : Fr C ⟨fun i => vs[i]?, h, H, owns as vs, []⟩ h' ρ σ H') : PostF C h H h' H' (owns as vs) :=
  ⟨F.ext, F.sub, F.new, F.keep, F.al, F.tabs⟩
theorem backs_ok {h H h' H' : Hp} {A : Anc} {ρ : Rho} {σ : L2.St} (F : Fr C A h' ρ σ H') (sm : Same h h') : ∀ {as : List Sl} {vs : List V} {i : Nat} {as' : List Sl}, ArgsOk C h H as vs → (∀ k v, vs[k]? = some v → A.pin (i + k) = some v) → backs i as ρ = some as' → ArgsOk C h' H' as' vs
  | [], [], i, as', _, _, e => by cases e; trivial
  | .d x :: as, v :: vs, i, as', ⟨a, t⟩, hp, e => by
    have e : (backs (i + 1) as ρ).map (.d x :: ·) = some as' := e
    cases e1 : backs (i + 1) as ρ with
    | none => rw [e1] at e; cases e
    | some r =>
      rw [e1] at e
      cases e
      exact ⟨dp_same sm x v a, backs_ok F sm t (fun k w hk => by rw [show i + 1 + k = i + (k + 1) by omega]; exact hp (k + 1) w (by simpa using hk)) e1⟩
  | .l p ds :: as, v :: vs, i, as', ⟨_, t⟩, hp, e => by
    have e : (match ρ[i]? with
      | some (some (.l true ds)) => (backs (i + 1) as ρ).map (.l p ds :: ·)
      | _ => none) = some as' := e
    split at e
    · rename_i es e0
      cases e1 : backs (i + 1) as ρ with
      | none => rw [e1] at e; cases e
      | some r =>
        rw [e1] at e
        cases e
        obtain ⟨w, k1, b, ys, k2, k3, k4, k5, k6, _⟩ := F.slot i _ e0
        have k7 := (k6 rfl).1
        have k8 := hp 0 v rfl
        rw [Nat.add_zero, k7] at k8
        cases k8
        exact ⟨⟨b, ys, k2, k3, k4, k5⟩, backs_ok F sm t (fun k w hk => by rw [show i + 1 + k = i + (k + 1) by omega]; exact hp (k + 1) w (by simpa using hk)) e1⟩
    · cases e
/-- THE RULE for a def -/
theorem ev_fn {P : Program} {w : World} {mg : Str → Option Value} {base : Heap} {x qual : Str} {st : Stmt} {f : Addr} {fd : FuncData} {N ps : List Str} {k : Nat} {fb : Rho → Out} (F : Fun C.K x qual st f fd) (S : FnScope N ps (defScope st)) (hN : ps.length ≤ N.length)
    (hbody : ∀ (cdv : Value) (A : Around) (outer : List Env) (s : Shared) (H : Hp) (E : XK), Room k (A.deeper (envOfC qual (defScope st) s.heap.objs.size f cdv)) → SSs C (fun cls d _ H => E cls d H) (cxOf (L2.CX P w) P w C.K mg base N qual (defScope st) f cdv A outer s H E) (defBody st) fb) :
    FnOk P w C.K mg base (L2.CX P w) (k + 1) f fd ps (spF C ps.length (runF N.length fb)) := by
  refine F.okX S (fun vs H Q E h => spF_len h) (fun cdv A outer s H vs Q E hr q => ⟨_, hbody cdv A outer s H E hr, ?_⟩)
  obtain ⟨h, as, hl, sm, ha, nd, ht, q⟩ := q
  refine ⟨_, h, _, Fr.entry (N := N) sm ha nd ht (by omega), ?_⟩
  have pins : ∀ k v, vs[k]? = some v → (fun i => vs[i]?) (0 + k) = some v := fun k v e => by
    rw [Nat.zero_add]
    exact e
  unfold runF at q
  generalize hfb : fb (rho0 N.length as) = o at q
  have fin : ∀ {f : List Sl → Res} {ρ : Rho}, okR C h H (owns as vs) vs Q E (finR f (backs 0 as ρ)) → ∃ as', backs 0 as ρ = some as' ∧ okR C h H (owns as vs) vs Q E (f as') := fun {f ρ} q => by
    cases e1 : backs 0 as ρ with
    | none => rw [e1] at q; exact q.elim
    | some as' => rw [e1] at q; exact ⟨as', rfl, q⟩
  cases o with
  | nx ρ =>
    obtain ⟨as', e1, q⟩ := fin q
    exact fun σ' h' H' F' s' => q .non h' H' F'.post (backs_ok F' s' ha pins e1) Dp.non
  | ret t ρ =>
    obtain ⟨as', e1, q⟩ := fin q
    intro v σ' h' H' F' s' ht'
    refine q v h' H' F'.post (backs_ok F' s' ha pins e1) ?_
    cases t with
    | d x => exact ht'
    | l ds =>
      obtain ⟨a, xs, k1, k2, k3, k4, k5, _⟩ := ht'
      exact ⟨a, xs, k1, k2, k3, k4, k5⟩
  | ex x ρ =>
    obtain ⟨as', e1, q⟩ := fin q
    exact fun cls dd σ' h' H' F' s' hx => q cls dd h' H' F'.post (backs_ok F' s' ha pins e1) hx
  | brk ρ => exact q.elim
  | ct ρ => exact q.elim
  | bad => exact q.elim
end
end EV

/-! # EV 7: a call of a def -/
namespace EV
open PySem PySem.Spec PyProof.Rows L2 Ver
def argO : Option (Option Sl) → Option Sl
  | some (some (.d x)) => some (.d x)
  | some (some (.l p ds)) => some (.l p ds)
  | _ => none
theorem argO_some {o : Option (Option Sl)} {s : Sl} (h : argO o = some s) : o = some (some s) ∧ ∀ e a d, s ≠ .x e a d := by
  unfold argO at h
  split at h
  · cases h; exact ⟨rfl, fun _ _ _ z => nomatch z⟩
  · cases h; exact ⟨rfl, fun _ _ _ z => nomatch z⟩
  · cases h
def argSl (ρ : Rho) : List Ref → Option (List Sl)
  | [] => some []
  | .val d :: rs => (argSl ρ rs).map (.d d :: ·)
  | .slot i :: rs => match argO ρ[i]? with
    | some s => (argSl ρ rs).map (s :: ·)
    | none => none
def isOwn : Option (Option Sl) → Bool
  | some (some (.l _ _)) => true
  | _ => false
/-- the slots whose lists are lent -/
def lends (ρ : Rho) : List Ref → List Nat
  | [] => []
  | .val _ :: rs => lends ρ rs
  | .slot i :: rs => if isOwn ρ[i]? = true then i :: lends ρ rs else lends ρ rs
def setL (ρ : Rho) (i : Nat) (ds : List D) : Rho := match ρ[i]? with
  | some (some (.l p _)) => ρ.set i (some (.l p ds))
  | _ => ρ
def putL : List (Nat × List D) → Rho → Rho
  | [], ρ => ρ
  | (i, ds) :: L, ρ => putL L (setL ρ i ds)
def lendL : List Ref → List Sl → List Sl → Option (List (Nat × List D))
  | [], [], [] => some []
  | _ :: rs, .d _ :: as, .d _ :: as' => lendL rs as as'
  | .slot i :: rs, .l _ _ :: as, .l _ ds :: as' => (lendL rs as as').map ((i, ds) :: ·)
  | _, _, _ => none
def okC (L : Option (List (Nat × List D))) (f : Rho → R Tm) (ρ : Rho) : R Tm := match L with
  | some L => f (putL L ρ)
  | none => .bad
def endC (rs : List Ref) (as : List Sl) : Res → Rho → R Tm
  | .val t as', ρ => okC (lendL rs as as') (.ok t) ρ
  | .ex e as', ρ => okC (lendL rs as as') (.ex e) ρ
  | .bad, _ => .bad
def callM (F : List Sl → Res) (k : Nat) (rs : List Ref) : M Tm := fun ρ => match argSl ρ rs with
  | some as => if as.length = k ∧ (lends ρ rs).Nodup then endC rs as (F as) ρ else .bad
  | none => .bad
def callX (F : List Sl → Res) (k : Nat) (f : M (List Ref)) : M Tm := bindM f (callM F k)
theorem setL_len (ρ : Rho) (i : Nat) (ds : List D) : (setL ρ i ds).length = ρ.length := by
  unfold setL
  split
  · rw [List.length_set]
  · rfl
theorem putL_len : ∀ (L : List (Nat × List D)) (ρ : Rho), (putL L ρ).length = ρ.length
  | [], _ => rfl
  | (i, ds) :: L, ρ => (putL_len L _).trans (setL_len ρ i ds)
def newL (o : Option (Option Sl)) (ds : List D) : Option (Option Sl) := match o with
  | some (some (.l p _)) => some (some (.l p ds))
  | o => o
theorem setL_get {ρ : Rho} {i j : Nat} {ds : List D} : (setL ρ i ds)[j]? = if j = i then newL ρ[j]? ds else ρ[j]? := by
  unfold setL
  by_cases z : j = i
  · subst z
    rw [if_pos rfl]
    split
    · rename_i p es e
      have hi := (List.getElem?_eq_some_iff.mp e).1
      rw [List.getElem?_set_self hi, e]
      rfl
    · rename_i hn
      unfold newL
      split
      · rename_i p es e
        exact (hn p es e).elim
      · rfl
  · rw [if_neg z]
    split
    · rw [List.getElem?_set_ne (Ne.symm z)]
    · rfl
theorem putL_get : ∀ {L : List (Nat × List D)} {ρ : Rho} {j : Nat}, (L.map (·.1)).Nodup → (putL L ρ)[j]? = match L.lookup j with
    | some ds => newL ρ[j]? ds
    | none => ρ[j]?
  | [], ρ, j, _ => rfl
  | (i, ds) :: L, ρ, j, nd => by
    rw [List.map_cons, List.nodup_cons] at nd
    show (putL L (setL ρ i ds))[j]? = _
    rw [putL_get nd.2, setL_get]
    by_cases z : j = i
    · subst z
      have e : L.lookup j = none := by
        cases q : L.lookup j with
        | none => rfl
        | some es =>
          have hm : (j, es) ∈ L := by
            clear nd
            induction L with
            | nil => cases q
            | cons p r ih =>
              obtain ⟨k, fs⟩ := p
              rw [List.lookup_cons] at q
              by_cases y : j = k
              · subst y
                rw [beq_self_eq_true] at q
                cases q
                exact List.mem_cons_self
              · rw [beq_eq_false_iff_ne.mpr y] at q
                exact List.mem_cons_of_mem _ (ih q)
          exact (nd.1 (List.mem_map.mpr ⟨_, hm, rfl⟩)).elim
      rw [e, if_pos rfl, List.lookup_cons, beq_self_eq_true]
    · rw [if_neg z, List.lookup_cons, beq_eq_false_iff_ne.mpr z]
theorem lookup_mem' {α : Type} {j : Nat} {x : α} : ∀ {L : List (Nat × α)}, L.lookup j = some x → (j, x) ∈ L
  | [], q => by cases q
  | (k, y) :: r, q => by
    rw [List.lookup_cons] at q
    by_cases z : j = k
    · subst z
      rw [beq_self_eq_true] at q
      cases q
      exact List.mem_cons_self
    · rw [beq_eq_false_iff_ne.mpr z] at q
      exact List.mem_cons_of_mem _ (lookup_mem' q)
theorem mem_lookup' {α : Type} {j : Nat} : ∀ {L : List (Nat × α)}, (∃ x, (j, x) ∈ L) → ∃ x, L.lookup j = some x
  | [], ⟨_, q⟩ => by cases q
  | (k, y) :: r, ⟨x, q⟩ => by
    rw [List.lookup_cons]
    by_cases z : j = k
    · subst z
      rw [beq_self_eq_true]
      exact ⟨y, rfl⟩
    · rw [beq_eq_false_iff_ne.mpr z]
      rcases List.mem_cons.mp q with e | e
      · cases e
        exact absurd rfl z
      · exact mem_lookup' ⟨x, e⟩
section
variable {C : Cfg} {A : Anc} {h h' : Hp} {ρ : Rho} {σ : L2.St} {H H' : Hp}
theorem args_of (F : Fr C A h ρ σ H) : ∀ {rs : List Ref} {vs : List V} {as : List Sl}, refsOk C h σ vs rs → argSl ρ rs = some as → ArgsOk C h H as vs ∧ ∀ a ∈ owns as vs, ∃ i, OwnAt ρ σ i a ∧ i ∈ lends ρ rs
  | [], [], as, _, e => by
    cases e
    exact ⟨trivial, fun a ha => by cases ha⟩
  | .val d :: rs, v :: vs, as, ⟨q, t⟩, e => by
    have e : (argSl ρ rs).map (Sl.d d :: ·) = some as := e
    cases e1 : argSl ρ rs with
    | none => rw [e1] at e; cases e
    | some r =>
      rw [e1] at e
      cases e
      obtain ⟨h1, h2⟩ := args_of F t e1
      exact ⟨⟨q, h1⟩, fun a ha => h2 a (by cases v <;> exact ha)⟩
  | .slot i :: rs, v :: vs, as, ⟨q, t⟩, e => by
    have e : (match argO ρ[i]? with
      | some s => (argSl ρ rs).map (s :: ·)
      | none => none) = some as := e
    split at e
    · rename_i s es
      obtain ⟨es, nx⟩ := argO_some es
      cases e1 : argSl ρ rs with
      | none => rw [e1] at e; cases e
      | some r =>
        rw [e1] at e
        cases e
        obtain ⟨h1, h2⟩ := args_of F t e1
        obtain ⟨w, k1, k2⟩ := F.slot i s es
        rw [show σ[i]? = some (some v) from q] at k1
        cases k1
        have up : ∀ {j}, j ∈ lends ρ rs → j ∈ lends ρ (.slot i :: rs) := fun {j} hj => by
          unfold lends
          split
          · exact List.mem_cons_of_mem _ hj
          · exact hj
        cases s with
        | x e' a d => exact absurd rfl (nx e' a d)
        | d x => exact ⟨⟨k2, h1⟩, fun a ha => by
            obtain ⟨j, o1, o2⟩ := h2 a (by cases v <;> exact ha)
            exact ⟨j, o1, up o2⟩⟩
        | l p ds =>
          obtain ⟨a, xs, rfl, m1, m2, m3, _⟩ := k2
          refine ⟨⟨⟨a, xs, rfl, m1, m2, m3⟩, h1⟩, fun b hb => ?_⟩
          rcases List.mem_cons.mp (show b ∈ a :: owns r vs from hb) with z | z
          · subst z
            refine ⟨i, ⟨⟨p, ds, es⟩, q⟩, ?_⟩
            unfold lends
            rw [es]
            exact List.mem_cons_self
          · obtain ⟨j, o1, o2⟩ := h2 b z
            exact ⟨j, o1, up o2⟩
    · cases e
  | [], _ :: _, _, q, _ => q.elim
  | _ :: _, [], _, q, _ => q.elim
theorem owns_nodup (F : Fr C A h ρ σ H) : ∀ {rs : List Ref} {vs : List V} {as : List Sl}, refsOk C h σ vs rs → argSl ρ rs = some as → (lends ρ rs).Nodup → (owns as vs).Nodup
  | [], [], as, _, e, _ => by cases e; exact List.nodup_nil
  | .val d :: rs, v :: vs, as, ⟨q, t⟩, e, nd => by
    have e : (argSl ρ rs).map (Sl.d d :: ·) = some as := e
    cases e1 : argSl ρ rs with
    | none => rw [e1] at e; cases e
    | some r =>
      rw [e1] at e
      cases e
      have := owns_nodup F t e1 nd
      cases v <;> exact this
  | .slot i :: rs, v :: vs, as, ⟨q, t⟩, e, nd => by
    have e : (match argO ρ[i]? with
      | some s => (argSl ρ rs).map (s :: ·)
      | none => none) = some as := e
    split at e
    · rename_i s es
      obtain ⟨es, nx⟩ := argO_some es
      cases e1 : argSl ρ rs with
      | none => rw [e1] at e; cases e
      | some r =>
        rw [e1] at e
        cases e
        unfold lends at nd
        rw [es] at nd
        cases s with
        | x e' a d => exact absurd rfl (nx e' a d)
        | d x =>
          have := owns_nodup F t e1 nd
          cases v <;> exact this
        | l p ds =>
          have nd : (i :: lends ρ rs).Nodup := nd
          rw [List.nodup_cons] at nd
          obtain ⟨w, k1, a, xs, rfl, _⟩ := F.slot i _ es
          rw [show σ[i]? = some (some v) from q] at k1
          cases k1
          show (a :: owns r vs).Nodup
          rw [List.nodup_cons]
          refine ⟨fun z => ?_, owns_nodup F t e1 nd.2⟩
          obtain ⟨j, o1, o2⟩ := (args_of F t e1).2 a z
          rw [F.dist j i a o1 ⟨⟨p, ds, es⟩, q⟩] at o2
          exact nd.1 o2
    · cases e
  | [], _ :: _, _, q, _, _ => q.elim
  | _ :: _, [], _, q, _, _ => q.elim
theorem lend_ok (F : Fr C A h ρ σ H) : ∀ {rs : List Ref} {vs : List V} {as as' : List Sl} {L : List (Nat × List D)}, refsOk C h σ vs rs → argSl ρ rs = some as → ArgsOk C h' H' as' vs → lendL rs as as' = some L →
    L.map (·.1) = lends ρ rs ∧ (∀ p ∈ L, ∃ a xs, OwnAt ρ σ p.1 a ∧ H' a = some (.lst xs) ∧ h' a = none ∧ DpAll C.K h' xs p.2) ∧ ∀ a ∈ owns as vs, ∃ p ∈ L, OwnAt ρ σ p.1 a
  | [], [], as, as', L, _, e, _, eL => by
    cases e
    cases as' with
    | nil => cases eL; exact ⟨rfl, fun p hp => (by cases hp), fun a ha => by cases ha⟩
    | cons _ _ => cases eL
  | .val d :: rs, v :: vs, as, as', L, ⟨q, t⟩, e, ha, eL => by
    have e : (argSl ρ rs).map (Sl.d d :: ·) = some as := e
    cases e1 : argSl ρ rs with
    | none => rw [e1] at e; cases e
    | some r =>
      rw [e1] at e
      cases e
      cases as' with
      | nil => cases eL
      | cons s' r' =>
        cases s' with
        | x _ _ _ => cases eL
        | l _ _ => cases eL
        | d y =>
          obtain ⟨h1, h2, h3⟩ := lend_ok F t e1 ha.2 (show lendL rs r r' = some L from eL)
          exact ⟨h1, h2, fun a hb => h3 a (by cases v <;> exact hb)⟩
  | .slot i :: rs, v :: vs, as, as', L, ⟨q, t⟩, e, ha, eL => by
    have e : (match argO ρ[i]? with
      | some s => (argSl ρ rs).map (s :: ·)
      | none => none) = some as := e
    split at e
    · rename_i s es
      obtain ⟨es, nx⟩ := argO_some es
      cases e1 : argSl ρ rs with
      | none => rw [e1] at e; cases e
      | some r =>
        rw [e1] at e
        cases e
        cases s with
        | x e' a d => exact absurd rfl (nx e' a d)
        | d x =>
          cases as' with
          | nil => cases eL
          | cons s' r' =>
            cases s' with
            | x _ _ _ => cases eL
            | l _ _ => cases eL
            | d y =>
              obtain ⟨h1, h2, h3⟩ := lend_ok F t e1 ha.2 (show lendL rs r r' = some L from eL)
              refine ⟨?_, h2, fun a hb => h3 a (by cases v <;> exact hb)⟩
              unfold lends
              rw [es]
              exact h1
        | l p ds =>
          cases as' with
          | nil => cases eL
          | cons s' r' =>
            cases s' with
            | x _ _ _ => cases eL
            | d y => cases eL
            | l p' ds' =>
              have eL : (lendL rs r r').map ((i, ds') :: ·) = some L := eL
              cases e2 : lendL rs r r' with
              | none => rw [e2] at eL; cases eL
              | some L1 =>
                rw [e2] at eL
                cases eL
                obtain ⟨⟨a, xs, rfl, m1, m2, m3⟩, ht⟩ := ha
                obtain ⟨h1, h2, h3⟩ := lend_ok F t e1 ht e2
                have ow : OwnAt ρ σ i a := ⟨⟨p, ds, es⟩, q⟩
                refine ⟨?_, fun z hz => ?_, fun b hb => ?_⟩
                · unfold lends
                  rw [es, List.map_cons, h1]
                  rfl
                · rcases List.mem_cons.mp hz with y | y
                  · subst y
                    exact ⟨a, xs, ow, m1, m2, m3⟩
                  · exact h2 z y
                · rcases List.mem_cons.mp (show b ∈ a :: owns r vs from hb) with y | y
                  · subst y
                    exact ⟨_, List.mem_cons_self, ow⟩
                  · obtain ⟨z, z1, z2⟩ := h3 b y
                    exact ⟨z, List.mem_cons_of_mem _ z1, z2⟩
    · cases e
  | [], _ :: _, _, _, _, q, _, _, _ => q.elim
  | _ :: _, [], _, _, _, q, _, _, _ => q.elim
theorem tbl_not_own (F : Fr C A h ρ σ H) {i : Nat} {a : Addr} (o : OwnAt ρ σ i a) : a ∉ C.Ts := fun z => by
  obtain ⟨⟨p, ds, e⟩, r⟩ := o
  obtain ⟨v, e1, b, xs, rfl, k1, _⟩ := F.slot i _ e
  rw [r] at e1
  cases e1
  obtain ⟨⟨ps, k2, _⟩, _⟩ := F.tabs _ z
  rw [k1] at k2
  cases k2
theorem own_at (F : Fr C A h ρ σ H) {i : Nat} {a : Addr} (o : OwnAt ρ σ i a) : ∃ xs, H a = some (.lst xs) ∧ h a = none ∧ (a ∈ A.S ∨ A.H0 a = none) := by
  obtain ⟨⟨p, ds, e⟩, r⟩ := o
  obtain ⟨v, e1, b, xs, rfl, k1, k2, _, k3, k4⟩ := F.slot i _ e
  rw [r] at e1
  cases e1
  refine ⟨xs, k1, k2, ?_⟩
  cases p with
  | true => exact .inl (k3 rfl).2
  | false => exact .inr (k4 rfl)
theorem Fr.called (F : Fr C A h ρ σ H) {rs : List Ref} {vs : List V} {as as' : List Sl} {L : List (Nat × List D)} (hr : refsOk C h σ vs rs) (ha : argSl ρ rs = some as) (nd : (lends ρ rs).Nodup) (P : PostF C h H h' H' (owns as vs)) (hb : ArgsOk C h' H' as' vs) (hL : lendL rs as as' = some L) :
    Fr C A h' (putL L ρ) σ H' := by
  obtain ⟨l1, l2, l3⟩ := lend_ok F hr ha hb hL
  have a2 := (args_of F hr ha).2
  have ndL : (L.map (·.1)).Nodup := by rw [l1]; exact nd
  have get := fun j => putL_get (ρ := ρ) (j := j) ndL
  have ownB : ∀ {j a}, OwnAt (putL L ρ) σ j a → OwnAt ρ σ j a := fun {j a} ⟨⟨p, ds, e⟩, r⟩ => by
    refine ⟨?_, r⟩
    rw [get] at e
    split at e
    · unfold newL at e
      split at e
      · rename_i p' es e'
        exact ⟨p', es, e'⟩
      · exact ⟨p, ds, e⟩
    · exact ⟨p, ds, e⟩
  have notS : ∀ {a}, A.H0 a ≠ none → a ∉ A.S → a ∉ owns as vs := fun {a} n1 n2 z => by
    obtain ⟨i, o, _⟩ := a2 a z
    obtain ⟨_, _, _, q⟩ := own_at F o
    rcases q with q | q
    · exact n2 q
    · exact n1 q
  refine ⟨P.sub, Same.tr F.ext P.hh, fun a e n => P.new a (F.new a e n) (F.al a n), fun a o e n1 n2 => P.keep a o (F.keep a o e n1 n2) (notS (ne_some e) n1) n2, fun a n => P.al a (F.al a n), by rw [putL_len]; exact F.len, P.tabs, fun j s e => ?_, fun i j a q1 q2 => F.dist i j a (ownB q1) (ownB q2), fun p hp => ?_⟩
  · rw [get] at e
    cases q : L.lookup j with
    | some ds =>
      rw [q] at e
      obtain ⟨a, xs, ow, m1, m2, m3⟩ := l2 _ (lookup_mem' q)
      obtain ⟨⟨p, es, e0⟩, r⟩ := ow
      rw [e0] at e
      cases e
      obtain ⟨v, k1, b, ys, rfl, _, _, _, k2⟩ := F.slot j _ e0
      rw [r] at k1
      cases k1
      exact ⟨_, r, _, xs, rfl, m1, m2, m3, k2⟩
    | none =>
      rw [q] at e
      obtain ⟨v, k1, k2⟩ := F.slot j s e
      refine ⟨v, k1, ?_⟩
      cases s with
      | d x => exact dp_same P.hh x v k2
      | x _ _ _ => exact ⟨k2.1, k2.2.mono P.hh⟩
      | l p ds =>
        obtain ⟨a, xs, rfl, m1, m2, m3, m4⟩ := k2
        have ow : OwnAt ρ σ j a := ⟨⟨p, ds, e⟩, k1⟩
        have na : a ∉ owns as vs := fun z => by
          obtain ⟨⟨i, es⟩, h1, h2⟩ := l3 a z
          have ij := F.dist i j a h2 ow
          subst ij
          obtain ⟨x, hx⟩ := mem_lookup' ⟨es, h1⟩
          rw [q] at hx
          cases hx
        exact ⟨a, xs, rfl, P.keep _ _ m1 na (tbl_not_own F ow), P.new a m2 (ne_some m1), dpAll_same P.hh ds xs m3, m4⟩
  · obtain ⟨k1, k2, k3, k4, k5⟩ := F.gh p hp
    have na : p.1 ∉ owns as vs := fun z => by
      obtain ⟨i, o, _⟩ := a2 _ z
      exact k5 i o
    exact ⟨P.keep _ _ k1 na k4, P.new _ k2 (ne_some k1), k3, k4, fun i o => k5 i (ownB o)⟩
end
section
variable {C : Cfg} {E : WX} {X : Cx} {pos : Pos}
theorem endC_ok {A : Anc} {h : Hp} {ρ : Rho} {σ : L2.St} {H : Hp} {Q : VK} {rs : List Ref} {vs : List V} {as : List Sl} {r : Res} (F : Fr C A h ρ σ H) (hr : refsOk C h σ vs rs) (ha : argSl ρ rs = some as) (nd : (lends ρ rs).Nodup)
    (m : wpM C E A h (kC C A h σ Q) (endC rs as r ρ)) : okR C h H (owns as vs) vs Q (WE E σ) r := by
  cases r with
  | bad => exact m.elim
  | val t as' =>
    intro v h' H' P hb ht
    have m : wpM C E A h (kC C A h σ Q) (okC (lendL rs as as') (.ok t) ρ) := m
    cases e : lendL rs as as' with
    | none => rw [e] at m; exact m.elim
    | some L =>
      rw [e] at m
      have F' := F.called hr ha nd P hb e
      refine (show kC C A h σ Q t (putL L ρ) from m) v h' H' F' P.hh ?_
      cases t with
      | d x => exact ht
      | l ds =>
        obtain ⟨a, xs, rfl, k1, k2, k3, k4⟩ := ht
        have n0 : A.H0 a = none := by
          cases q : A.H0 a with
          | none => rfl
          | some o => exact absurd k4 (F.al a (ne_some q))
        refine ⟨a, xs, rfl, k1, k2, k3, n0, fun i o => ?_, fun p hp z => ?_⟩
        · obtain ⟨⟨pn, es, e1⟩, r1⟩ := o
          rw [putL_get (by rw [(lend_ok F hr ha hb e).1]; exact nd)] at e1
          have : ∃ p ds, ρ[i]? = some (some (.l p ds)) := by
            split at e1
            · unfold newL at e1
              split at e1
              · rename_i p' es' e'
                exact ⟨p', es', e'⟩
              · exact ⟨pn, es, e1⟩
            · exact ⟨pn, es, e1⟩
          obtain ⟨_, q, _⟩ := own_at F ⟨this, r1⟩
          rw [k4] at q
          cases q
        · have q := (F.gh p hp).1
          rw [z, k4] at q
          cases q
  | ex x as' =>
    intro cls dd h' H' P hb hx
    have m : wpM C E A h (kC C A h σ Q) (okC (lendL rs as as') (.ex x) ρ) := m
    cases e : lendL rs as as' with
    | none => rw [e] at m; exact m.elim
    | some L =>
      rw [e] at m
      exact (show Thrown C E A h x (putL L ρ) from m) cls dd σ h' H' (F.called hr ha nd P hb e) P.hh (hx.wider fun a n => by
        cases q : A.H0 a with
        | none => rfl
        | some o => exact absurd n (F.al a (ne_some q)))
/-- THE RULE for a call -/
theorem pc_call {x : Str} {e : Expr} {es : List Expr} {p : Pos} {f : Addr} {fd : FuncData} {ps : List Str} {k n : Nat} {F : List Sl → Res} {fa : M (List Ref)} (hK : C.K = X.K) (hT : FnOk X.prog X.w X.K X.mg X.base (L2.CX X.prog X.w) k f fd ps (spF C n F)) (hr : Room k X.A) (hg : Gl X x) (hm : X.mg x = some (.ref f)) (hk : PySem.W.keepIn X.K (.ref f) = true) (hb : Binds X.K fd ps [])
    (tk : Takes X E) (ha : PAO C E X (e :: es) fa) (hdb : (x == ("__debug__" : Str)) = false := by decide) (he : starEach (e :: es) X.env = (false, eval e X.env) :: starEach es X.env := by rfl) (hpl : (backTo pos (starEach es X.env)).any (·.1) = false := by rfl) :
    PC' C E X (.Call (.Name x p) (e :: es) [] pos) (callX F n fa) :=
  PE.weak (pe_callS (E := WE E) hT hr hg hm hk hb (passAt tk) ha hdb he hpl) fun σ H Q q => by
    obtain ⟨A, h, ρ, F0, m⟩ := q
    refine ⟨A, h, ρ, F0, wpM_imp (wpM_bind m) fun rs ρ1 m1 vs h1 H1 F1 s1 q1 => ?_⟩
    show spF C n F vs H1 Q (WE E σ)
    unfold callM at m1
    cases e1 : argSl ρ1 rs with
    | none => rw [e1] at m1; exact m1.elim
    | some as =>
      rw [e1] at m1
      by_cases nd : as.length = n ∧ (lends ρ1 rs).Nodup
      · have m1 : wpM C E A h (kC C A h σ Q) (if as.length = n ∧ (lends ρ1 rs).Nodup then endC rs as (F as) ρ1 else .bad) := m1
        rw [if_pos nd] at m1
        obtain ⟨k1, _⟩ := args_of F1 q1 e1
        refine ⟨h1, as, nd.1, F1.sub, k1, owns_nodup F1 q1 e1 nd.2, F1.tabs, ?_⟩
        exact endC_ok F1 q1 e1 nd.2 (wpM_h s1 m1 fun t ρ' kk v h' H' F' s' => kk v h' H' F' (Same.tr s1 s'))
      · have m1 : wpM C E A h (kC C A h σ Q) (if as.length = n ∧ (lends ρ1 rs).Nodup then endC rs as (F as) ρ1 else .bad) := m1
        rw [if_neg nd] at m1
        exact m1.elim
end
end EV

/-! # EV 8: one's own lists changed; name op= e -/
namespace EV
open PySem PySem.Spec PyProof.Rows L2 Ver
section
variable {C : Cfg} {E : WX} {X : Cx} {pos : Pos}
/-- one's own list is written -/
theorem Fr.write {A : Anc} {h : Hp} {ρ : Rho} {σ : L2.St} {H : Hp} (F : Fr C A h ρ σ H) {i : Nat} {p : Bool} {ds es : List D} {a : Addr} {ys : List V} (e : ρ[i]? = some (some (.l p ds))) (ea : σ[i]? = some (some (.ref a))) (q : DpAll C.K h ys es) :
    Fr C A h (ρ.set i (some (.l p es))) σ (upd H a (.lst ys)) := by
  have ow : OwnAt ρ σ i a := ⟨⟨_, _, e⟩, ea⟩
  have hi : i < ρ.length := (List.getElem?_eq_some_iff.mp e).1
  obtain ⟨v, e1, b, xs, e2, e3, e4, _, e5⟩ := F.slot i _ e
  rw [ea] at e1
  cases e1
  cases e2
  have own : ∀ j c, OwnAt (ρ.set i (some (.l p es))) σ j c → OwnAt ρ σ j c := fun j c ⟨⟨p', ds', z⟩, r⟩ => by
    by_cases y : j = i
    · subst y
      exact ⟨⟨_, _, e⟩, r⟩
    · rw [List.getElem?_set_ne (Ne.symm y)] at z
      exact ⟨⟨_, _, z⟩, r⟩
  refine ⟨fun b o k => ?_, F.ext, F.new, fun b o k n1 n2 => ?_, fun b n => ?_, by rw [List.length_set]; exact F.len, fun P hP => ?_, fun j s k => ?_, fun j l b q1 q2 => F.dist j l b (own _ _ q1) (own _ _ q2), fun g hg => ?_⟩
  · by_cases z : b = a
    · subst z; rw [e4] at k; cases k
    · rw [upd_ne z]; exact F.sub b o k
  · by_cases z : b = a
    · subst z
      cases p with
      | true => exact absurd (e5.1 rfl).2 n1
      | false => rw [e5.2 rfl] at k; cases k
    · rw [upd_ne z]; exact F.keep b o k n1 n2
  · by_cases z : b = a
    · subst z; rw [upd_same]; exact fun y => nomatch y
    · rw [upd_ne z]; exact F.al b n
  · obtain ⟨k1, k2⟩ := F.tabs P hP
    refine ⟨?_, k2⟩
    obtain ⟨ps, k3, k4⟩ := k1
    refine ⟨ps, ?_, k4⟩
    rw [upd_ne fun z : P = a => tbl_not_own F ow (by rw [← z]; exact hP)]
    exact k3
  · by_cases z : j = i
    · subst z
      rw [List.getElem?_set_self hi] at k
      cases k
      exact ⟨_, ea, a, ys, rfl, upd_same, e4, q, e5⟩
    · rw [List.getElem?_set_ne (Ne.symm z)] at k
      obtain ⟨w, k1, k2⟩ := F.slot j s k
      refine ⟨w, k1, ?_⟩
      cases s with
      | d x => exact k2
      | x _ _ _ => exact k2
      | l p' es' =>
        obtain ⟨b, zs, rfl, m1, m2⟩ := k2
        refine ⟨b, zs, rfl, ?_, m2⟩
        rw [upd_ne fun y => z (F.dist j i a ⟨⟨_, _, k⟩, by rw [k1, y]⟩ ow)]
        exact m1
  · obtain ⟨k1, k2, k3, k4, k5⟩ := F.gh g hg
    refine ⟨?_, k2, k3, k4, fun j q => k5 j (own _ _ q)⟩
    rw [upd_ne fun y => k5 i (by rw [y]; exact ow)]
    exact k1
/-- name.m(e): m of one's own list, by the list's data and the argument's -/
def ownM (g : List D → D → Option (List D × D)) (i : Nat) (d : D) : M D := fun ρ => match ρ[i]? with
  | some (some (.l p ds)) => (match g ds d with
    | some (es, r) => .ok r (ρ.set i (some (.l p es)))
    | none => .bad)
  | _ => .bad
def mtX (g : List D → D → Option (List D × D)) (i : Nat) (f : M D) : M D := fun ρ => if isOwn ρ[i]? = true then bindM f (ownM g i) ρ else .bad
/-- a method's rule, for data -/
def OwD (C : Cfg) (r : V → List V → Hp → VK → Prop) (g : List D → D → Option (List D × D)) : Prop := ∀ h H a xs ds x d es rd (Q : VK), Same h H → H a = some (.lst xs) → h a = none → DpAll C.K h xs ds → Dp C.K h x d → g ds d = some (es, rd) →
  (∀ v ys, DpAll C.K h ys es → Dp C.K h v rd → Q v (upd H a (.lst ys))) → r (.ref a) [x] H Q
theorem isOwn_some {o : Option (Option Sl)} (h : isOwn o = true) : ∃ p ds, o = some (some (.l p ds)) := by
  unfold isOwn at h
  split at h
  · exact ⟨_, _, rfl⟩
  · cases h
theorem px_own {id : String} {name : Str} {r : V → List V → Hp → VK → Prop} {g : List D → D → Option (List D × D)} {i : Nat} {x : Str} {e : Expr} {f : M D} {npos apos cpos : Pos} (slot : Slot "list" name id) (hty : typeOf (.builtin id) = pure (.type "method_descriptor")) (hm : MtR X id r) (hg : OwD C r g) (ho : PE X (.Name x npos) (tVar i)) (he : PX C E X e f)
    (hbase : attributeBase (.Name x npos) name X.env (eval (.Name x npos) X.env) = eval (.Name x npos) X.env := by rfl)
    (hfew : ((backTo cpos (starEach [e] X.env)).all (fun x => !x.1) && (backToKw cpos (keywordEach [] X.env)).all (fun x => x.1.isSome)
      && decide (([e] : List Expr).length + ([] : List Keyword).length + (if ([] : List Keyword).isEmpty then 0 else 1) < 30)) = true := by rfl)
    (hline : (apos.endLine == cpos.line) = true := by rfl) (hs : starEach [e] X.env = (false, eval e X.env) :: starEach [] X.env := by rfl) (hplain : (backTo cpos (starEach [] X.env)).any (·.1) = false := by rfl) :
    PX C E X (.Call (.Attribute (.Name x npos) name apos) [e] [] cpos) (mtX g i f) :=
  PE.weak (pe_bm PySem.F.plainAttrs_list slot hty hm ho (pa_cons he pa_nil hs) hbase hfew hline hs hplain) fun σ H Q q => by
    obtain ⟨A, h, ρ, F, m⟩ := tX_eq.mp q
    unfold mtX at m
    by_cases hw : isOwn ρ[i]? = true
    · rw [if_pos hw] at m
      obtain ⟨p, ds, e0⟩ := isOwn_some hw
      obtain ⟨v, e1, a, xs, rfl, e3, _⟩ := F.slot i _ e0
      refine ⟨.ref a, e1, .inl ⟨rfl, xs, SqL.of e3⟩, tX_eq.mpr ⟨A, h, ρ, F, wpM_imp (wpM_bind m) fun d ρ1 m1 u h1 H1 F1 s1 q1 => ?_⟩⟩
      unfold ownM at m1
      split at m1
      · rename_i p1 ds1 e4
        cases e5 : g ds1 d with
        | none => rw [e5] at m1; exact m1.elim
        | some z =>
          obtain ⟨es, rd⟩ := z
          rw [e5] at m1
          obtain ⟨v2, k1, b, ys, k2, k3, k4, k5, _⟩ := F1.slot i _ e4
          rw [e1] at k1
          cases k1
          cases k2
          exact hg h1 H1 a ys ds1 u d es rd Q F1.sub k3 k4 k5 q1 e5 fun v ys' w1 w2 => (show kX C A h σ Q rd (ρ1.set i (some (.l p1 es))) from m1) v h1 _ (F1.write e4 e1 w1) s1 w2
      · exact m1.elim
    · rw [if_neg hw] at m
      exact m.elim
def appD : List D → D → Option (List D × D) := fun ds d => if ds.length < 1000000 then some (ds ++ [d], .none) else none
theorem ow_append : OwD C rAppend appD := fun h H a xs ds x d es rd Q s k1 _ k2 k3 e k => by
  unfold appD at e
  split at e
  · rename_i hl
    cases e
    exact ⟨a, xs, x, rfl, rfl, k1, by rw [dpAll_len k2]; exact Nat.lt_of_lt_of_le hl big_le, k _ _ (dpAll_app k2 (.cons k3 .nil)) .non⟩
  · cases e
theorem px_append {i : Nat} {x : Str} {e : Expr} {f : M D} {npos apos cpos : Pos} (ho : PE X (.Name x npos) (tVar i)) (he : PX C E X e f)
    (hbase : attributeBase (.Name x npos) "append" X.env (eval (.Name x npos) X.env) = eval (.Name x npos) X.env := by rfl)
    (hfew : ((backTo cpos (starEach [e] X.env)).all (fun x => !x.1) && (backToKw cpos (keywordEach [] X.env)).all (fun x => x.1.isSome)
      && decide (([e] : List Expr).length + ([] : List Keyword).length + (if ([] : List Keyword).isEmpty then 0 else 1) < 30)) = true := by rfl)
    (hline : (apos.endLine == cpos.line) = true := by rfl) (hs : starEach [e] X.env = (false, eval e X.env) :: starEach [] X.env := by rfl) (hplain : (backTo cpos (starEach [] X.env)).any (·.1) = false := by rfl) :
    PX C E X (.Call (.Attribute (.Name x npos) "append" apos) [e] [] cpos) (mtX appD i f) := px_own PySem.F.slot_list_append PySem.F.type_list_append mt_append ow_append ho he hbase hfew hline hs hplain
/-- xs.extend(a tuple, as data) -/
def extTD : List D → D → Option (List D × D) := fun ds d => match d with
  | .tuple es => if ds.length + es.length ≤ 1000000 then some (ds ++ es, .none) else none
  | _ => none
theorem ow_extT : OwD C (rExtT C.K) extTD := fun h H a xs ds x d es rd Q s k1 _ k2 k3 e k => by
  unfold extTD at e
  split at e
  · rename_i es'
    split at e
    · rename_i hl
      cases e
      obtain ⟨b, zs, rfl, h1, h2⟩ := (show RepW C h H x (.tuple es') from .inl k3).tuple s
      exact ⟨a, b, xs, zs, rfl, rfl, k1, h1, by rw [dpAll_len k2, dpAll_len h2]; exact Nat.le_trans hl big_le, k _ _ (dpAll_app k2 h2) .non⟩
    · cases e
  · cases e
/-- xs.pop(), xs one's own -/
def popD (p : Bool) (ds : List D) (i : Nat) (ρ : Rho) : R D := match ds[ds.length - 1]? with
  | some d => .ok d (ρ.set i (some (.l p ds.dropLast)))
  | none => .bad
def popX (i : Nat) : M D := fun ρ => match ρ[i]? with
  | some (some (.l p ds)) => popD p ds i ρ
  | _ => .bad
theorem dpAll_dropLast {K : PySem.W.Frag} {H : Hp} {xs : List V} {ds : List D} (h : DpAll K H xs ds) : DpAll K H xs.dropLast ds.dropLast := by
  rw [List.dropLast_eq_take, List.dropLast_eq_take, dpAll_len h]
  exact dpAll_take _ h
theorem px_pop {i : Nat} {x : Str} {npos apos cpos : Pos} (ho : PE X (.Name x npos) (tVar i))
    (hbase : attributeBase (.Name x npos) "pop" X.env (eval (.Name x npos) X.env) = eval (.Name x npos) X.env := by rfl) (hline : (apos.endLine == cpos.line) = true := by rfl) :
    PX C E X (.Call (.Attribute (.Name x npos) "pop" apos) [] [] cpos) (popX i) :=
  PE.weak (pe_bm0 PySem.F.plainAttrs_list PySem.F.slot_list_pop PySem.F.type_list_pop mt_pop ho hbase hline) fun σ H Q q => by
    obtain ⟨A, h, ρ, F, m⟩ := tX_eq.mp q
    unfold popX at m
    split at m
    · rename_i p ds e0
      unfold popD at m
      split at m
      · rename_i d e4
        obtain ⟨v, e1, a, xs, rfl, e3, e5, e6, _⟩ := F.slot i _ e0
        obtain ⟨y, e7, e8⟩ := dpAll_get e6 e4
        refine ⟨.ref a, e1, .inl ⟨rfl, xs, SqL.of e3⟩, a, xs, y, rfl, rfl, e3, by rw [dpAll_len e6]; exact e7, ?_⟩
        exact (show kX C A h σ Q d (ρ.set i (some (.l p ds.dropLast))) from m) y h _ (F.write e0 e1 (dpAll_dropLast e6)) (fun _ _ e => e) e8
      · exact m.elim
    · exact m.elim
/-- xs.extend(a list of one's own or of data) -/
def extM (i : Nat) (t : Tm) : M D := fun ρ => match ρ[i]?, t with
  | some (some (.l p ds)), .l es => if ds.length + es.length ≤ 1000000 then .ok .none (ρ.set i (some (.l p (ds ++ es)))) else .bad
  | some (some (.l p ds)), .d (.tuple es) => if ds.length + es.length ≤ 1000000 then .ok .none (ρ.set i (some (.l p (ds ++ es)))) else .bad
  | _, _ => .bad
def extX (i : Nat) (f : M Tm) : M D := fun ρ => if isOwn ρ[i]? = true then bindM f (extM i) ρ else .bad
theorem px_extend {i : Nat} {x : Str} {e : Expr} {f : M Tm} {npos apos cpos : Pos} (hK : C.K = X.K) (ho : PE X (.Name x npos) (tVar i)) (he : PC' C E X e f)
    (hbase : attributeBase (.Name x npos) "extend" X.env (eval (.Name x npos) X.env) = eval (.Name x npos) X.env := by rfl)
    (hfew : ((backTo cpos (starEach [e] X.env)).all (fun x => !x.1) && (backToKw cpos (keywordEach [] X.env)).all (fun x => x.1.isSome)
      && decide (([e] : List Expr).length + ([] : List Keyword).length + (if ([] : List Keyword).isEmpty then 0 else 1) < 30)) = true := by rfl)
    (hline : (apos.endLine == cpos.line) = true := by rfl) (hs : starEach [e] X.env = (false, eval e X.env) :: starEach [] X.env := by rfl) (hplain : (backTo cpos (starEach [] X.env)).any (·.1) = false := by rfl) :
    PX C E X (.Call (.Attribute (.Name x npos) "extend" apos) [e] [] cpos) (extX i f) :=
  PE.weak (pe_bm PySem.F.plainAttrs_list PySem.F.slot_list_extend PySem.F.type_list_extend (MtR.or mt_extend mt_extT) ho (pa_cons he pa_nil hs) hbase hfew hline hs hplain) fun σ H Q q => by
    obtain ⟨A, h, ρ, F, m⟩ := tX_eq.mp q
    unfold extX at m
    by_cases hw : isOwn ρ[i]? = true
    · rw [if_pos hw] at m
      obtain ⟨p, ds, e0⟩ := isOwn_some hw
      obtain ⟨v, e1, a, xs, rfl, e3, _⟩ := F.slot i _ e0
      refine ⟨.ref a, e1, .inl ⟨rfl, xs, SqL.of e3⟩, A, h, ρ, F, wpM_imp (wpM_bind m) fun t ρ1 m1 u h1 H1 F1 s1 q1 => ?_⟩
      unfold extM at m1
      split at m1
      · rename_i p1 ds1 es e4
        by_cases hl : ds1.length + es.length ≤ 1000000
        · rw [if_pos hl] at m1
          obtain ⟨v2, k1, b, ys, k2, k3, k4, k5, _⟩ := F1.slot i _ e4
          rw [e1] at k1
          cases k1
          cases k2
          obtain ⟨c, zs, rfl, z1, z2, z3, _⟩ := q1
          exact .inl ⟨a, c, ys, zs, rfl, rfl, k3, z1, by rw [dpAll_len k5, dpAll_len z3]; exact Nat.le_trans hl big_le, (show kX C A h σ Q .none (ρ1.set i (some (.l p1 (ds1 ++ es)))) from m1) _ h1 _ (F1.write e4 e1 (dpAll_app k5 z3)) s1 .non⟩
        · rw [if_neg hl] at m1
          exact m1.elim
      · rename_i p1 ds1 es e4
        by_cases hl : ds1.length + es.length ≤ 1000000
        · rw [if_pos hl] at m1
          obtain ⟨v2, k1, b, ys, k2, k3, k4, k5, _⟩ := F1.slot i _ e4
          rw [e1] at k1
          cases k1
          cases k2
          obtain ⟨c, zs, rfl, z1, z3⟩ := (show RepW C h1 H1 u (.tuple es) from .inl q1).tuple F1.sub
          exact .inr ⟨a, c, ys, zs, rfl, rfl, k3, hK ▸ z1, by rw [dpAll_len k5, dpAll_len z3]; exact Nat.le_trans hl big_le, (show kX C A h σ Q .none (ρ1.set i (some (.l p1 (ds1 ++ es)))) from m1) _ h1 _ (F1.write e4 e1 (dpAll_app k5 z3)) s1 .non⟩
        · rw [if_neg hl] at m1
          exact m1.elim
      · exact m1.elim
    · rw [if_neg hw] at m
      exact m.elim
/-- xs[j] = e, xs one's own -/
def setIx (i : Nat) (d : D) (o : Option D) : Rho → Out := fun ρ => match ρ[i]?, o with
  | some (some (.l p ds)), some (.int j) => (match ixN ds.length j with
    | some k => .nx (ρ.set i (some (.l p (ds.set k d))))
    | none => .bad)
  | _, _ => .bad
def asgIx (i : Nat) (f : M D) (fj : M Ref) : Rho → Out := onM f fun d ρ => if isOwn ρ[i]? = true then onM fj (fun r ρ1 => setIx i d (rd ρ1 r) ρ1) ρ else .bad
theorem ss_setIx {i : Nat} {x : Str} {e j : Expr} {f : M D} {fj : M Ref} {npos tpos : Pos} (ho : PE X (.Name x npos) (tVar i)) (he : PX C E X e f) (hj : PO C E X j fj)
    (hs : swapsWithSole [.Subscript (.Name x npos) j tpos] e pos.line X.env = pure false := by rfl) (hw : swappedStores [.Subscript (.Name x npos) j tpos] e X.env = pure none := by rfl)
    (h1 : (assignEach [.Subscript (.Name x npos) j tpos] X.env).map (·.2) = [assign (.Subscript (.Name x npos) j tpos) X.env] := by rfl)
    (ha : ∀ v, assign (.Subscript (.Name x npos) j tpos) X.env v = (do
      let ov ← holding [v] (eval (.Name x npos) X.env)
      let iv ← holding [v, ov] (eval j X.env)
      standAt tpos
      holding [v, ov, iv] (setItem ov iv v)
      release [v, ov, iv] []) := by intro _; rfl) : SS C E X (.Assign [.Subscript (.Name x npos) j tpos] e pos) (asgIx i f fj) :=
  PS.weak (ps_asg he (pg_sub ho hj set_list ha) hs hw h1) fun D σ H q => by
    obtain ⟨A, h, ρ, F, m⟩ := q
    refine tX_eq.mpr ⟨A, h, ρ, F, wpM_imp (wpS_on m) fun d ρ1 m1 v h1 H1 F1 s1 k => ?_⟩
    by_cases hw : isOwn ρ1[i]? = true
    · rw [if_pos hw] at m1
      obtain ⟨p, ds, e0⟩ := isOwn_some hw
      obtain ⟨v0, e1, a, xs, rfl, e3, _⟩ := F1.slot i _ e0
      refine ⟨.ref a, e1, tO_eq.mpr ⟨A, h1, ρ1, F1, wpM_h s1 (wpS_on m1) fun r ρ2 m2 w h2 H2 F2 s2 q2 => ?_⟩⟩
      unfold setIx at m2
      split at m2
      · rename_i p2 ds2 jj e4 e5
        split at m2
        · rename_i kk e6
          obtain ⟨v2, k1, b, ys, k2, k3, k4, k5, _⟩ := F2.slot i _ e4
          rw [e1] at k1
          cases k1
          cases k2
          refine ⟨a, ys, jj, kk, rfl, (F2.view q2 e5).int, k3, by rw [dpAll_len k5]; exact e6, ?_⟩
          exact (show ∀ σ' h' H', Fr C A h' (ρ2.set i (some (.l p2 (ds2.set kk d)))) σ' H' → Same h h' → D.nx σ' H' from m2) σ h2 _ (F2.write e4 e1 (dpAll_set kk k5 (dp_same s2 d v k))) (Same.tr s1 s2)
        · exact m2.elim
      · exact m2.elim
    · rw [if_neg hw] at m1
      exact m1.elim
/-- name op= e -/
def augS (i : Nat) (g : D → D → Option D) (f : M Ref) : Rho → Out := fun ρ => match ρ[i]? with
  | some (some (.d x)) => onM f (fun r ρ1 => match rd ρ1 r, canSet ρ1[i]? with
    | some y, true => (match g x y with
      | some z => .nx (ρ1.set i (some (.d z)))
      | none => .bad)
    | _, _ => .bad) ρ
  | _ => .bad
theorem ss_aug {i : Nat} {x : Str} {e : Expr} {f : M Ref} {op : Operator} {r : R2} {g : D → D → Option D} {pos' : Pos} (hN : X.N.Nodup) (hi : X.N[i]? = some x) (hx : Loc X.env.scope x) (ho : OpR X (inplaceOp op) r) (hg : OpD C r g) (he : PO C E X e f) (hf : X.fn x = true ∨ X.env.scope.names.lookup x = some .local := by first | exact .inl rfl | exact .inr rfl | assumption) :
    SS C E X (.AugAssign (.Name x pos') op e pos) (augS i g f) := PS.weak (ps_aug hN hi hx he ho hf) fun D σ H q => by
  obtain ⟨A, h, ρ, F, m⟩ := q
  unfold augS at m
  split at m
  · rename_i x0 e0
    obtain ⟨v, e1, e2⟩ := F.slot i _ e0
    refine ⟨v, e1, tO_eq.mpr ⟨A, h, ρ, F, wpM_imp (wpS_on m) fun r ρ1 m1 u h1 H1 F1 s1 q1 => ?_⟩⟩
    split at m1
    · rename_i y e3 e4
      split at m1
      · rename_i z e5
        refine hg h1 H1 v u x0 y z _ F1.sub (.inl (dp_same s1 x0 v e2)) (F1.view q1 e3) e5 fun w h2 H2 ee k => ?_
        exact (show ∀ σ' h' H', Fr C A h' (ρ1.set i (some (.d z))) σ' H' → Same h h' → D.nx σ' H' from m1) _ h2 H2 ((F1.extend ee).set (t := .d z) e4 k) (Same.tr s1 ee.hh)
      · exact m1.elim
    · exact m1.elim
  · exact m.elim
end
end EV

/-! # EV 9: list comprehensions -/
namespace EV
open PySem PySem.Spec PyProof.Rows L2 Ver
def noE : WX := fun _ _ _ _ => False
theorem takes_no {X : Cx} : Takes X noE := fun _ _ ⟨_, _, _, _, _, _, _, _, _, _, _, _, _, _, _, _, h⟩ => h.elim
def keepD : Option (Option Sl) → Option Sl
  | some (some (.d x)) => some (.d x)
  | _ => none
def wipeR (ρ : Rho) : List Nat → Rho
  | [] => ρ
  | v :: vs => (wipeR ρ vs).set v none
/-- back from a block: what the names were worth -/
def backR (ρ : Rho) : List Nat → Rho → Rho
  | [], ρ2 => ρ2
  | v :: vs, ρ2 => (backR ρ vs ρ2).set v (keepD ρ[v]?)
theorem wipeR_len (ρ : Rho) : ∀ vs : List Nat, (wipeR ρ vs).length = ρ.length
  | [] => rfl
  | v :: vs => by unfold wipeR; rw [List.length_set, wipeR_len ρ vs]
theorem backR_len (ρ ρ2 : Rho) : ∀ vs : List Nat, (backR ρ vs ρ2).length = ρ2.length
  | [] => rfl
  | v :: vs => by unfold backR; rw [List.length_set, backR_len ρ ρ2 vs]
theorem set_some {ρ : Rho} {v j : Nat} {o : Option Sl} {s : Sl} (h : (ρ.set v o)[j]? = some (some s)) : (j = v ∧ o = some s) ∨ (j ≠ v ∧ ρ[j]? = some (some s)) := by
  by_cases z : j = v
  · subst z
    rw [List.getElem?_set] at h
    simp only [if_true] at h
    split at h
    · cases h; exact .inl ⟨rfl, rfl⟩
    · cases h
  · rw [List.getElem?_set_ne (Ne.symm z)] at h
    exact .inr ⟨z, h⟩
theorem wipeR_some {ρ : Rho} {j : Nat} {s : Sl} : ∀ {vs : List Nat}, (wipeR ρ vs)[j]? = some (some s) → j ∉ vs ∧ ρ[j]? = some (some s)
  | [], h => ⟨List.not_mem_nil, h⟩
  | v :: vs, h => by
    rcases set_some h with ⟨_, z⟩ | ⟨n, z⟩
    · cases z
    · obtain ⟨h1, h2⟩ := wipeR_some z
      exact ⟨fun m => (List.mem_cons.mp m).elim n h1, h2⟩
theorem keepD_some {o : Option (Option Sl)} {s : Sl} (h : keepD o = some s) : ∃ x, s = .d x ∧ o = some (some (.d x)) := by
  unfold keepD at h
  split at h
  · cases h; exact ⟨_, rfl, rfl⟩
  · cases h
theorem backR_some {ρ ρ2 : Rho} {j : Nat} {s : Sl} : ∀ {vs : List Nat}, (backR ρ vs ρ2)[j]? = some (some s) → (j ∉ vs ∧ ρ2[j]? = some (some s)) ∨ ∃ x, s = .d x ∧ ρ[j]? = some (some (.d x))
  | [], h => .inl ⟨List.not_mem_nil, h⟩
  | v :: vs, h => by
    rcases set_some h with ⟨e, z⟩ | ⟨n, z⟩
    · subst e
      obtain ⟨x, h1, h2⟩ := keepD_some z
      exact .inr ⟨x, h1, h2⟩
    · rcases backR_some z with ⟨h1, h2⟩ | h
      · exact .inl ⟨fun m => (List.mem_cons.mp m).elim n h1, h2⟩
      · exact .inr h
section
variable {C : Cfg} {A : Anc} {h h' : Hp} {ρ ρ2 : Rho} {σ σ' : L2.St} {H H' : Hp}
/-- other slots: each that has a datum or an own list was so ahead, or is data -/
theorem Fr.reslot (F : Fr C A h ρ σ H) (hl : σ'.length = ρ2.length) (q : ∀ (j : Nat) (s : Sl), ρ2[j]? = some (some s) → (ρ[j]? = some (some s) ∧ σ'[j]? = σ[j]?) ∨ ∃ (x : D) (v : V), s = Sl.d x ∧ σ'[j]? = some (some v) ∧ Dp C.K h v x) : Fr C A h ρ2 σ' H := by
  have own : ∀ j a, OwnAt ρ2 σ' j a → OwnAt ρ σ j a := fun j a ⟨⟨p, ds, e⟩, r⟩ => by
    rcases q j _ e with ⟨e1, e2⟩ | ⟨x, v, e1, _⟩
    · exact ⟨⟨p, ds, e1⟩, by rw [← e2]; exact r⟩
    · cases e1
  refine ⟨F.sub, F.ext, F.new, F.keep, F.al, hl, F.tabs, fun j s e => ?_, fun i j a q1 q2 => F.dist i j a (own _ _ q1) (own _ _ q2), fun p hp => ?_⟩
  · rcases q j s e with ⟨e1, e2⟩ | ⟨x, v, e1, e2, e3⟩
    · rw [e2]; exact F.slot j s e1
    · subst e1; exact ⟨v, e2, e3⟩
  · obtain ⟨k1, k2, k3, k4, k5⟩ := F.gh p hp
    exact ⟨k1, k2, k3, k4, fun i o => k5 i (own _ _ o)⟩
theorem Fr.wipe (F : Fr C A h ρ σ H) (vs : List Nat) (hw : L2.wipe σ' vs = L2.wipe σ vs) : Fr C A h (wipeR ρ vs) σ' H :=
  F.reslot (by rw [wipeR_len, ← F.len, ← wipe_length σ' vs, hw, wipe_length]) fun j s e => by
    obtain ⟨h1, h2⟩ := wipeR_some e
    exact .inl ⟨h2, by rw [← wipe_out (σ := σ') h1, hw, wipe_out h1]⟩
theorem wipe_in {j : Nat} {τ : L2.St} : ∀ {us : List Nat}, j ∈ us → (L2.wipe τ us)[j]? = if j < τ.length then some none else none
  | [], h => absurd h List.not_mem_nil
  | v :: us, hm => by
    unfold L2.wipe
    by_cases e : v = j
    · subst e
      rw [List.getElem?_set, wipe_length]
      simp
    · rw [List.getElem?_set_ne e]
      exact wipe_in ((List.mem_cons.mp hm).resolve_left (Ne.symm e))
theorem wipe_wipe (σ : L2.St) (vs : List Nat) : L2.wipe (L2.wipe σ vs) vs = L2.wipe σ vs := by
  apply List.ext_getElem?
  intro j
  by_cases m : j ∈ vs
  · rw [wipe_in m, wipe_in m, wipe_length]
  · rw [wipe_out m]
theorem Fr.plus (F : Fr C A h ρ σ H) {D : Addr} {xs : List V} (hD : H D = some (.lst xs)) (n1 : h D = none) (n2 : A.H0 D = none) (n3 : ∀ i, ¬ OwnAt ρ σ i D) : Fr C { A with gh := (D, xs) :: A.gh } h ρ σ H :=
  ⟨F.sub, F.ext, F.new, F.keep, F.al, F.len, F.tabs, F.slot, F.dist, fun p hp => by
    rcases List.mem_cons.mp hp with z | z
    · subst z
      refine ⟨hD, n1, n2, fun m => ?_, n3⟩
      obtain ⟨⟨ps, k, _⟩, _⟩ := F.tabs _ m
      rw [show H D = _ from hD] at k
      cases k
    · exact F.gh p z⟩
theorem Fr.minus {g : List (Addr × List V)} {z : Addr × List V} (F : Fr C { A with gh := z :: g } h ρ σ H) : Fr C { A with gh := g } h ρ σ H :=
  ⟨F.sub, F.ext, F.new, F.keep, F.al, F.len, F.tabs, F.slot, F.dist, fun p hp => F.gh p (List.mem_cons_of_mem _ hp)⟩
theorem Fr.ghWrite {D : Addr} {xs ys : List V} (F : Fr C { A with gh := (D, xs) :: A.gh } h ρ σ H) (nd : ∀ p ∈ A.gh, p.1 ≠ D) : Fr C { A with gh := (D, ys) :: A.gh } h ρ σ (upd H D (.lst ys)) := by
  obtain ⟨k1, k2, k3, k4, k5⟩ := F.gh _ List.mem_cons_self
  refine ⟨fun b o e => ?_, F.ext, F.new, fun b o e n1 n2 => ?_, fun b n => ?_, F.len, fun P hP => ?_, fun j s e => ?_, F.dist, fun p hp => ?_⟩
  · rw [upd_ne fun z : b = D => by rw [z, k2] at e; cases e]
    exact F.sub b o e
  · rw [upd_ne fun z : b = D => by rw [z, k3] at e; cases e]
    exact F.keep b o e n1 n2
  · by_cases z : b = D
    · subst z; rw [upd_same]; exact fun y => nomatch y
    · rw [upd_ne z]; exact F.al b n
  · obtain ⟨⟨ps, m1, m2⟩, m3⟩ := F.tabs P hP
    refine ⟨⟨ps, ?_, m2⟩, m3⟩
    rw [upd_ne fun z : P = D => k4 (by rw [← z]; exact hP)]
    exact m1
  · obtain ⟨v, e1, e2⟩ := F.slot j s e
    refine ⟨v, e1, ?_⟩
    cases s with
    | d x => exact e2
    | x _ _ _ => exact e2
    | l p ds =>
      obtain ⟨a, zs, rfl, m1, m2⟩ := e2
      refine ⟨a, zs, rfl, ?_, m2⟩
      rw [upd_ne fun z : a = D => k5 j ⟨⟨_, _, e⟩, by rw [e1, z]⟩]
      exact m1
  · rcases List.mem_cons.mp hp with z | z
    · subst z
      exact ⟨upd_same, k2, k3, k4, k5⟩
    · obtain ⟨m1, m2, m3, m4, m5⟩ := F.gh p (List.mem_cons_of_mem _ z)
      exact ⟨by rw [upd_ne (nd p z)]; exact m1, m2, m3, m4, m5⟩
end
/-! ### tests -/
section
variable {C : Cfg} {E : WX} {X : Cx} {pos : Pos}
theorem PTs.weak {ifs : List Expr} {t u : TT} (h : PTs X ifs t) (k : ∀ σ H Q, u σ H Q → t σ H Q) : PTs X ifs u := ⟨fun pins s σ H Q I q => h.run pins s σ H Q I (k σ H Q q)⟩
abbrev PBs (C : Cfg) (E : WX) (X : Cx) (ifs : List Expr) (f : M Bool) : Prop := PTs X ifs (tT C E f)
theorem pbs_nil : PBs C E X [] (pureM true) := PTs.weak pts_nil fun σ H Q q => by
  obtain ⟨A, h, ρ, F, m⟩ := tT_eq.mp q
  exact (show kT C A h σ Q true ρ from m) h H F fun _ _ e => e
theorem pbs_one {c : Expr} {f : M Bool} (h : PB C E X c f) : PBs C E X [c] f := pts_one h
/-! ### the walk -/
def lcL (g : D → Rho → Option Rho) (t : M Bool) (e : M D) (vs : List Nat) : List D → List D → Rho → R (List D)
  | [], acc, ρ => .ok acc ρ
  | d :: r, acc, ρ => match g d (wipeR ρ vs) with
    | some ρ1 => (match t ρ1 with
      | .ok true ρ2 => (match e ρ2 with
        | .ok y ρ3 => if acc.length < 1000000 then lcL g t e vs r (acc ++ [y]) ρ3 else .bad
        | _ => .bad)
      | .ok false ρ2 => lcL g t e vs r acc ρ2
      | _ => .bad)
    | none => .bad
def endL (ρ : Rho) (vs : List Nat) : R (List D) → R Tm
  | .ok acc ρ2 => .ok (.l acc) (backR ρ vs ρ2)
  | _ => .bad
def lcX (fi : M (List D)) (g : D → Rho → Option Rho) (t : M Bool) (e : M D) (vs : List Nat) : M Tm := bindM fi fun ds ρ => endL ρ vs (lcL g t e vs ds [] ρ)
theorem wpM_no {α : Type} {A : Anc} {h : Hp} {P : α → Rho → Prop} {r : R α} (q : ∃ a ρ', r = .ok a ρ' ∧ P a ρ') : wpM C noE A h P r := by
  obtain ⟨a, ρ', e, q⟩ := q
  rw [e]
  exact q
theorem agree_wipe {ws vs : List Nat} {σ σ' : L2.St} (hs : ∀ i ∈ ws, i ∈ vs) (g : Agree ws σ σ') : L2.wipe σ' vs = L2.wipe σ vs := by
  apply List.ext_getElem?
  intro j
  by_cases m : j ∈ vs
  · rw [wipe_in m, wipe_in m, g.1]
  · rw [wipe_out m, wipe_out m]
    exact g.2 j fun z => m (hs j z)
theorem px_lc_t {fi : M (List D)} {g : D → Rho → Option Rho} {t : M Bool} {e : M D} {ws vs : List Nat} (hs : ∀ i ∈ ws, i ∈ vs) : ∀ σ H Q, tC' C E (lcX fi g t e vs) σ H Q → tLc (tI C E fi) (gT C ws g) (tT C noE t) (tX C noE e) vs σ H Q := fun σ H Q q => by
  obtain ⟨A, h, ρ, F, m⟩ := q
  refine ⟨A, h, ρ, F, wpM_imp (wpM_bind m) fun ds ρ1 m1 J h1 H1 F1 s1 hJ => fun D hD => ?_⟩
  have m1 : wpM C E A h (kC C A h σ Q) (endL ρ1 vs (lcL g t e vs ds [] ρ1)) := m1
  obtain ⟨F2, k⟩ := F1.layOwn (xs := []) (ds := []) hD .nil
  obtain ⟨a, xs, ea, k1, k2, k3, k4, k5, k6⟩ := k
  cases ea
  rw [upd_same] at k1
  cases k1
  have F3 := (F2.plus upd_same k2 k4 k5)
  -- what the walk's end is to bring
  let fin : R (List EV.D) → Prop := fun r => ∃ acc ρ2, r = .ok acc ρ2 ∧ kC C A h σ Q (.l acc) (backR ρ1 vs ρ2)
  have m2 : fin (lcL g t e vs ds [] ρ1) := by
    cases er : lcL g t e vs ds [] ρ1 with
    | ok acc ρ2 => rw [er] at m1; exact ⟨acc, ρ2, rfl, m1⟩
    | ex _ _ => rw [er] at m1; exact m1.elim
    | bad => rw [er] at m1; exact m1.elim
  refine ⟨fun i n H' => n = ds.length - i ∧ ∃ h2 ρ2 acc xs σ2, L2.wipe σ2 vs = L2.wipe σ vs ∧ Fr C { A with gh := (D, xs) :: A.gh } h2 ρ2 σ2 H' ∧ DpAll C.K h2 xs acc ∧ Same h1 h2 ∧ fin (lcL g t e vs (ds.drop i) acc ρ2), ⟨ds.length, rfl, h1, ρ1, [], [], σ, rfl, F3, .nil, fun _ _ e => e, m2⟩, ?_⟩
  rintro i n H2 ⟨rfl, h2, ρ2, acc, xs, σ2, w2, F4, d4, s2, m3⟩
  obtain ⟨j1, j2⟩ := hJ i h2 H2 s2 F4.sub
  have gD := F4.gh _ List.mem_cons_self
  by_cases hlt : i < ds.length
  · have e1 : ds[i]? = some ds[i] := List.getElem?_eq_getElem hlt
    obtain ⟨jg, jy⟩ := j1 _ e1
    have ed : ds.drop i = ds[i] :: ds.drop (i + 1) := List.drop_eq_getElem_cons hlt
    refine .inr ⟨jg, fun H' => ∃ h3 ρ3 acc xs σ3, L2.wipe σ3 vs = L2.wipe σ vs ∧ Fr C { A with gh := (D, xs) :: A.gh } h3 ρ3 σ3 H' ∧ DpAll C.K h3 xs acc ∧ Same h1 h3 ∧ fin (lcL g t e vs (ds.drop (i + 1)) acc ρ3), fun H' x => ⟨ds.length - (i + 1), by omega, rfl, x⟩, fun x H3 hy => ?_⟩
    obtain ⟨h3, e3, d3⟩ := jy x H3 hy
    rw [ed] at m3
    unfold lcL at m3
    cases eg : g ds[i] (wipeR ρ2 vs) with
    | none => rw [eg] at m3; obtain ⟨_, _, z, _⟩ := m3; cases z
    | some ρ3 =>
      rw [eg] at m3
      have F5 := (F4.extend e3).wipe (σ' := L2.wipe σ vs) vs (by rw [wipe_wipe, w2])
      refine ⟨_, h3, _, ds[i], ρ3, F5, d3, eg, fun σ3 g3 F6 => ?_⟩
      have w3 : L2.wipe σ3 vs = L2.wipe σ vs := by rw [agree_wipe hs g3, wipe_wipe]
      refine ⟨w3, ?_⟩
      · have s13 := Same.tr s2 e3.hh
        have d5 := dpAll_same e3.hh _ _ d4
        refine tT_eq.mpr ⟨_, h3, ρ3, F6, ?_⟩
        simp only at m3
        cases et : t ρ3 with
        | ex _ _ => rw [et] at m3; obtain ⟨_, _, z, _⟩ := m3; cases z
        | bad => rw [et] at m3; obtain ⟨_, _, z, _⟩ := m3; cases z
        | ok b ρ4 =>
          rw [et] at m3
          intro h5 H5 F7 s5
          cases b with
          | false =>
            exact ⟨h5, ρ4, acc, xs, σ3, w3, F7, dpAll_same s5 _ _ d5, Same.tr s13 s5, m3⟩
          | true =>
            refine tX_eq.mpr ⟨_, h5, ρ4, F7, ?_⟩
            simp only at m3
            cases ee : e ρ4 with
            | ex _ _ => rw [ee] at m3; obtain ⟨_, _, z, _⟩ := m3; cases z
            | bad => rw [ee] at m3; obtain ⟨_, _, z, _⟩ := m3; cases z
            | ok y ρ5 =>
              rw [ee] at m3
              intro v h6 H6 F8 s6 dv
              have d6 := dpAll_same (Same.tr s5 s6) _ _ d5
              simp only at m3
              by_cases hl : acc.length < 1000000
              · rw [if_pos hl] at m3
                exact ⟨xs, (F8.gh _ List.mem_cons_self).1, by rw [dpAll_len d6]; exact Nat.lt_of_lt_of_le hl big_le, h6, ρ5, acc ++ [y], xs ++ [v], σ3, w3, F8.ghWrite k6, dpAll_app d6 (.cons dv .nil), Same.tr s13 (Same.tr s5 s6), m3⟩
              · rw [if_neg hl] at m3
                obtain ⟨_, _, z, _⟩ := m3
                cases z
  · refine .inl ⟨j2 (by omega), ?_⟩
    rw [List.drop_eq_nil_of_le (by omega)] at m3
    obtain ⟨acc', ρ4, z, m4⟩ := m3
    cases z
    have F5 : Fr C A h2 (backR ρ1 vs ρ2) σ H2 := (F4.minus).reslot (by rw [backR_len, ← F4.len, ← wipe_length σ vs, ← w2, wipe_length]) fun j s e => by
      rcases backR_some e with ⟨h3, h4⟩ | ⟨x, h3, h4⟩
      · exact .inl ⟨h4, by rw [← wipe_out (σ := σ) h3, ← w2, wipe_out h3]⟩
      · obtain ⟨v, h5, h6⟩ := F1.slot j _ h4
        exact .inr ⟨x, v, h3, h5, dp_same s2 x v h6⟩
    refine m4 _ h2 H2 F5 (Same.tr s1 s2) ⟨D, xs, rfl, gD.1, gD.2.1, d4, k4, fun j o => ?_, k6⟩
    obtain ⟨⟨p, es, e5⟩, r⟩ := o
    rcases backR_some e5 with ⟨h3, h4⟩ | ⟨x, h3, _⟩
    · exact gD.2.2.2.2 j ⟨⟨p, es, h4⟩, by rw [← wipe_out (σ := σ2) h3, w2, wipe_out h3]; exact r⟩
    · cases h3
end
end EV

/-! ## An exception class of our own whose __init__ starts with super().__init__(e), its base's initialiser ValueError's -/
namespace SUP
open PySem PySem.W PySem.Calls PyProof.Rows
section
variable {prog : Program} {w : World} {A : Around} {E : Value → Shared → Prop} {h : Heap} {g : Array GenState} {d : Drawn} {t : Nat} {os : OsState}
variable {nm q : Str} {C N : Addr} {bs bm : List Value} {hdct : Bool} {sn : List Str} {sub : List Value} {ab : Bool} {col : Option Bool} {dd : Option Addr} {k0 k1 k2 k3 k5 : Option Value}
theorem call_mw {u e t0 : Addr} {rest : List Value} {Q : Value → Shared → Prop}
    (hC : h.get? C = some (excClassObj nm q C N bs bm hdct sn sub ab col dd k0 k1 k2 k3 k5 "ValueError.__new__")) (he : h.get? e = some (PySem.HandSPX.excO C t0)) (hu : h.get? u = some (kxs_mw "ValueError.__init__" e)) (hrest : rest.length ≤ sizeLine)
    (hq : ∀ h' t1, (∀ b o, b ≠ e → h.get? b = some o → h'.get? b = some o) → h'.get? e = some (PySem.HandSPX.excO C t1) → Q .none ⟨h', g, d, t, os⟩) :
    wpAny (model prog w) A (call (.ref u) rest) Q E ⟨h, g, d, t, os⟩ := by
  refine wpAny_call (codeAny_of_tree ?_)
  show wpAny _ A.in1 (callAny (.ref u) ⟨rest, []⟩) _ _ _
  simp only [callAny]
  refine wpAny_bind (wpAny_load hu ?_)
  simp only [kxs_mw, show (Value.type "method-wrapper" == Value.type "method" || Value.type "method-wrapper" == Value.type "builtin_function_or_method" || Value.type "method-wrapper" == Value.type "method-wrapper") = true by decide, if_true]
  refine PySem.W.KFB.if_so (by decide) ?_
  refine wpAny_bind (ESX.check_bound F.excBase_ValueError hC he rfl ?_)
  refine wpAny_bind (wpAny_pure (wpAny_pure ?_))
  refine ⟨Code.quiet_builtin _ (by decide +kernel), codeAny_builtin F.excBase_ValueError.initEntry ?_⟩
  rw [Around.under_plainId F.excBase_ValueError.init.plain _]
  wp_walk
  refine hq _ h.objs.size (fun b o hb ho => ?_) ?_
  · rw [Heap.get?_update_other _ _ (Ne.symm hb)]
    exact Heap.get?_push_of_some _ ho
  · rw [Heap.get?_update_self _ (Heap.get?_push_of_some _ he) rfl]
    rfl
end
end SUP
namespace L2
open PySem PySem.Spec PyProof.Rows
/-- a method that closes over __class__ -/
abbrev envS (qual : Str) (scope : Scope) (L f : Addr) (cd : Value) (cc : Addr) : Env := PySem.W.ksEnv qual scope L f cd cc
def cxS (CX : CXT) (P : Program) (w : World) (K : PySem.W.Frag) (mg : Str → Option Value) (base : Heap) (N : List Str) (qual : Str) (scope : Scope) (f : Addr) (cd : Value) (cc : Addr) (A : Around) (outer : List Env) (s : Shared) (H : Hp) (E : XK) : Cx where
  prog := P
  w := w
  K := K
  mg := mg
  base := base
  A := A.deeper (envS qual scope s.heap.objs.size f cd cc)
  N := N
  s_0 := s
  H_0 := H
  env := envS qual scope s.heap.objs.size f cd cc
  outer := outer
  stack := envS qual scope s.heap.objs.size f cd cc :: outer
  ex := []
  calm := true
  fn := fun _ => false
  pn := []
  xe := fun e s' => wpAny (model P w) (A.deeper (envS qual scope s.heap.objs.size f cd cc)) (leaving (envS qual scope s.heap.objs.size f cd cc) e) (fun _ s'' => CX outer H s E e s'') (fun e' s'' => CX outer H s E e' s'') s'
structure ScopeS (N P : List Str) (sc : Scope) : Prop where
  kind : sc.kind = .function
  co : sc.isCoroutine = false
  gen : sc.isGenerator = false
  nd : N.Nodup
  pre : N.take P.length = P
  par : ∀ x ∈ P, sc.names.lookup x = some .local
  nocell : ∀ y ∈ sc.names, y.2 ≠ .cell
  free : ∀ y ∈ sc.names, y.2 = .free → y.1 = ("__class__" : Str)
theorem rev_out {x : Str} : ∀ {P : List Str} {us : List Value}, x ∉ P → (P.zip us).reverse.lookup x = none
  | [], _, _ => rfl
  | p :: P, [], _ => rfl
  | p :: P, u :: us, h => by
    rw [List.zip_cons_cons, List.reverse_cons, List.lookup_append, rev_out fun m => h (List.mem_cons_of_mem _ m)]
    have : (x == p) = false := beq_eq_false_iff_ne.mpr fun e => h (by rw [e]; exact List.mem_cons_self)
    simp [List.lookup_cons, this]
theorem rev_get {x : Str} {v : Value} : ∀ {P : List Str} {us : List Value} {i : Nat}, P.Nodup → P[i]? = some x → us[i]? = some v → (P.zip us).reverse.lookup x = some v
  | [], _, _, _, h, _ => by simp at h
  | _ :: _, [], _, _, _, h => by simp at h
  | p :: P, u :: us, 0, nd, h1, h2 => by
    simp at h1 h2
    subst h1
    subst h2
    rw [List.zip_cons_cons, List.reverse_cons, List.lookup_append, rev_out (List.nodup_cons.mp nd).1]
    simp [List.lookup_cons]
  | p :: P, u :: us, i + 1, nd, h1, h2 => by
    rw [List.zip_cons_cons, List.reverse_cons, List.lookup_append, rev_get (i := i) (List.nodup_cons.mp nd).2 (by simpa using h1) (by simpa using h2)]
    rfl
theorem inv_startS {CX : CXT} {P : Program} {w : World} {K : PySem.W.Frag} {mg : Str → Option Value} {base : Heap} {N ps : List Str} {qual : Str} {scope : Scope} {f cc D : Addr} {cd : Value} {A : Around} {outer : List Env} {s : Shared} {H : Hp} {E : XK} {us : List Value} {vs : List V} {h1 : Heap} {tk : Nat} {cl : Value} {cld : Option Addr} {csl : Array (Option Value)}
    (S : ScopeS N ps scope) (hd : A.handled = none) (e0 : Env0 P w K mg base A outer s H) (hl : vs.length = ps.length) (r : Vals vs us) (hcell : K.lookup cc = some ⟨cl, cld, .cell (some (.ref D)), csl⟩)
    (hn : h1.Ns s.heap.objs.size (fun x => (ps.zip us).reverse.lookup x)) (hk : ∀ b o, s.heap.get? b = some o → h1.get? b = some o) :
    Inv (cxS CX P w K mg base N qual scope f cd cc A outer s H E) [] (start N vs) H { s with heap := h1, toks := tk } := by
  have hpl : ps.length ≤ N.length := by have := congrArg List.length S.pre; rw [List.length_take] at this; omega
  have noA : ∀ b : Addr, b ∉ (cxS CX P w K mg base N qual scope f cd cc A outer s H E).ex := fun b z => absurd (show b ∈ ([] : List Addr) from z) (by simp)
  have one : ∀ y c, ([(("__class__" : Str), cc)] : List (Str × Addr)).lookup y = some c → y = ("__class__" : Str) ∧ c = cc := fun y c h => by
    rw [List.lookup_cons] at h
    split at h
    · rename_i z
      cases h
      exact ⟨eq_of_beq z, rfl⟩
    · cases h
  have hcc := e0.mod.kin _ _ hcell
  refine ⟨⟨e0.mod, S.kind, rfl, rfl, Nat.le_refl _, fun y z c h1 h2 => ?_, fun y hy => ?_, fun y c z _ => (nomatch z), fun _ => hd, Around.frames_deeper e0.frames, .inr ⟨rfl, rfl⟩, fun b z => absurd z (noA b), e0.bs, e0.bsz, fun b _ _ => noA b, fun b z => absurd z (noA b), e0.funs, e0.frf⟩,
    rfl, e0.bare, Un.kept hk, ⟨_, hn, fun i y v h1 h2 h3 => ?_⟩, fun y c h => ?_, e0.hok.fresh (Nat.le_refl _), fun y c h => ?_, fun p hp => absurd (show p ∈ ([] : List (Addr × Obj)) from hp) (by simp), e0.hok.kept hk, ?_⟩
  · rw [(one y c h1).1, (one z c h2).1]
  · have hy : scope.names.lookup y = some .cell ∨ scope.names.lookup y = some .free := hy
    rcases hy with hy | hy
    · exact absurd rfl (S.nocell _ (PySem.mem_of_lookup hy))
    · have : y = ("__class__" : Str) := S.free _ (PySem.mem_of_lookup hy) rfl
      exact ⟨cc, by show List.lookup y [(("__class__" : Str), cc)] = _; rw [this]; rfl⟩
  · have hi : i < vs.length := by
      unfold start at h2
      by_cases hi : i < vs.length
      · exact hi
      · rw [List.getElem?_append_right (by simpa using hi)] at h2
        rw [List.getElem?_replicate] at h2
        split at h2 <;> cases h2
    have ha : vs[i]? = some v := by
      unfold start at h2
      rw [List.getElem?_append_left (by simpa using hi), List.getElem?_map] at h2
      cases e : vs[i]? with
      | none => rw [e] at h2; cases h2
      | some a => rw [e] at h2; cases h2; rfl
    obtain ⟨u, hu, rv⟩ := r.get ha
    have hp : ps[i]? = some y := by
      rw [← S.pre, List.getElem?_take_of_lt (by omega)]; exact h1
    have ndP : ps.Nodup := by rw [← S.pre]; exact S.nd.sublist (List.take_sublist _ _)
    exact ⟨u, rv, .inl ⟨S.par y (List.mem_of_getElem? hp), rev_get ndP hp hu⟩⟩
  · obtain ⟨_, rfl⟩ := one y c h
    exact ⟨_, _, hk _ _ (e0.bs _ _ hcc).1, rfl⟩
  · obtain ⟨_, rfl⟩ := one y c h
    exact (e0.bs _ _ hcc).2
  · unfold start
    show _ = N.length
    rw [List.length_append, List.length_map, List.length_replicate]
    omega
end L2
namespace L2
open PySem PySem.Spec PyProof.Rows
/-- what the text's table says of such a class, at C: cc the cell __class__ of its __init__, at fI -/
structure SupC (K : PySem.W.Frag) (C cc fI : Addr) (cdv : Value) (file : Str) (qual ar : Str) (fd : FuncData) : Prop where
  oex : OexC K C
  cell : ∃ cl cld csl, K.lookup cc = some ⟨cl, cld, .cell (some (.ref C)), csl⟩
  cls : ∃ cd, PySem.W.clsIn K C = some cd
  self : PySem.W.mroIn K C (.ref C) = some true
  sup : PySem.W.ks_superIn K C C "__init__" = some (some (.builtin "ValueError.__init__"))
  ve : PySem.W.subIn K (.ref C) (.type "ValueError") = some true
  thr : PySem.W.nsIn K cStatics "thirdparty.any" = some none
  code : ∃ cda ccl cdd vs ccs tf, cdv = .ref cda ∧ K.lookup cda = some ⟨ccl, cdd, .fields vs, ccs⟩ ∧ vs[2]? = some (.str file tf)
  fn : ∃ oc od osl, K.lookup fI = some ⟨oc, od, .func fd, osl⟩
  ini : PySem.W.codeIn K cdv qual = true
  par : ∃ a : Arg, (fd.params.posonlyargs ++ fd.params.args).head? = some a ∧ a.arg = ar
/-- self at the first place, as yet without a dict -/
def tSup (te : TE) (t : TS) (C : Addr) (vs : List V) : TS := fun D σ H => te σ H fun y H1 => ∃ a ws, vs = .ref a :: ws ∧ H1 a = some (exo a C none) ∧ (∃ o, H a = some o) ∧ t D σ H1
theorem fn_super {CX : CXT} {P : Program} {w : World} {K : PySem.W.Frag} {mg : Str → Option Value} {base : Heap} {k : Nat} {fI C cc : Addr} {name qual file ar : Str} {params : Arguments} {e : Expr} {rest : List Stmt} {p0 p1 p2 p3 p4 : Pos} {scope : Scope} {dV kV doc pm cdv ct : Value} {an : Option Addr} {pl : Sem Bool}
    {N ps : List Str} {sp : Sp} (T : SupC K C cc fI cdv file qual ar (PySem.W.ksFn name qual params (.Expr (.Call (.Attribute (.Call (.Name "super" p0) [] [] p1) "__init__" p2) [e] [] p3) p4 :: rest) scope dV kV doc pm an cdv ct cc)) (S : ScopeS N (ar :: ps) scope)
    (hfile : ((P.main.file : Str) == file) = true) (htop : (P.main.scope.names.lookup ("super" : Str)).isSome = false) (hms : mg "super" = none)
    (hks : scope.names.lookup ("super" : Str) = some .globalImplicit) (hkc : scope.names.lookup ("__class__" : Str) = some .free)
    (he : ∀ env : Env, eval (.Call (.Attribute (.Call (.Name "super" p0) [] [] p1) "__init__" p2) [e] [] p3) env = (do
      let ov ← attributeBase (.Call (.Name "super" p0) [] [] p1) "__init__" env (eval (.Call (.Name "super" p0) [] [] p1) env)
      standAt p2.atName
      let (f, first) ← holding [ov] (getMethod ov "__init__" pl)
      callWith p3 f first (backTo p3 (starEach [e] env)) []))
    (hst : ∀ env : Env, starEach [e] env = (false, eval e env) :: starEach [] env) (hsw : ∀ env : Env, swapsWith (.Call (.Attribute (.Call (.Name "super" p0) [] [] p1) "__init__" p2) [e] [] p3) none p4.line env = pure false)
    (len : ∀ vs H Q E, sp vs H Q E → vs.length = (ar :: ps).length)
    (hbody : ∀ (A : Around) (outer : List Env) (s : Shared) (H : Hp) (vs : List V) (Q : VK) (E : XK), Room k (A.deeper (envS qual scope s.heap.objs.size fI cdv cc)) → sp vs H Q E →
      ∃ te t, PE (cxS CX P w K mg base N qual scope fI cdv cc A outer s H E) e te ∧ PSs (cxS CX P w K mg base N qual scope fI cdv cc A outer s H E) rest t ∧
        (∃ a ws, vs = .ref a :: ws ∧ H a = some (exo a C none)) ∧ te (start N vs) H fun _ H1 => (∀ a ws, vs = .ref a :: ws → H1 a = some (exo a C none)) ∧ t { nx := fun _ H' => Q .non H', rt := Q } (start N vs) H1) :
    FnOk P w K mg base CX (k + 1) fI (PySem.W.ksFn name qual params (.Expr (.Call (.Attribute (.Call (.Name "super" p0) [] [] p1) "__init__" p2) [e] [] p3) p4 :: rest) scope dV kV doc pm an cdv ct cc) (ar :: ps) sp := by
  refine ⟨len, fun A outer s H args us vs Q E hr e0 hb r hsp => ?_⟩
  have hl := len _ _ _ _ hsp
  obtain ⟨oc, od, osl, lk⟩ := T.fn
  obtain ⟨cl, cld, csl, hcell⟩ := T.cell
  obtain ⟨cdC, hcls⟩ := T.cls
  obtain ⟨cda, ccl, cdd, fvs, ccs, tf, hcdv, hcode, hfv⟩ := T.code
  obtain ⟨ag, hag, hagn⟩ := T.par
  have KX : K.In s.heap := e0.mod.kin.keeps fun b o e => (e0.bs b o e).1
  have lim : s.heap.NoLimit := e0.mod.nolimit.keeps fun b o e => (e0.bs b o e).1
  refine codeAny_call_function hr.depth (KX _ _ lk) rfl S.co S.gen rfl (PySem.W.codeRec_of KX T.ini) (hb _ _ _ _ ?_)
  refine wpAny_newFunctionEnv S.nocell (fun ⟨n, v⟩ hy => S.par n (List.of_mem_zip hy).1) (fun h1 hn hsb => ?_) S.kind
  have hk : ∀ b o, s.heap.get? b = some o → h1.get? b = some o := fun b o e => (hsb.2 b (Nat.ne_of_lt (Heap.lt_size e))).trans (Heap.get?_push_of_some _ e)
  refine ⟨lim.keeps hk, ks_codeAny_funcAt ?_⟩
  obtain ⟨te, t, he1, ht, ⟨a, ws, hvs, ha⟩, hq⟩ := hbody A outer s H vs Q E (hr.deeper _) hsp
  subst hvs
  have I : Inv (cxS CX P w K mg base N qual scope fI cdv cc A outer s H E) [] (start N (.ref a :: ws)) H { s with heap := h1, toks := s.toks + ((ar :: ps).zip us).length } := inv_startS S hr.hd e0 hl r hcell hn hk
  cases r with
  | @cons _ u0 _ ur ra rw' =>
  obtain rfl : u0 = Value.ref a := ra
  generalize htk : s.toks + ((ar :: ps).zip (Value.ref a :: ur)).length = tk1 at I ⊢
  obtain ⟨hp, g, dr, tk, os⟩ := s
  have K1 : K.In h1 := KX.keeps hk
  obtain ⟨oC, hoC, hdC⟩ : ∃ oC, h1.get? C = some oC ∧ oC.data = .cls cdC := by
    unfold PySem.W.clsIn at hcls
    split at hcls
    · rename_i c d cd' sl ho
      cases hcls
      exact ⟨_, K1 _ _ ho, rfl⟩
    · cases hcls
  obtain ⟨t1, hao⟩ := exo_at I.hok ha
  have IA : PySem.W.InstAt h1 a _ C none := ⟨hao, rfl, rfl, trivial⟩
  obtain ⟨mb, hb1, hb2⟩ := I.mod.blt
  show _root_.PySem.wpAt (model P w) _ (.func _ (envS qual scope hp.objs.size fI cdv cc)) (execs _ (envS qual scope hp.objs.size fI cdv cc)) _ _ _
  refine ks_wpAt_execs_cons (ks_wpAt_Expr_any (ks_wpAt_MethodCall (pl := pl) ?_ (he _)) I.quiet (hsw _))
  refine ks_wpAt_super_base hks hkc rfl rfl (K1 _ _ lk) rfl hag (by rw [hcdv]) (K1 _ _ hcode) rfl hfv hfile htop ?_
  refine PySem.W.ks_loadName_global S.kind hks (PySem.Calls.loadGlobal_builtin (I.mod.glob.keeps I.bk) hms (hb1.keeps I.bk) ((hb2 _ (by decide)).trans (by decide +kernel)) ⟨rfl, ?_⟩)
  refine wpAny_loadName_free S.kind hkc rfl ⟨_, K1 _ _ hcell, rfl⟩ ?_
  have hma : (fun x => (((ar :: ps).zip (Value.ref a :: ur)).reverse.lookup x)) ag.arg = some (Value.ref a) := by
    show List.lookup ag.arg _ = _
    rw [hagn]
    exact rev_get (i := 0) (by rw [← S.pre]; exact S.nd.sublist (List.take_sublist _ _)) rfl rfl
  refine wpAny_loadName_local S.kind (show scope.names.lookup ag.arg = some .local by rw [hagn]; exact S.par _ List.mem_cons_self) hn hma ?_
  refine ks_wpAny_isType_cls hoC hdC ⟨rfl, ?_⟩
  refine ks_wpAny_call_super hoC hdC hao rfl (fun c z => nomatch z) (PySem.W.looks_mroIn K1 T.self) (fun h2 hso k2 => ?_)
  have K2 : K.In h2 := K1.keeps k2
  have IA2 : PySem.W.InstAt h2 a _ C none := ⟨k2 _ _ hao, rfl, rfl, trivial⟩
  have hsup := T.sup
  unfold PySem.W.ks_superIn at hsup
  rw [hcls, Option.bind_some] at hsup
  refine PySem.W.kxs_getMethod PySem.W.kxs_ValueError hso (PySem.W.looks_opaque K2 T.thr) (l₀ := cdC.mro) (fun A Q E s k q => wpAny_bind ((PySem.W.looks_clsIn K2 hcls) A _ E s k (wpAny_pure q))) rfl K2 hsup (IA2.type.andThen (PySem.W.looks_subIn K2 T.ve)) (PySem.W.ks_ne K2 IA2 hcls) rfl ?_
  generalize hu : h2.objs.size = u
  have k3 : ∀ b o, h1.get? b = some o → (h2.push (PySem.W.kxs_mw "ValueError.__init__" a)).get? b = some o := fun b o e => Heap.get?_push_of_some _ (k2 b o e)
  have gu : (h2.push (PySem.W.kxs_mw "ValueError.__init__" a)).get? u = some (PySem.W.kxs_mw "ValueError.__init__" a) := by rw [← hu]; exact Heap.get?_push_at rfl rfl
  have J : Inv (cxS CX P w K mg base N qual scope fI cdv cc A outer ⟨hp, g, dr, tk, os⟩ H E) [] (start N (.ref a :: ws)) H ⟨h2.push (PySem.W.kxs_mw "ValueError.__init__" a), g, dr, tk1 + 1, os⟩ := I.kept (t' := tk1 + 1) k3
  have old : ∀ b o, h1.get? b = some o → b ≠ u := fun b o e z => by
    have := Heap.lt_size (k2 b o e)
    rw [z, hu] at this
    exact Nat.lt_irrefl _ this
  have hun : h1.get? u = none := by
    cases e : h1.get? u with
    | none => rfl
    | some o => exact absurd rfl (old u o e)
  have Jp : Inv (cxS CX P w K mg base N qual scope fI cdv cc A outer ⟨hp, g, dr, tk, os⟩ H E) ([] ++ [(u, PySem.W.kxs_mw "ValueError.__init__" a)]) (start N (.ref a :: ws)) H ⟨h2.push (PySem.W.kxs_mw "ValueError.__init__" a), g, dr, tk1 + 1, os⟩ := J.pins_of fun p hpp => by
    have hpp : p ∈ [(u, PySem.W.kxs_mw "ValueError.__init__" a)] := hpp
    rw [List.mem_singleton] at hpp
    subst hpp
    refine ⟨gu, HOk.gone I.hok hun, fun z => ?_, fun hm => ?_, fun v z => nomatch z⟩
    · obtain ⟨oL, _, _, hoL, _⟩ := hn
      exact old _ _ hoL (show hp.objs.size = u from (show u = _ from z).symm)
    · obtain ⟨_, o, ho, _⟩ := I.ok.funs.mem hm
      exact old _ _ (hk _ _ ho) rfl
  rw [hst]
  refine PySem.W.kxs_callWith (i := "ValueError.__init__") (x := a) rfl (PySem.Calls.evalArgs_plain ?_)
  have hA := (pa_cons he1 pa_nil (hst _)).run p3 _ _ (start N (.ref a :: ws)) H (fun vs' H1 => match vs' with
    | [_] => (∀ a1 ws1, V.ref a :: ws = .ref a1 :: ws1 → H1 a1 = some (exo a1 C none)) ∧ t { nx := fun _ H' => Q .non H', rt := Q } (start N (.ref a :: ws)) H1
    | _ => False) Jp hq
  rw [hst] at hA
  refine thn hA fun us2 s3 ⟨vs2, H3, I3, r3, hx0⟩ => ?_
  obtain ⟨y, rfl, hx1, hx2⟩ : ∃ y, vs2 = [y] ∧ (∀ a1 ws1, V.ref a :: ws = .ref a1 :: ws1 → H3 a1 = some (exo a1 C none)) ∧ t { nx := fun _ H' => Q .non H', rt := Q } (start N (.ref a :: ws)) H3 := by
    match vs2, hx0 with
    | [y], h => exact ⟨y, rfl, h⟩
  have i3 := hx1 a ws rfl
  obtain ⟨nm, q, Nn, bs, bm, sn, sub, ab, col, dd, k0, k1, k2', k3', k5, hC, hbm⟩ := T.oex.cls
  obtain ⟨t3, ho3⟩ := exo_at I3.hok i3
  have gu3 := (I3.pin (u, PySem.W.kxs_mw "ValueError.__init__" a) (List.mem_append_right _ (List.mem_append_right _ List.mem_cons_self))).1
  refine ⟨gu3, ?_⟩
  obtain ⟨hp3, g3, d3, tk3, os3⟩ := s3
  refine SUP.call_mw (I3.kIn _ _ hC) ho3 gu3 (by show us2.length ≤ sizeLine; rw [← r3.length]; show 1 ≤ sizeLine; decide) fun h' t2 k hx => ?_
  have J3 := I3.write (t' := tk3) (x := a) (e := a) (o := exo a C none) (by rw [i3]; exact True.intro) (.inl rfl) k ⟨_, hx⟩ (exo_ok hx)
  have eu : upd H3 a (exo a C none) = H3 := by
    funext b
    by_cases hb : b = a
    · rw [hb, upd_same, i3]
    · rw [upd_ne hb]
  rw [eu] at J3
  show _root_.PySem.wpAt _ _ _ _ _ _ _
  refine _root_.PySem.wpAt_of_wpAny (wpAny_mono (ht.run [] _ _ H3 _ (J3.unpinned (pins := [])) hx2) (fun fl s' hs => ?_) fun e s' hs => hs)
  have fin : ∀ {σ' : St} {H' : Hp} {v : V} {u : Value}, Inv (cxS CX P w K mg base N qual scope fI cdv cc A outer ⟨hp, g, dr, tk, os⟩ H E) [] σ' H' s' → RelV v u → Q v H' → CE outer P w H ⟨hp, g, dr, tk, os⟩ Q u s' :=
    fun {σ' H' v u} J rv q => ⟨v, H', J.os, J.bare, J.base, J.hok, rv, q⟩
  cases fl with
  | ret u =>
    obtain ⟨v, σ', H', J, rv, q⟩ := hs
    exact fin J rv q
  | next =>
    obtain ⟨σ', H', J, q⟩ := hs
    exact fin (v := V.non) (u := Value.none) J rfl q
  | brk =>
    obtain ⟨_, _, _, q⟩ := hs
    exact False.elim q
  | cont =>
    obtain ⟨_, _, _, q⟩ := hs
    exact False.elim q
end L2

/-! # EV 10: list comprehensions as rules, f-strings, raise -/
namespace EV
open PySem PySem.Spec PyProof.Rows L2 Ver
section
variable {C : Cfg} {E : WX} {X : Cx} {pos : Pos}
/-- what is never reached -/
theorem ss_bad {st : Stmt} : SS C E X st (fun _ => .bad) := ⟨fun _ _ _ _ _ _ q => by obtain ⟨_, _, _, _, m⟩ := q; exact m.elim⟩
theorem sss_bad {st : List Stmt} : SSs C E X st (fun _ => .bad) := ⟨fun _ _ _ _ _ _ q => by obtain ⟨_, _, _, _, m⟩ := q; exact m.elim⟩
def badM {α : Type} : M α := fun _ => .bad
theorem px_bad {e : Expr} : PX C E X e badM := ⟨fun _ _ _ _ _ _ q => by obtain ⟨_, _, _, _, m⟩ := q; exact m.elim⟩
theorem pc_lc {elt tg iter : Expr} {ifs : List Expr} {scope : Scope} {own : List (Str × Nat)} {fi : M (List D)} {g : D → Rho → Option Rho} {t : M Bool} {e : M D} {ws : List Nat} (hc : X.calm = true) (hN : X.N.Nodup) (hi : PIx C E X tg iter fi) (ok : BlkOk X.N X.env.scope scope own) (hws : ∀ i ∈ ws, i ∈ own.map (·.2))
    (hg : ∀ (s : Shared) (H : Hp) (Ca : Addr) (cl : List (Str × Addr)) (fp : List Addr), PG (X.blk s H scope (compEnvC scope cl Ca X.env) fp) tg (gT C ws g)) (ht : ∀ (s : Shared) (H : Hp) (Ca : Addr) (cl : List (Str × Addr)) (fp : List Addr), PBs C noE (X.blk s H scope (compEnvC scope cl Ca X.env) fp) ifs t)
    (he : ∀ (s : Shared) (H : Hp) (Ca : Addr) (cl : List (Str × Addr)) (fp : List Addr), PX C noE (X.blk s H scope (compEnvC scope cl Ca X.env) fp) elt e) (hs : ∀ x, foldedSetIterable iter X.env x = pure x := by intro _; rfl) :
    PC' C E X (.ListComp elt [⟨tg, iter, ifs, 0⟩] scope pos) (lcX fi g t e (own.map (·.2))) :=
  PE.weak (pe_lc hc hN hi ok hg ht he hs) (px_lc_t hws)
theorem ss_setLc {i : Nat} {y : Str} {py spos : Pos} {elt tg iter : Expr} {ifs : List Expr} {scope : Scope} {own : List (Str × Nat)} {fi : M (List D)} {g : D → Rho → Option Rho} {t : M Bool} {e : M D} {ws : List Nat} (hc : X.calm = true) (hN : X.N.Nodup) (hy : X.N[i]? = some y) (hyl : X.env.scope.names.lookup y = some .local)
    (hsw : swapsWith (.ListComp elt [⟨tg, iter, ifs, 0⟩] scope pos) (some (.Name y py)) spos.line X.env = pure true) (hi : PIx C E X tg iter fi) (ok : BlkOk X.N X.env.scope scope own) (hws : ∀ i ∈ ws, i ∈ own.map (·.2))
    (hg : ∀ (s : Shared) (H : Hp) (Ca : Addr) (cl : List (Str × Addr)) (fp : List Addr), PG (X.blk s H scope (compEnvC scope cl Ca X.env) fp) tg (gT C ws g)) (ht : ∀ (s : Shared) (H : Hp) (Ca : Addr) (cl : List (Str × Addr)) (fp : List Addr), PBs C noE (X.blk s H scope (compEnvC scope cl Ca X.env) fp) ifs t)
    (he : ∀ (s : Shared) (H : Hp) (Ca : Addr) (cl : List (Str × Addr)) (fp : List Addr), PX C noE (X.blk s H scope (compEnvC scope cl Ca X.env) fp) elt e) (hs : ∀ x, foldedSetIterable iter X.env x = pure x := by intro _; rfl) :
    SS C E X (.Assign [.Name y py] (.ListComp elt [⟨tg, iter, ifs, 0⟩] scope pos) spos) (setS i (lcX fi g t e (own.map (·.2)))) :=
  PS.weak (ps_setLc hc hN hy hyl hsw hi ok hg ht he hs) fun D σ H q => by
    obtain ⟨A, h, ρ, F, m⟩ := q
    refine px_lc_t hws _ _ _ ⟨A, h, ρ, F, wpM_imp (wpS_on m) fun t ρ1 m1 v h1 H1 F1 s1 k => ?_⟩
    exact put_ok F1 s1 k m1
/-! ### f-strings -/
def fmtD : D → Option Str
  | .str y => if y.length ≤ 100000 then some y else none
  | .int i => if i.natAbs.log2 < 1920 then some (toString i) else none
  | _ => none
def fmtM (r : Ref) : M D := fun ρ => match rd ρ r with
  | some d => (match fmtD d with
    | some y => .ok (.str y) ρ
    | none => .bad)
  | none => .bad
def fmtX (f : M Ref) : M D := bindM f fmtM
theorem px_fmt {e : Expr} {f : M Ref} (he : PO C E X e f) : PX C E X (.FormattedValue e (-1) none pos) (fmtX f) := PE.weak (pe_fmt he) fun σ H Q q => by
  obtain ⟨A, h, ρ, F, m⟩ := tX_eq.mp q
  refine tO_eq.mpr ⟨A, h, ρ, F, wpM_imp (wpM_bind m) fun r ρ1 m1 v h1 H1 F1 s1 q1 => ?_⟩
  unfold fmtM at m1
  cases e1 : rd ρ1 r with
  | none => rw [e1] at m1; exact m1.elim
  | some d =>
    rw [e1] at m1
    have vw := F1.view q1 e1
    simp only at m1
    cases e2 : fmtD d with
    | none => rw [e2] at m1; exact m1.elim
    | some y =>
      rw [e2] at m1
      have fin := (show kX C A h σ Q (.str y) ρ1 from m1) _ h1 H1 F1 s1 (.str y)
      unfold fmtD at e2
      split at e2
      · split at e2
        · rename_i z hl
          cases e2
          cases vw.str
          exact .inl ⟨y, rfl, Nat.le_trans hl (Nat.le_trans (by decide) big_le), fin⟩
        · cases e2
      · split at e2
        · rename_i i hl
          cases e2
          cases vw.int
          exact .inr ⟨i, rfl, hl, fin⟩
        · cases e2
      · cases e2
inductive PJs (C : Cfg) (E : WX) (X : Cx) : List Expr → List (M D) → Prop where
  | nil : PJs C E X [] []
  | cons {e : Expr} {f : M D} {es : List Expr} {fs : List (M D)} (h : PX C E X e f) (r : PJs C E X es fs) : PJs C E X (e :: es) (f :: fs)
theorem PJs.pj {es : List Expr} {fs : List (M D)} (h : PJs C E X es fs) : PJ X es (fs.map (tX C E)) := by
  induction h with
  | nil => exact .nil
  | cons h _ ih => exact .cons h ih
def strD : D → Option Str
  | .str y => some y
  | _ => none
def jsM : List (M D) → Str → M D
  | [], acc => pureM (.str acc)
  | f :: fs, acc => bindM f fun d => bindM (liftM (strD d)) fun y => if (acc ++ y).length ≤ 1000000 then jsM fs (acc ++ y) else badM
theorem js_t : ∀ (fs : List (M D)) (acc : Str) (σ : L2.St) (H : Hp) (Q : VK), tX C E (jsM fs acc) σ H Q → tJs (fs.map (tX C E)) acc σ H fun out H1 => Q (.str out) H1
  | [], acc, σ, H, Q, q => by
    obtain ⟨A, h, ρ, F, m⟩ := tX_eq.mp q
    exact (show kX C A h σ Q (.str acc) ρ from m) _ h H F (fun _ _ e => e) (.str acc)
  | f :: fs, acc, σ, H, Q, q => by
    obtain ⟨A, h, ρ, F, m⟩ := tX_eq.mp q
    refine tX_eq.mpr ⟨A, h, ρ, F, wpM_imp (wpM_bind m) fun d ρ1 m1 v h1 H1 F1 s1 q1 => ?_⟩
    obtain ⟨y, e, m2⟩ := wpM_lift (wpM_bind m1)
    have : d = .str y := by cases d <;> cases e; rfl
    subst this
    cases q1
    by_cases hl : (acc ++ y).length ≤ 1000000
    · rw [if_pos hl] at m2
      exact ⟨y, rfl, Nat.le_trans hl big_le, js_t fs (acc ++ y) σ H1 Q (tX_eq.mpr ⟨A, h1, ρ1, F1, wpM_h s1 m2 fun _ _ k => kX_mono s1 k⟩)⟩
    · rw [if_neg hl] at m2
      exact m2.elim
theorem px_joined {v1 v2 : Expr} {rest : List Expr} {fs : List (M D)} (h : PJs C E X (v1 :: v2 :: rest) fs) : PX C E X (.JoinedStr (v1 :: v2 :: rest) pos) (jsM fs Str.empty) :=
  PE.weak (pe_joined h.pj) fun σ H Q q => js_t fs Str.empty σ H Q q
theorem px_joined1 {e : Expr} {f : M D} (h : PX C E X e f) : PX C E X (.JoinedStr [e] pos) f := pe_joined1 h
/-! ### exceptions made -/
def tK (C : Cfg) (E : WX) (f : M Exc) : L2.St → Hp → XK → Prop := fun σ H Q => ∃ A h ρ, Fr C A h ρ σ H ∧ wpM C E A h (fun x ρ' => ∀ cls dd h' H', Fr C A h' ρ' σ H' → Same h h' → ExcOk C A.H0 h' H' x cls dd → Q cls dd H') (f ρ)
abbrev PK (C : Cfg) (E : WX) (X : Cx) (e : Expr) (f : M Exc) : Prop := PMk X e (tK C E f)
theorem PMk.weak {e : Expr} {t u : L2.St → Hp → XK → Prop} (h : PMk X e t) (k : ∀ σ H Q, u σ H Q → t σ H Q) : PMk X e u := fun pins s σ H Q I q => h pins s σ H Q I (k σ H Q q)
def raiseS (f : M Exc) : Rho → Out := onM f fun x ρ => .ex x ρ
theorem ss_raise {e : Expr} {f : M Exc} (hc : X.calm = true) (tk : Takes X E) (he : PK C E X e f) : SS C E X (.Raise (some e) none pos) (raiseS f) := PS.weak (ps_raise hc tk he) fun D σ H q => by
  obtain ⟨A, h, ρ, F, m⟩ := q
  exact ⟨A, h, ρ, F, wpM_imp (wpS_on m) fun x ρ1 m1 cls dd h1 H1 F1 s1 k => (show Thrown C E A h x ρ1 from m1) cls dd σ h1 H1 F1 s1 k⟩
/-- a class without an own __init__ -/
def own1X (x : Str) (f : M Ref) : M Exc := bindM f fun _ => pureM ⟨x, []⟩
theorem pk_own1 {Ca : Addr} {bmB : List Value} {B newId initId : String} {x : Str} {e : Expr} {f : M Ref} {p : Pos} (F : ExcBaseFacts B newId initId bmB) (q : PySem.W.excIn X.K Ca bmB newId = true) (gC : X.mg x = some (.ref Ca)) (hmg : C.mg x = some (.ref Ca)) (kC : PySem.W.keepIn X.K (.ref Ca) = true) (r : Raises X (.ref Ca)) (hg : Gl X x)
    (he : PO C E X e f) (hs : starEach [e] X.env = (false, eval e X.env) :: starEach [] X.env := by rfl) (hdb : (x == ("__debug__" : Str)) = false := by decide) : PK C E X (.Call (.Name x p) [e] [] pos) (own1X x f) :=
  PMk.weak (SkE.pmk_own1 F q gC kC r hg he hs hdb) fun σ H Q q => by
    obtain ⟨A, h, ρ, F, m⟩ := q
    exact tO_eq.mpr ⟨A, h, ρ, F, wpM_imp (wpM_bind m) fun r ρ1 m1 v h1 H1 F1 s1 q1 => (show ∀ cls dd h' H', Fr C A h' ρ1 σ H' → Same h h' → ExcOk C A.H0 h' H' ⟨x, []⟩ cls dd → Q cls dd H' from m1) _ _ h1 H1 F1 s1 ⟨Ca, hmg, rfl, .inl ⟨rfl, rfl⟩⟩⟩
end
end EV

/-! # EV 11: exceptions with fields: made, caught -/
namespace EV
open PySem PySem.Spec PyProof.Rows L2 Ver
section
variable {C : Cfg} {A : Anc} {h : Hp} {ρ : Rho} {σ : L2.St} {H : Hp}
/-- a new thing that is nobody's -/
theorem Fr.lay0 (F : Fr C A h ρ σ H) {p : Addr} {o : HO} (n : H p = none) : Fr C A h ρ σ (upd H p o) := by
  have sm := same_upd n o
  have n0 : A.H0 p = none := by
    cases e : A.H0 p with
    | none => rfl
    | some o => exact absurd n (F.al p (ne_some e))
  refine ⟨fun b o e => sm b o (F.sub b o e), F.ext, F.new, fun b o e m1 m2 => sm b o (F.keep b o e m1 m2), fun b m z => ?_, F.len, fun P hP => ⟨tabG_same (F.tabs P hP).1 sm, (F.tabs P hP).2⟩, fun i s e => ?_, F.dist, fun g hg => ?_⟩
  · by_cases y : b = p
    · subst y; exact m n0
    · rw [upd_ne y] at z; exact F.al b m z
  · obtain ⟨v, e1, e2⟩ := F.slot i s e
    refine ⟨v, e1, ?_⟩
    cases s with
    | d x => exact e2
    | x _ _ _ => exact e2
    | l pn es =>
      obtain ⟨a, ys, k0, k1, k2⟩ := e2
      exact ⟨a, ys, k0, sm _ _ k1, k2⟩
  · obtain ⟨k1, k2⟩ := F.gh g hg
    exact ⟨sm _ _ k1, k2⟩
/-- an exception's dict is among what stays -/
theorem Fr.adopt (F : Fr C A h ρ σ H) {p : Addr} {fs : List (Str × V)} (e : H p = some (.xd fs)) (n : h p = none) (n0 : A.H0 p = none) : Fr C A (upd h p (.xd fs)) ρ σ H := by
  have sm := same_upd n (.xd fs)
  refine ⟨fun b o k => ?_, fun b o k => sm b o (F.ext b o k), fun b k m => ?_, F.keep, F.al, F.len, fun P hP => ?_, fun i s k => ?_, F.dist, fun g hg => ?_⟩
  · by_cases z : b = p
    · subst z; rw [upd_same] at k; rw [e]; exact k
    · rw [upd_ne z] at k; exact F.sub b o k
  · rw [upd_ne fun z => m (by rw [z]; exact n0)]
    exact F.new b k m
  · obtain ⟨k1, k2⟩ := F.tabs P hP
    refine ⟨k1, ?_⟩
    rw [upd_ne ?_]
    · exact k2
    · rintro rfl
      obtain ⟨ps, k3, _⟩ := k1
      rw [e] at k3; cases k3
  · obtain ⟨w, k1, k2⟩ := F.slot i s k
    refine ⟨w, k1, ?_⟩
    cases s with
    | d x => exact dp_same sm x w k2
    | x _ _ _ => exact ⟨k2.1, k2.2.mono sm⟩
    | l q es =>
      obtain ⟨b, ys, rfl, m1, m2, m3, m4⟩ := k2
      refine ⟨b, ys, rfl, m1, ?_, dpAll_same sm es ys m3, m4⟩
      rw [upd_ne fun y => by rw [y, e] at m1; cases m1]
      exact m2
  · obtain ⟨k1, k2, k3, k4, k5⟩ := F.gh g hg
    refine ⟨k1, ?_, k3, k4, k5⟩
    rw [upd_ne fun y => by rw [y, e] at k1; cases k1]
    exact k2
end
theorem dpAll_rev {K : PySem.W.Frag} {H : Hp} : ∀ {xs : List V} {ds : List D}, DpAll K H xs ds → DpAll K H xs.reverse ds.reverse
  | _, _, .nil => .nil
  | _, _, .cons h t => by
    rw [List.reverse_cons, List.reverse_cons]
    exact dpAll_app (dpAll_rev t) (.cons h .nil)
/-- what an own __init__ may put into its text -/
def fitD : D → Bool
  | .str y => decide (y.length ≤ 1000)
  | .int i => decide (0 ≤ i) && decide (i < 1000)
  | _ => false
def FitV (v : V) : Prop := (∃ y : Str, v = .str y ∧ y.length ≤ 1000) ∨ ∃ i : Int, v = .int i ∧ 0 ≤ i ∧ i < 1000
/-- THE PROMISE of an own __init__ that stores its arguments -/
def spIni (Ca : Addr) (names : List Str) : Sp := fun vs H Q _ => ∃ a ws, vs = .ref a :: ws ∧ ws.length = names.length ∧ (∀ v ∈ ws, FitV v) ∧ H a = some (exo a Ca none) ∧
  ∀ d H', H d = none → H' a = some (exo a Ca (some d)) → H' d = some (exd d (names.reverse.zip ws.reverse)) → (∀ b, b ≠ a → b ≠ d → H' b = H b) → Q .non H'
section
variable {C : Cfg} {E : WX} {X : Cx} {pos : Pos}
def iniM (x : Str) (names : List Str) (ds : List D) : M Exc := fun ρ => if ds.length = names.length ∧ ds.length ≤ 100 ∧ ds.all fitD = true then .ok ⟨x, names.reverse.zip ds.reverse⟩ ρ else .bad
def iniX (x : Str) (names : List Str) (f : M (List D)) : M Exc := bindM f (iniM x names)
theorem fit_all {K : PySem.W.Frag} {h : Hp} : ∀ {xs : List V} {ds : List D}, DpAll K h xs ds → ds.all fitD = true → ∀ v ∈ xs, FitV v
  | _, _, .nil, _, _, hv => by cases hv
  | x :: xs, d :: ds, .cons a t, e, v, hv => by
    rw [List.all_cons, Bool.and_eq_true] at e
    rcases List.mem_cons.mp hv with z | z
    · subst z
      have e1 := e.1
      unfold fitD at e1
      split at e1
      · cases a
        exact .inl ⟨_, rfl, of_decide_eq_true e1⟩
      · cases a
        rw [Bool.and_eq_true] at e1
        exact .inr ⟨_, rfl, of_decide_eq_true e1.1, of_decide_eq_true e1.2⟩
      · cases e1
    · exact fit_all t e.2 v z
theorem pk_ini {x : Str} {Ca fI : Addr} {k : Nat} {fd : FuncData} {ps names : List Str} {e : Expr} {es : List Expr} {p : Pos} {f : M (List D)} (T : OexC X.K Ca) (iC : PySem.W.findIn X.K (.ref Ca) "__init__" = some (some (.ref fI))) (tI : PySem.W.typeIn X.K (.ref fI) = some (.type "function"))
    (F1 : FnOk X.prog X.w X.K X.mg X.base (L2.CX X.prog X.w) k fI fd ps (spIni Ca names)) (hr : Room (k + 1) X.A) (hb : Binds X.K fd ps []) (hg : Gl X x) (hm : X.mg x = some (.ref Ca)) (hmg : C.mg x = some (.ref Ca)) (ha : PAX C E X (e :: es) f)
    (hdb : (x == ("__debug__" : Str)) = false := by decide) (he : starEach (e :: es) X.env = (false, eval e X.env) :: starEach es X.env := by rfl) (hpl : (backTo pos (starEach es X.env)).any (·.1) = false := by rfl) :
    PK C E X (.Call (.Name x p) (e :: es) [] pos) (iniX x names f) :=
  PMk.weak (pmk_oex T iC tI F1 hr hb .nil (fun _ _ _ _ _ _ _ ⟨_, _, _, _, _, _, _, _, _, _, _, _, z⟩ => z.elim) hg hm ha hdb he hpl) fun σ H Q q => by
    obtain ⟨A, h, ρ, F, m⟩ := q
    refine ⟨A, h, ρ, F, wpM_imp (wpM_bind m) fun ds ρ1 m1 xs h1 H1 F1 s1 q1 => ?_⟩
    unfold iniM at m1
    by_cases hc : ds.length = names.length ∧ ds.length ≤ 100 ∧ ds.all fitD = true
    · rw [if_pos hc] at m1
      have l := dpAll_len q1
      refine ⟨by omega, fun a na => ?_⟩
      rw [List.append_nil]
      refine ⟨a, xs, rfl, by omega, fit_all q1 hc.2.2, upd_same, fun d H' nd e1 e2 e3 => ⟨rfl, d, _, e1, e2, ?_, ?_⟩⟩
      · have hda : d ≠ a := fun z => by rw [z, upd_same] at nd; cases nd
        rw [upd_ne hda] at nd
        exact nd
      · have hda : d ≠ a := fun z => by rw [z, upd_same] at nd; cases nd
        rw [upd_ne hda] at nd
        have eH : upd (del H' a) d (.xd (names.reverse.zip xs.reverse)) = upd H1 d (.xd (names.reverse.zip xs.reverse)) := by
          funext b
          by_cases z : b = d
          · subst z; rw [upd_same, upd_same]
          · rw [upd_ne z, upd_ne z]
            by_cases y : b = a
            · subst y; rw [del_same, na]
            · rw [del_ne y, e3 b y z, upd_ne y]
        rw [eH]
        refine (show ∀ cls dd h' H', Fr C A h' ρ1 σ H' → Same h h' → ExcOk C A.H0 h' H' ⟨x, names.reverse.zip ds.reverse⟩ cls dd → Q cls dd H' from m1) _ _ h1 _ (F1.lay0 nd) s1 ⟨Ca, hmg, rfl, .inr ⟨d, xs.reverse, rfl, ?_, none_of F1.sub nd, ?_, ?_⟩⟩
        · cases q : A.H0 d with
          | none => rfl
          | some o => exact absurd nd (F1.al d (ne_some q))
        · rw [upd_same, List.map_fst_zip (by rw [List.length_reverse, List.length_reverse]; omega)]
        · rw [List.map_snd_zip (by rw [List.length_reverse, List.length_reverse]; omega)]
          exact dpAll_rev q1
    · rw [if_neg hc] at m1
      exact m1.elim
end
end EV

/-! ## try with several clauses, each with or without a name -/
namespace L2
open PySem PySem.Spec PyProof.Rows
abbrev Suite := Addr → Value → Option Addr → TS
/-- the suite's ends: the clause's name goes -/
def Ends.gone (D : Ends) (i : Nat) : Ends := { nx := fun σ' H' => D.nx (σ'.set i none) H', rt := D.rt, bk := fun σ' H' => D.bk (σ'.set i none) H', ct := fun σ' H' => D.ct (σ'.set i none) H' }
def suiteAt (D : Ends) (a : Addr) (cls : Value) (d : Option Addr) (σ : St) (H : Hp) : Option Nat → Suite → Prop
  | none, ts => ts a cls d D σ H
  | some i, ts => ts a cls d (D.gone i) (σ.set i (some (.ref a))) H
def wAll (K : PySem.W.Frag) (Wout : WX) (D : Ends) : List (Value × Option Nat × Suite) → WX
  | [] => Wout
  | (c, oi, ts) :: r => fun cls d σ H => ∃ b, PySem.W.exmOne K cls c = some b ∧ (b = true → ∀ a, H a = none → suiteAt D a cls d σ H oi ts) ∧ (b = false → wAll K Wout D r cls d σ H)
abbrev SuiteOk (X : Cx) (st : List Stmt) (ts : Suite) : Prop := ∀ (a : Addr) (oe : Obj) (cls : Value) (d : Option Addr) (pn : List (Addr × Obj)), Zc cls d oe → (∃ vs, oe.data = .fields vs) → PSs (X.suite a ((a, oe) :: pn)) st (ts a cls d)
inductive HdsA (X : Cx) : List ExceptHandler → List (Value × Option Nat × Suite) → Prop
  | nil : HdsA X [] []
  | only {x : Str} {c : Value} {ts : Suite} {b₀ : Stmt} {suite : List Stmt} {np p : Pos} {hds : List ExceptHandler} {l : List (Value × Option Nat × Suite)} (hc : Names X x c) (hsu : SuiteOk X (b₀ :: suite) ts) (r : HdsA X hds l) :
      HdsA X (.ExceptHandler (some (.Name x np)) none (b₀ :: suite) p :: hds) ((c, none, ts) :: l)
  | named {x n : Str} {c : Value} {i : Nat} {ts : Suite} {b₀ : Stmt} {suite : List Stmt} {np p : Pos} {hds : List ExceptHandler} {l : List (Value × Option Nat × Suite)} (hi : X.N[i]? = some n) (hln : X.env.kindOf n = some .local) (hc : Names X x c) (hsu : SuiteOk X (b₀ :: suite) ts) (r : HdsA X hds l) :
      HdsA X (.ExceptHandler (some (.Name x np)) (some n) (b₀ :: suite) p :: hds) ((c, some i, ts) :: l)
section
variable {X : Cx} {body : List Stmt} {h₀ : ExceptHandler} {hds : List ExceptHandler} {l : List (Value × Option Nat × Suite)} {pos : Pos} {tb : WX → TS} {Wout : WX}
/-- a clause's class is read -/
theorem names_eval {x : Str} {c : Value} {np : Pos} {a : Addr} {pn : List (Addr × Obj)} {σ : St} {H : Hp} {s : Shared} {Q : Value → Shared → Prop} {E : Value → Shared → Prop} (hc : Names X x c) (S : Inv (X.suite a pn) [] σ H s) (q : Q c s) :
    wpAny (model X.prog X.w) (X.A.mark (some (.ref a))) (eval (.Name x np) X.env) Q E s := by
  obtain ⟨hg, hdbg, hm | ⟨hm, hv, hnn⟩⟩ := hc
  · exact ld_glob (X := X.suite a pn) S hg hm q hdbg
  · exact ld_blt (X := X.suite a pn) S hg hm hv q hnn hdbg
/-- a suite's end, its name gone or none -/
theorem suite_end {D : Ends} {a : Addr} {q : Addr × Obj} {pins : List (Addr × Obj)} {f : Flow} {s : Shared} (ok : X.Ok) (h : SP (X.suite a (q :: (X.pn ++ pins))) [] D f s) : SP X pins D f s := by
  cases f with
  | next => obtain ⟨σ, H, S, z⟩ := h; exact ⟨_, _, S.unsuite ok, z⟩
  | brk => obtain ⟨σ, H, S, z⟩ := h; exact ⟨_, _, S.unsuite ok, z⟩
  | cont => obtain ⟨σ, H, S, z⟩ := h; exact ⟨_, _, S.unsuite ok, z⟩
  | ret u => obtain ⟨v, σ, H, S, r, z⟩ := h; exact ⟨_, _, _, S.unsuite ok, r, z⟩
theorem suite_gone {D : Ends} {a : Addr} {i : Nat} {n : Str} {p : Pos} {q : Addr × Obj} {pins : List (Addr × Obj)} {f : Flow} {s : Shared} (ok : X.Ok) (hN : X.N.Nodup) (hi : X.N[i]? = some n) (hln : X.env.kindOf n = some .local)
    (h : SP (X.suite a (q :: (X.pn ++ pins))) [] (D.gone i) f s) : wpAny (model X.prog X.w) X.A (do bindName X.env n .none; unbindBehindTheSuite X.env n p) (fun _ s7 => SP X pins D f s7) X.xe s := by
  cases f with
  | next => obtain ⟨σ, H, S, z⟩ := h; exact gone_ok (S.unsuite ok) hN hi hln fun s7 J => ⟨_, _, J, z⟩
  | brk => obtain ⟨σ, H, S, z⟩ := h; exact gone_ok (S.unsuite ok) hN hi hln fun s7 J => ⟨_, _, J, z⟩
  | cont => obtain ⟨σ, H, S, z⟩ := h; exact gone_ok (S.unsuite ok) hN hi hln fun s7 J => ⟨_, _, J, z⟩
  | ret u => obtain ⟨v, σ, H, S, r, z⟩ := h; exact gone_ok (S.unsuite ok) hN hi hln fun s7 J => ⟨_, _, _, J, r, z⟩
theorem ps_try_all (hs : X.stack = X.env :: X.outer) (hf : X.env.frame = some X.env.locals) (hN : X.N.Nodup) (tk : Takes X Wout)
    (hb : ∀ (W : WX) (pn : List (Addr × Obj)) (xe : Value → Shared → Prop), Takes (X.tr pn xe) W → PassesOwn (model X.prog X.w) X.A X.env xe → PSs (X.tr pn xe) body (tb W))
    (hh : HdsA X (h₀ :: hds) l) : PS X (.Try body (h₀ :: hds) [] [] pos) (fun D σ H => tb (wAll X.K Wout D l) D σ H) := by
  refine ⟨fun pins s σ H D I h => ?_⟩
  have ok := I.ok
  refine wpAny_Try_except (wpAny_mono ((hb (wAll X.K Wout D l) (X.pn ++ pins) (fun e s₁ => wpAny (model X.prog X.w) X.A (noteFrame e X.env) (fun _ s₂ => wpAny (model X.prog X.w) X.A (setFlight e none) (fun _ s₃ =>
    wpAny (model X.prog X.w) X.A (handleBy e X.env (h₀ :: hds)) (SP X pins D) X.xe s₃) X.xe s₂) X.xe s₁) (fun u s' xx => ?_) PassesOwn.looking).run [] s σ H D (I.toTry _) h) (fun f s1 hsp => ?_) (fun e s1 he => he))
  · obtain ⟨a, B, sI, pins', σ', H', cls, d, rfl, J', nb, up, sky, na, os, ag, w⟩ := xx
    have J : Inv X pins σ' H' sI := J'.ofTry ok
    refine Sky.land Zc.steady (show X.A.frames = some (X.env :: X.outer) by rw [ok.frames, hs]) hf (show Sky B (X.env :: X.outer) a (Zc cls d) X.env.locals s'.heap by rw [← hs]; exact sky) fun h3 fl3 up3 => ?_
    have J3 : Inv X pins σ' H' { s' with heap := h3 } := J.landed nb fl3.1 (up.trans up3) os ag
    obtain ⟨oe3, vs3, he3, hz3, hd3⟩ := fl3.there
    have nfr : a ∉ frs (X.env :: X.outer) := fun hm => by
      obtain ⟨_, o', e', hnf⟩ := fl3.2.2.1.mem hm
      rw [he3] at e'
      cases e'
      exact hnf _ hd3
    have nL : a ≠ X.env.locals := fun z => nfr (List.mem_filterMap.mpr ⟨X.env, List.mem_cons_self, by rw [hf, z]⟩)
    have nF : a ∉ X.fs := fun hm => by
      obtain ⟨e, he, q⟩ := List.mem_filterMap.mp hm
      exact nfr (List.mem_filterMap.mpr ⟨e, List.mem_cons_of_mem _ he, q⟩)
    have S3 := J3.suite he3 hd3 na nL nF
    have LT : PySem.W.Looks (model X.prog X.w) h3 (typeOf (.ref a)) cls := fun A Q E s k q => wpAny_typeOf_ref (k _ _ he3) (by rw [hz3.1]; exact q)
    have go : ∀ {hds' : List ExceptHandler} {l' : List (Value × Option Nat × Suite)}, HdsA X hds' l' → wAll X.K Wout D l' cls d σ' H' → wpAny (model X.prog X.w) X.A (handleBy (.ref a) X.env hds') (SP X pins D) X.xe { s' with heap := h3 } := by
      intro hds' l' hk
      induction hk with
      | nil =>
        intro w
        refine wpAny_handleBy_nil ?_
        obtain ⟨_, _, _, oe, vs, T, _, _, he, _, hd, h1, _⟩ := id fl3
        unfold PySem.passOn
        refine wpAny_bind (wpAny_field he hd h1 ?_)
        rw [if_neg (show ¬ ((Value.ref T == Value.none) = true) from by simp)]
        have fin : wpAny (model X.prog X.w) X.A (setFlight (.ref a) X.env.frame) (fun _ s4 => wpAny (model X.prog X.w) X.A (throw (.ref a) : Sem Flow) (SP X pins D) X.xe s4) X.xe { s' with heap := h3 } := by
          rw [hf]
          exact HandSPX.setFlight_upZ fl3 fun h4 hh4 up4 => wpAny_throw (tk _ _ ⟨a, B, sI, pins, σ', H', cls, d, rfl, J, nb, (up.trans up3).trans up4, .inr (.inr (by rw [hs]; exact hh4)), na, os, ag, w⟩)
        first
          | exact wpAny_bind (wpAny_pure (wpAny_bind fin))
          | exact wpAny_bind fin
      | only hc hsu r ih =>
        rintro ⟨b, hb1, hyes, hno⟩
        refine wpAny_handleBy_cons (codeAny_handlers_test ?_) (by intro q; cases q)
        refine names_eval hc S3 ((PySem.W.exm_one (M := model X.prog X.w) J3.kIn LT hb1).here ?_)
        cases b with
        | false => exact ih (hno rfl)
        | true =>
          refine codeAny_handlers_suite (HandSPX.lands_againZ fl3 fun h4 fl4 up4 => ?_)
          obtain ⟨oe4, vs4, he4, hz4, hd4⟩ := fl4.there
          have S4 := (J.landed nb fl4.1 ((up.trans up3).trans up4) os ag : Inv X pins σ' H' { s' with heap := h4 }).suite he4 hd4 na nL nF
          exact wpAny_mono ((hsu a oe4 cls d (X.pn ++ pins) hz4 ⟨_, hd4⟩).run [] _ _ H' _ S4 (hyes rfl a na)) (fun f s6 hsp => suite_end ok hsp) (fun _ _ z => False.elim z)
      | named hi hln hc hsu r ih =>
        rintro ⟨b, hb1, hyes, hno⟩
        refine wpAny_handleBy_cons (codeAny_handlers_test ?_) (by intro q; cases q)
        refine names_eval hc S3 ((PySem.W.exm_one (M := model X.prog X.w) J3.kIn LT hb1).here ?_)
        cases b with
        | false => exact ih (hno rfl)
        | true =>
          refine codeAny_handlers_suite_as (HandSPX.lands_againZ fl3 fun h4 fl4 up4 => ?_)
          obtain ⟨oe4, vs4, he4, hz4, hd4⟩ := fl4.there
          have S4 := (J.landed nb fl4.1 ((up.trans up3).trans up4) os ag : Inv X pins σ' H' { s' with heap := h4 }).suite he4 hd4 na nL nF
          refine store_ok (X := X.suite a ((a, oe4) :: (X.pn ++ pins))) (v := .ref a) S4 hN hi (.inl hln) rfl (fun s5 S5 => ?_) (.inr hln)
          exact wpAny_mono ((hsu a oe4 cls d (X.pn ++ pins) hz4 ⟨_, hd4⟩).run [] s5 _ H' _ S5 (hyes rfl a na)) (fun f s6 hsp => suite_gone ok hN hi hln hsp) (fun _ _ z => False.elim z)
    exact go hh w
  · cases f with
    | next => obtain ⟨σ', H', J', q⟩ := hsp; exact wpAny_execs_nil ⟨σ', H', J'.ofTry ok, q⟩
    | brk => obtain ⟨σ', H', J', q⟩ := hsp; exact ⟨σ', H', J'.ofTry ok, q⟩
    | cont => obtain ⟨σ', H', J', q⟩ := hsp; exact ⟨σ', H', J'.ofTry ok, q⟩
    | ret u => obtain ⟨v, σ', H', J', r, q⟩ := hsp; exact ⟨v, σ', H', J'.ofTry ok, r, q⟩
end
end L2

/-! # EV 12: try -/
namespace EV
open PySem PySem.Spec PyProof.Rows L2 Ver
/-- a clause: c the class that it names, Ca that of what it catches here; fs its suite, g what that comes to -/
structure Hd where
  c : Value
  slot : Option Nat
  Ca : Addr
  fs : Addr → Option Addr → Rho → Out
  test : Str → Option Bool
  g : Exc → Rho → Out
def mapO (k : Rho → Rho) : Out → Out
  | .nx ρ => .nx (k ρ)
  | .ret t ρ => .ret t (k ρ)
  | .brk ρ => .brk (k ρ)
  | .ct ρ => .ct (k ρ)
  | .ex e ρ => .ex e (k ρ)
  | .bad => .bad
def noEx : Out → Out
  | .ex _ _ => .bad
  | o => o
/-- the suite, from what was caught -/
def suiteO (slot : Option Nat) (fs : Addr → Option Addr → Rho → Out) (e : Exc) (a : Addr) (d : Option Addr) (ρ : Rho) : Out := match slot with
  | none => fs a d ρ
  | some i => if i < ρ.length then mapO (fun ρ => ρ.set i none) (fs a d (ρ.set i (some (.x e a d)))) else .bad
/-- .. which must not speak of where it lies -/
abbrev gO (slot : Option Nat) (fs : Addr → Option Addr → Rho → Out) : Exc → Rho → Out := fun e ρ => suiteO slot fs e 0 none ρ
structure HdOk (C : Cfg) (K : PySem.W.Frag) (h : Hd) : Prop where
  test : ∀ n Cn b, C.mg n = some (.ref Cn) → h.test n = some b → PySem.W.exmOne K (.ref Cn) h.c = some b ∧ (b = true → Cn = h.Ca)
  run : ∀ e a d ρ, suiteO h.slot h.fs e a d ρ = h.g e ρ
abbrev Cl := (Str → Option Bool) × (Exc → Rho → Out)
def pick : List Cl → Exc → Rho → Out
  | [], e, ρ => .ex e ρ
  | h :: r, e, ρ => match h.1 e.cls with
    | some true => noEx (h.2 e ρ)
    | some false => pick r e ρ
    | none => .bad
def catchS (L : List Cl) : Out → Out
  | .ex e ρ => pick L e ρ
  | o => o
def tryS (L : List Cl) (fb : Rho → Out) : Rho → Out := fun ρ => catchS L (fb ρ)
inductive TestsOk (C : Cfg) (K : PySem.W.Frag) (c : Value) (Ca : Addr) : List (Str × Bool) → Prop
  | nil : TestsOk C K c Ca []
  | yes {x : Str} {L : List (Str × Bool)} (g : C.mg x = some (.ref Ca)) (m : PySem.W.exmOne K (.ref Ca) c = some true) (r : TestsOk C K c Ca L) : TestsOk C K c Ca ((x, true) :: L)
  | no {x : Str} {Cn : Addr} {L : List (Str × Bool)} (g : C.mg x = some (.ref Cn)) (m : PySem.W.exmOne K (.ref Cn) c = some false) (r : TestsOk C K c Ca L) : TestsOk C K c Ca ((x, false) :: L)
theorem TestsOk.ok {C : Cfg} {K : PySem.W.Frag} {c : Value} {Ca : Addr} {L : List (Str × Bool)} (h : TestsOk C K c Ca L) : ∀ n Cn b, C.mg n = some (.ref Cn) → L.lookup n = some b → PySem.W.exmOne K (.ref Cn) c = some b ∧ (b = true → Cn = Ca) := by
  induction h with
  | nil => intro n Cn b _ e; cases e
  | @yes x L g m r ih =>
    intro n Cn b hm e
    rw [List.lookup_cons] at e
    split at e
    · rename_i z
      cases e
      rw [eq_of_beq z, g] at hm
      cases hm
      exact ⟨m, fun _ => rfl⟩
    · exact ih n Cn b hm e
  | @no x Cn' L g m r ih =>
    intro n Cn b hm e
    rw [List.lookup_cons] at e
    split at e
    · rename_i z
      cases e
      rw [eq_of_beq z, g] at hm
      cases hm
      exact ⟨m, fun z => nomatch z⟩
    · exact ih n Cn b hm e
def tSu (C : Cfg) (h : Hd) : Suite := fun a cls d D σ H => cls = .ref h.Ca ∧ tS C noE (h.fs a d) D σ H
section
variable {C : Cfg} {A : Anc} {h : Hp} {ρ : Rho} {σ : L2.St} {H : Hp}
theorem Fr.setX (F : Fr C A h ρ σ H) {i : Nat} {e : Exc} {a : Addr} {d : Option Addr} (hi : i < ρ.length) (k : FldOk C h e d) : Fr C A h (ρ.set i (some (.x e a d))) (σ.set i (some (.ref a))) H := by
  have hi2 : i < σ.length := by rw [F.len]; exact hi
  have own : ∀ j b, OwnAt (ρ.set i (some (.x e a d))) (σ.set i (some (.ref a))) j b → OwnAt ρ σ j b := fun j b ⟨⟨p, ds, z⟩, r⟩ => by
    by_cases y : j = i
    · subst y
      rw [List.getElem?_set_self hi] at z
      cases z
    · rw [List.getElem?_set_ne (Ne.symm y)] at z r
      exact ⟨⟨p, ds, z⟩, r⟩
  refine ⟨F.sub, F.ext, F.new, F.keep, F.al, by rw [List.length_set, List.length_set]; exact F.len, F.tabs, fun j s z => ?_, fun j l b q1 q2 => F.dist j l b (own _ _ q1) (own _ _ q2), fun p hp => ?_⟩
  · by_cases y : j = i
    · subst y
      rw [List.getElem?_set_self hi] at z
      cases z
      exact ⟨.ref a, List.getElem?_set_self hi2, rfl, k⟩
    · rw [List.getElem?_set_ne (Ne.symm y)] at z
      rw [List.getElem?_set_ne (Ne.symm y)]
      exact F.slot j s z
  · obtain ⟨k1, k2, k3, k4, k5⟩ := F.gh p hp
    exact ⟨k1, k2, k3, k4, fun j q => k5 j (own _ _ q)⟩
theorem Fr.gone (F : Fr C A h ρ σ H) (i : Nat) : Fr C A h (ρ.set i none) (σ.set i none) H :=
  F.reslot (by rw [List.length_set, List.length_set]; exact F.len) fun j s z => by
    rcases set_some z with ⟨_, y⟩ | ⟨n, y⟩
    · cases y
    · exact .inl ⟨y, List.getElem?_set_ne (Ne.symm n)⟩
theorem TmOk.clear {v : V} {t : Tm} {i : Nat} (k : TmOk C A h ρ σ H v t) : TmOk C A h (ρ.set i none) σ H v t := by
  cases t with
  | d x => exact k
  | l ds =>
    obtain ⟨a, xs, k1, k2, k3, k4, k5, k6, k7⟩ := k
    exact ⟨a, xs, k1, k2, k3, k4, k5, fun j o => k6 j (ownAt_clear o).2, k7⟩
end
section
variable {C : Cfg} {E : WX} {X : Cx} {pos : Pos}
theorem wpS_noEx {A : Anc} {h : Hp} {D : Ends} {o : Out} (m : wpS C E A h D (noEx o)) : wpS C noE A h D o := by
  cases o with
  | ex _ _ => exact m.elim
  | nx _ => exact m
  | brk _ => exact m
  | ct _ => exact m
  | ret _ _ => exact m
  | bad => exact m
theorem wpS_gone {A : Anc} {h : Hp} {D : Ends} {o : Out} {i : Nat} (m : wpS C noE A h D (mapO (fun ρ => ρ.set i none) o)) : wpS C noE A h (D.gone i) o := by
  cases o with
  | ex e ρ => exact fun cls dd σ' h' H' F' s' hx => m cls dd (σ'.set i none) h' H' (F'.gone i) s' hx
  | nx ρ => exact fun σ' h' H' F' s' => m _ h' H' (F'.gone i) s'
  | brk ρ => exact fun σ' h' H' F' s' => m _ h' H' (F'.gone i) s'
  | ct ρ => exact fun σ' h' H' F' s' => m _ h' H' (F'.gone i) s'
  | ret t ρ => exact fun v σ' h' H' F' s' k => m v σ' h' H' (F'.clear i) s' k.clear
  | bad => exact m
theorem pick_ok {A : Anc} {h : Hp} {D : Ends} {K : PySem.W.Frag} {e : Exc} {ρ' : Rho} {cls : Value} {dd : Option Addr} {σ' : L2.St} {h' H' : Hp} (F' : Fr C A h' ρ' σ' H') (s' : Same h h') (hx : ExcOk C A.H0 h' H' e cls dd) :
    ∀ {L : List Hd}, (∀ z ∈ L, HdOk C K z) → wpS C E A h D (pick (L.map fun z => (z.test, z.g)) e ρ') → wAll K E D (L.map fun z => (z.c, z.slot, tSu C z)) cls dd σ' H'
  | [], _, m => (show Thrown C E A h e ρ' from m) cls dd σ' h' H' F' s' hx
  | z :: r, ok, m => by
    obtain ⟨Cn, g1, g2, g3⟩ := hx
    have oz := ok z List.mem_cons_self
    have m : wpS C E A h D (match z.test e.cls with
      | some true => noEx (z.g e ρ')
      | some false => pick (r.map fun z => (z.test, z.g)) e ρ'
      | none => .bad) := m
    cases et : z.test e.cls with
    | none => rw [et] at m; exact m.elim
    | some b =>
      obtain ⟨t1, t2⟩ := oz.test _ _ _ g1 et
      rw [et] at m
      refine ⟨b, by rw [g2]; exact t1, fun eb a na => ?_, fun eb => ?_⟩
      · subst eb
        -- the exception's dict stays
        obtain ⟨h2, F2, s2, k2⟩ : ∃ h2, Fr C A h2 ρ' σ' H' ∧ Same h' h2 ∧ FldOk C h2 e dd := by
          rcases g3 with ⟨e1, e2⟩ | ⟨a0, vs, e1, e2, e3, e4, e5⟩
          · exact ⟨h', F', fun _ _ q => q, .inl ⟨e1, e2⟩⟩
          · have sm := same_upd e3 (.xd ((e.fs.map (·.1)).zip vs))
            exact ⟨_, F'.adopt e4 e3 e2, sm, .inr ⟨a0, vs, e1, upd_same, dpAll_same sm _ _ e5⟩⟩
        have m := wpS_h (Same.tr s' s2) (wpS_noEx (show wpS C E A h D (noEx (z.g e ρ')) from m))
        rw [← oz.run e a dd ρ'] at m
        unfold suiteO at m
        cases es : z.slot with
        | none =>
          rw [es] at m
          exact ⟨by rw [g2, t2 rfl], A, h2, ρ', F2, m⟩
        | some i =>
          rw [es] at m
          simp only at m
          by_cases hi : i < ρ'.length
          · rw [if_pos hi] at m
            exact ⟨by rw [g2, t2 rfl], A, h2, _, F2.setX hi k2, wpS_gone m⟩
          · rw [if_neg hi] at m
            exact m.elim
      · subst eb
        exact pick_ok F' s' ⟨Cn, g1, g2, g3⟩ (fun y hy => ok y (List.mem_cons_of_mem _ hy)) m
theorem ss_try {body : List Stmt} {h₀ : ExceptHandler} {hds : List ExceptHandler} {fb : Rho → Out} {L : List Hd} (hs : X.stack = X.env :: X.outer) (hf : X.env.frame = some X.env.locals) (hN : X.N.Nodup) (tk : Takes X E)
    (hb : ∀ (W : WX) (pn : List (Addr × Obj)) (xe : Value → Shared → Prop), Takes (X.tr pn xe) W → PassesOwn (model X.prog X.w) X.A X.env xe → SSs C W (X.tr pn xe) body fb)
    (hh : HdsA X (h₀ :: hds) (L.map fun z => (z.c, z.slot, tSu C z))) (ok : ∀ z ∈ L, HdOk C X.K z) : SS C E X (.Try body (h₀ :: hds) [] [] pos) (tryS (L.map fun z => (z.test, z.g)) fb) :=
  PS.weak (ps_try_all (tb := fun W => tS C W fb) hs hf hN tk hb hh) fun D σ H q => by
    obtain ⟨A, h, ρ, F, m⟩ := q
    refine ⟨A, h, ρ, F, ?_⟩
    have m : wpS C E A h D (catchS (L.map fun z => (z.test, z.g)) (fb ρ)) := m
    cases e : fb ρ with
    | nx ρ1 => rw [e] at m; exact m
    | brk ρ1 => rw [e] at m; exact m
    | ct ρ1 => rw [e] at m; exact m
    | ret t ρ1 => rw [e] at m; exact m
    | bad => rw [e] at m; exact m
    | ex x ρ1 =>
      rw [e] at m
      exact fun cls dd σ' h' H' F' s' hx => pick_ok F' s' hx ok m
/-- a suite's statements, by the class that it caught -/
theorem suite_ok {z : Hd} {st : List Stmt} (hs : ∀ (a : Addr) (oe : Obj) (d : Option Addr) (pn : List (Addr × Obj)), Zc (.ref z.Ca) d oe → (∃ vs, oe.data = .fields vs) → SSs C noE (X.suite a ((a, oe) :: pn)) st (z.fs a d)) : SuiteOk X st (tSu C z) := fun a oe cls d pn hz hv =>
  ⟨fun pins s σ H D I ⟨e, q⟩ => by
    subst e
    exact (hs a oe d pn hz hv).run pins s σ H D I q⟩
/-- why.f -/
def fldM (a : Addr) (d : Option Addr) (i : Nat) (n : Str) : M D := fun ρ => match ρ[i]? with
  | some (some (.x e a' d')) => if a' = a ∧ d' = d then liftM (e.fs.lookup n) ρ else .bad
  | _ => .bad
theorem zip_lookup {K : PySem.W.Frag} {h : Hp} {n : Str} : ∀ {fs : List (Str × EV.D)} {vs : List V} {d : EV.D}, DpAll K h vs (fs.map (·.2)) → fs.lookup n = some d → ∃ v, ((fs.map (·.1)).zip vs).lookup n = some v ∧ Dp K h v d
  | [], _, _, _, e => by cases e
  | (m, y) :: fs, _, d, .cons a t, e => by
    rw [List.lookup_cons] at e
    rw [List.map_cons, List.zip_cons_cons, List.lookup_cons]
    split at e
    · rename_i z
      cases e
      rw [z]
      exact ⟨_, rfl, a⟩
    · rename_i z
      rw [z]
      exact zip_lookup t e
theorem px_fld {a Ca : Addr} {oe : Obj} {d : Option Addr} {pn : List (Addr × Obj)} {x n : Str} {i : Nat} {p : Pos} (T : XfC X.K Ca) (hno : PySem.W.findIn X.K (.ref Ca) n = some none) (hz : Zc (.ref Ca) d oe) (hv : ∃ vs, oe.data = .fields vs)
    (he : PE (X.suite a ((a, oe) :: pn)) (.Name x p) (tVar i)) (hb : attributeBase (.Name x p) n X.env (eval (.Name x p) X.env) = eval (.Name x p) X.env := by rfl) : PX C E (X.suite a ((a, oe) :: pn)) (.Attribute (.Name x p) n pos) (fldM a d i n) :=
  PE.weak (pe_xf T hno hz hv he hb) fun σ H Q q => by
    obtain ⟨A, h, ρ, F, m⟩ := tX_eq.mp q
    unfold fldM at m
    split at m
    · rename_i e a' d' es
      obtain ⟨v, e1, e2, e3⟩ := F.slot i _ es
      by_cases hc : a' = a ∧ d' = d
      · rw [if_pos hc] at m
        obtain ⟨y, el, m⟩ := wpM_lift m
        subst e2
        rw [hc.1] at e1
        rcases e3 with ⟨k1, k2⟩ | ⟨dd, vs, k1, k2, k3⟩
        · rw [k1] at el; cases el
        · obtain ⟨w, w1, w2⟩ := zip_lookup k3 el
          exact ⟨.ref a, e1, rfl, rfl, dd, _, w, by rw [← hc.2]; exact k1, F.sub _ _ k2, w1, (show kX C A h σ Q y ρ from m) w h H F (fun _ _ z => z) w2⟩
      · rw [if_neg hc] at m
        exact m.elim
    · exact m.elim
end
end EV

/-! # EV 13: +=, list(..), tuple(..), what the texts' terms take -/
namespace EV
open PySem PySem.Spec PyProof.Rows L2 Ver
structure Blt (mg : Str → Option Value) : Prop where
  len : mg "len" = none
  int : mg "int" = none
  range : mg "range" = none
  isi : mg "isinstance" = none
  enum : mg "enumerate" = none
  list : mg "list" = none
  tuple : mg "tuple" = none
  bool : mg "bool" = none
  str : mg "str" = none
structure Cal (K : PySem.W.Frag) (mg : Str → Option Value) (x : Str) (f : Addr) (fd : FuncData) (ps : List Str) : Prop where
  m : mg x = some (.ref f)
  k : PySem.W.keepIn K (.ref f) = true
  b : Binds K fd ps []
section
variable {C : Cfg} {E : WX} {X : Cx} {pos : Pos}
def iaddD : D → D → Option D
  | .int i, .int j => some (.int (i + j))
  | .str x, .str y => if x.length + y.length ≤ 1000000 then some (.str (x ++ y)) else none
  | _, _ => none
def rIAdd : R2 := fun x y H Q => rI0 (fun i j => .int (i + j)) x y H Q ∨ ∃ i j, x = .str i ∧ y = .str j ∧ i.length + j.length ≤ sizeLine ∧ Q (.str (i ++ j)) H
theorem op_iadd : OpR X (inplaceOp .Add) rIAdd := OpR.or iop_add iop_add_str
theorem od_iadd : OpD C rIAdd iaddD := fun h H x y p q d Q s k1 k2 e k => by
  unfold iaddD at e
  split at e
  · cases e
    exact .inl ⟨_, _, k1.int, k2.int, k _ h H (Ext.refl s) (.int _)⟩
  · split at e
    · rename_i hl
      cases e
      exact .inr ⟨_, _, k1.str, k2.str, Nat.le_trans hl big_le, k _ h H (Ext.refl s) (.str _)⟩
    · cases e
  · cases e
/-- list(a list or a tuple): a list of one's own -/
def seqOf : D → Option (List D)
  | .list ds => some ds
  | .tuple ds => some ds
  | _ => none
def lstM (r : Ref) : M Tm := fun ρ => match rd ρ r with
  | some d => (match seqOf d with
    | some ds => .ok (.l ds) ρ
    | none => .bad)
  | none => .bad
def lstOf (f : M Ref) : M Tm := bindM f lstM
theorem pc_list {e : Expr} {f : M Ref} {p : Pos} (hK : C.K = X.K) (hg : Gl X "list") (hm : X.mg "list" = none) (he : PO C E X e f) (h1 : starEach [e] X.env = (false, eval e X.env) :: starEach [] X.env := by rfl) (hpl : (backTo pos (starEach [] X.env)).any (·.1) = false := by rfl) :
    PC' C E X (.Call (.Name "list" p) [e] [] pos) (lstOf f) :=
  PE.weak (pe_callTy call_list_of hg hm (by decide +kernel) (pa_cons he pa_nil h1) (by decide) (by decide) h1 hpl) fun σ H Q q => by
    obtain ⟨A, h, ρ, F, m⟩ := q
    refine tO_eq.mpr ⟨A, h, ρ, F, wpM_imp (wpM_bind m) fun r ρ1 m1 v h1 H1 F1 s1 q1 => ?_⟩
    unfold lstM at m1
    cases e1 : rd ρ1 r with
    | none => rw [e1] at m1; exact m1.elim
    | some d =>
      rw [e1] at m1
      simp only at m1
      cases e2 : seqOf d with
      | none => rw [e2] at m1; exact m1.elim
      | some ds =>
        rw [e2] at m1
        have vw := F1.view q1 e1
        obtain ⟨a, xs, rfl, k1, k2⟩ : ∃ a xs, v = .ref a ∧ (SqL X.K H1 a xs ∨ SqT X.K H1 a xs) ∧ DpAll C.K h1 xs ds := by
          rw [← hK]
          unfold seqOf at e2
          split at e2
          · cases e2
            obtain ⟨a, xs, z, k1, k2⟩ := vw.list F1.sub
            exact ⟨a, xs, z, .inl k1, k2⟩
          · cases e2
            obtain ⟨a, xs, z, k1, k2⟩ := vw.tuple F1.sub
            exact ⟨a, xs, z, .inr k1, k2⟩
          · cases e2
        refine ⟨a, xs, rfl, k1, fun l hl => ?_⟩
        obtain ⟨F2, t2⟩ := F1.layOwn hl k2
        exact (show kC C A h σ Q (.l ds) ρ1 from m1) _ _ _ F2 s1 t2
/-- tuple(a list or a tuple) -/
def tupM (r : Ref) : M D := fun ρ => match rd ρ r with
  | some d => (match seqOf d with
    | some ds => .ok (.tuple ds) ρ
    | none => .bad)
  | none => .bad
def tupOf (f : M Ref) : M D := bindM f tupM
theorem px_tuple {e : Expr} {f : M Ref} {p : Pos} (hK : C.K = X.K) (hg : Gl X "tuple") (hm : X.mg "tuple" = none) (he : PO C E X e f) (h1 : starEach [e] X.env = (false, eval e X.env) :: starEach [] X.env := by rfl) (hpl : (backTo pos (starEach [] X.env)).any (·.1) = false := by rfl) :
    PX C E X (.Call (.Name "tuple" p) [e] [] pos) (tupOf f) :=
  PE.weak (pe_callTy call_tuple_of hg hm (by decide +kernel) (pa_cons he pa_nil h1) (by decide) (by decide) h1 hpl) fun σ H Q q => by
    obtain ⟨A, h, ρ, F, m⟩ := tX_eq.mp q
    refine tO_eq.mpr ⟨A, h, ρ, F, wpM_imp (wpM_bind m) fun r ρ1 m1 v h1 H1 F1 s1 q1 => ?_⟩
    unfold tupM at m1
    cases e1 : rd ρ1 r with
    | none => rw [e1] at m1; exact m1.elim
    | some d =>
      rw [e1] at m1
      simp only at m1
      cases e2 : seqOf d with
      | none => rw [e2] at m1; exact m1.elim
      | some ds =>
        rw [e2] at m1
        have vw := F1.view q1 e1
        unfold seqOf at e2
        split at e2
        · cases e2
          obtain ⟨a, xs, rfl, k1, k2⟩ := vw.list F1.sub
          refine ⟨a, xs, rfl, .inl ⟨hK ▸ k1, fun l hl => ?_⟩⟩
          have ex := Ext.lay F1.sub hl (.tup xs)
          exact (show kX C A h σ Q (.tuple ds) ρ1 from m1) _ _ _ (F1.extend ex) (Same.tr s1 ex.hh) (.tup (SqT.of upd_same) (dpAll_same ex.hh _ _ k2))
        · cases e2
          obtain ⟨a, xs, rfl, k1, k2⟩ := vw.tuple F1.sub
          refine ⟨a, xs, rfl, .inr ⟨hK ▸ k1, ?_⟩⟩
          rcases q1v : vw with q | ⟨_, _, _, _, z, _⟩
          · exact (show kX C A h σ Q (.tuple ds) ρ1 from m1) _ h1 H1 F1 s1 q
          · cases z
        · cases e2
end
end EV

/-! # EV 14: what the printed terms take -/
namespace EV
open PySem PySem.Spec PyProof.Rows L2 Ver
theorem hu65 {k : Nat} {A : Around} (hr : Room k A) : A.units + 65 < cLine := by have := hr.un; omega
theorem fnok_bad {P : Program} {w : World} {C : Cfg} {base : Heap} {k n : Nat} {f : Addr} {fd : FuncData} {ps : List Str} : FnOk P w C.K C.mg base (L2.CX P w) k f fd ps (spF C n fun _ => .bad) :=
  ⟨fun vs H Q E h => by obtain ⟨_, _, _, _, _, _, _, z⟩ := h; exact z.elim, fun A outer s H args us vs Q E _ _ _ _ h => by obtain ⟨_, _, _, _, _, _, _, z⟩ := h; exact z.elim⟩
end EV
namespace EV
open PySem PySem.Spec PyProof.Rows L2 Ver
section
variable {C : Cfg} {X : Cx}
theorem op_isNotAny : OpR X (compareOp .IsNot) (fun x y H Q => ∃ b, y = .bl b ∧ ((∃ a, x = .bl a) ∨ ∃ a, x = .ref a) ∧ Q (.bl (!isB b x)) H) := by
  intro pins s σ H x y v u Q I rx ry h
  obtain ⟨b, rfl, hx, q⟩ := h
  cases (show u = Value.bool b from ry)
  rcases hx with ⟨a, rfl⟩ | ⟨a, rfl⟩
  · cases (show v = Value.bool a from rx)
    by_cases e : a = b
    · subst e
      refine wpAny_isNot_self rfl ⟨.bl false, H, I, rfl, ?_⟩
      have z : isB a (.bl a) = true := decide_eq_true rfl
      rw [z] at q
      exact q
    · refine wpAny_isNot_other rfl (fun z => e (Value.bool.inj z)) ⟨.bl true, H, I, rfl, ?_⟩
      have z : isB b (.bl a) = false := decide_eq_false e
      rw [z] at q
      exact q
  · cases (show v = Value.ref a from rx)
    exact wpAny_isNot_other rfl (fun z => nomatch z) ⟨.bl true, H, I, rfl, q⟩
def rIsNotA : R2 := fun x y H Q => (y = .non ∧ Q (.bl (!decide (x = .non))) H) ∨ ∃ b, y = .bl b ∧ ((∃ a, x = .bl a) ∨ ∃ a, x = .ref a) ∧ Q (.bl (!isB b x)) H
theorem op_isNotA : OpR X (compareOp .IsNot) rIsNotA := OpR.or op_notN op_isNotAny
def isNotD (a b : D) : Option D := match isD a b with
  | some (.bool c) => some (.bool (!c))
  | _ => none
theorem od_isNot : OpD C rIsNotA isNotD := fun h H x y p q d Q s k1 k2 e k => by
  unfold isNotD at e
  cases ei : isD p q with
  | none => rw [ei] at e; cases e
  | some z =>
    rw [ei] at e
    cases z with
    | bool c =>
      cases e
      have := od_is (C := C) h H x y p q (.bool c) (fun v _ => v = .bl c) s k1 k2 ei fun v h' H' _ q => dp_bool q
      rcases this with ⟨e1, e2⟩ | ⟨b, e1, e2, e3⟩
      · refine .inl ⟨e1, ?_⟩
        have e2 : V.bl (decide (x = .non)) = .bl c := e2
        rw [V.bl.inj e2]
        exact k _ h H (Ext.refl s) (.bl _)
      · refine .inr ⟨b, e1, e2, ?_⟩
        have e3 : V.bl (isB b x) = .bl c := e3
        rw [V.bl.inj e3]
        exact k _ h H (Ext.refl s) (.bl _)
    | _ => cases e
end
end EV

/-! # EV 15: isinstance of what was caught; classes, in bundles -/
namespace EV
open PySem PySem.Spec PyProof.Rows L2 Ver
section
variable {C : Cfg} {E : WX} {X : Cx} {pos : Pos}
def rIsE2 (K : PySem.W.Frag) (D a : Addr) (d : Option Addr) : List V → Hp → VK → Prop := fun xs H Q => ∃ (c : V) (cv : Value) (b : Bool), xs = [.ref a, c] ∧ (∀ u, RelV c u → u = cv) ∧ PySem.W.kitOne K (.ref D) cv = some b ∧ (d = none ∨ ∃ dd fs, d = some dd ∧ H dd = some (.xd fs)) ∧ Q (.bl b) H
theorem call_isE2 {a D : Addr} {d : Option Addr} {oe : Obj} {pn : List (Addr × Obj)} (T : ExcC X.K D) (hz : Zc (.ref D) d oe) (hf : ∃ vs, oe.data = .fields vs) : CallR (X.suite a ((a, oe) :: pn)) (.builtin "isinstance") (rIsE2 X.K D a d) := by
  intro pins s σ H xs us Q I r h
  obtain ⟨c, cv, b, rfl, hcv, e, hd, q⟩ := h
  cases r with
  | cons rx rr =>
    cases rr with
    | cons rt rr =>
      cases rr
      cases rx
      have ec := hcv _ rt
      subst ec
      obtain ⟨hget, _⟩ := I.pin (a, oe) (List.mem_append.mpr (.inl List.mem_cons_self))
      obtain ⟨vs, hv⟩ := hf
      have hcl : (PySem.W.clsIn X.K D).isSome = true := by
        obtain ⟨cd, hc, _⟩ := PySem.W.any_some T.hd
        rw [hc]
        rfl
      obtain ⟨od, J⟩ : ∃ od, PySem.W.InstAt s.heap a oe D od := by
        obtain ⟨oc, odd, oda, osl⟩ := oe
        obtain ⟨h1, h2⟩ := hz
        dsimp only at h1 h2 hv
        subst h1 h2 hv
        rcases hd with rfl | ⟨dd, fs, rfl, hx⟩
        · exact ⟨none, hget, rfl, rfl, trivial⟩
        · obtain ⟨o, ho⟩ := objOk_get (I.hok dd _ hx)
          exact ⟨some o, hget, rfl, rfl, ho⟩
      exact PySem.W.kia_one (PySem.W.kitx_exc hcl T.hg T.hk T.hs T.ha T.hn T.ht T.hm) I.kIn J e (fun z => nomatch z) fun tk => ⟨.bl b, H, I.kept (t' := tk) fun _ _ z => z, rfl, q⟩
/-- isinstance(why, C) -/
def isEM (a : Addr) (d : Option Addr) (i : Nat) (b : Bool) : M D := fun ρ => match ρ[i]? with
  | some (some (.x _ a' d')) => if a' = a ∧ d' = d then .ok (.bool b) ρ else .bad
  | _ => .bad
theorem px_isE {a Ca Cb : Addr} {oe : Obj} {d : Option Addr} {pn : List (Addr × Obj)} {x y : Str} {i : Nat} {b : Bool} {p p1 p2 : Pos} (T : ExcC X.K Ca) (kit : PySem.W.kitOne X.K (.ref Ca) (.ref Cb) = some b) (hz : Zc (.ref Ca) d oe) (hv : ∃ vs, oe.data = .fields vs)
    (hg : Gl (X.suite a ((a, oe) :: pn)) "isinstance") (hm : X.mg "isinstance" = none) (he : PE (X.suite a ((a, oe) :: pn)) (.Name x p1) (tVar i)) (hgy : Gl (X.suite a ((a, oe) :: pn)) y) (hmy : X.mg y = some (.ref Cb))
    (hdb : (y == ("__debug__" : Str)) = false := by decide)
    (h1 : starEach [.Name x p1, .Name y p2] X.env = (false, eval (.Name x p1) X.env) :: starEach [.Name y p2] X.env := by rfl) (h2 : starEach [.Name y p2] X.env = (false, eval (.Name y p2) X.env) :: starEach [] X.env := by rfl) (hpl : (backTo pos (starEach [.Name y p2] X.env)).any (·.1) = false := by rfl) :
    PX C E (X.suite a ((a, oe) :: pn)) (.Call (.Name "isinstance" p) [.Name x p1, .Name y p2] [] pos) (isEM a d i b) :=
  PE.weak (pe_callB (call_isE2 T hz hv) hg hm (by decide +kernel) (pa_cons he (pa_cons (pe_glob (v := .ref Cb) hgy hmy rfl hdb) pa_nil h2) h1) (by decide) (by decide) h1 hpl) fun σ H Q q => by
    obtain ⟨A, h, ρ, F, m⟩ := tX_eq.mp q
    unfold isEM at m
    split at m
    · rename_i e a' d' es
      obtain ⟨v, e1, e2, e3⟩ := F.slot i _ es
      by_cases hc : a' = a ∧ d' = d
      · rw [if_pos hc] at m
        subst e2
        rw [hc.1] at e1
        rw [hc.2] at e3
        refine ⟨.ref a, e1, .ref Cb, .ref Cb, b, rfl, fun u r => r, kit, ?_, (show kX C A h σ Q (.bool b) ρ from m) _ h H F (fun _ _ z => z) (.bl _)⟩
        rcases e3 with ⟨_, k2⟩ | ⟨dd, vs, k1, k2, _⟩
        · exact .inl k2
        · exact .inr ⟨dd, _, k1, F.sub _ _ k2⟩
      · rw [if_neg hc] at m
        exact m.elim
    · exact m.elim
/-- a class without an own __init__ -/
structure Own1C (C : Cfg) (x : Str) (Ca : Addr) (bm : List Value) : Prop where
  f : ExcBaseFacts "ValueError" "ValueError.__new__" "ValueError.__init__" bm
  q : PySem.W.excIn C.K Ca bm "ValueError.__new__" = true
  g : C.mg x = some (.ref Ca)
  k : PySem.W.keepIn C.K (.ref Ca) = true
  r1 : PySem.W.subIn C.K (.ref Ca) (.type "BaseException") = some true
  r2 : PySem.W.typeIn C.K (.ref Ca) = some (.type "type")
theorem rs_own1 {x : Str} {Ca : Addr} {bm : List Value} {e : Expr} {f : M Ref} {p p1 : Pos} (T : Own1C C x Ca bm) (hK : X.K = C.K) (hM : X.mg = C.mg) (hc : X.calm = true) (tk : Takes X E) (hg : Gl X x) (he : PO C E X e f)
    (hs : starEach [e] X.env = (false, eval e X.env) :: starEach [] X.env := by rfl) (hdb : (x == ("__debug__" : Str)) = false := by decide) : SS C E X (.Raise (some (.Call (.Name x p) [e] [] p1)) none pos) (raiseS (own1X x f)) :=
  ss_raise hc tk (pk_own1 T.f (by rw [hK]; exact T.q) (by rw [hM]; exact T.g) T.g (by rw [hK]; exact T.k) (raises_own (by rw [hK]; exact T.r1) (by rw [hK]; exact T.r2)) hg he hs hdb)
/-- a class whose __init__ stores its arguments -/
structure IniC (C : Cfg) (P : Program) (w : World) (base : Heap) (x : Str) (names : List Str) (k : Nat) (Ca fI : Addr) (fd : FuncData) (ps : List Str) : Prop where
  oex : OexC C.K Ca
  ini : PySem.W.findIn C.K (.ref Ca) "__init__" = some (some (.ref fI))
  typ : PySem.W.typeIn C.K (.ref fI) = some (.type "function")
  fn : FnOk P w C.K C.mg base (L2.CX P w) k fI fd ps (spIni Ca names)
  bnd : Binds C.K fd ps []
  g : C.mg x = some (.ref Ca)
theorem rs_ini {x : Str} {names ps : List Str} {k : Nat} {Ca fI : Addr} {fd : FuncData} {e : Expr} {es : List Expr} {f : M (List D)} {p p1 : Pos} (T : IniC C X.prog X.w X.base x names k Ca fI fd ps) (hK : X.K = C.K) (hM : X.mg = C.mg) (hc : X.calm = true) (tk : Takes X E) (hr : Room (k + 1) X.A) (hg : Gl X x) (ha : PAX C E X (e :: es) f)
    (hdb : (x == ("__debug__" : Str)) = false := by decide) (he : starEach (e :: es) X.env = (false, eval e X.env) :: starEach es X.env := by rfl) (hpl : (backTo p1 (starEach es X.env)).any (·.1) = false := by rfl) :
    SS C E X (.Raise (some (.Call (.Name x p) (e :: es) [] p1)) none pos) (raiseS (iniX x names f)) :=
  ss_raise hc tk (pk_ini (by rw [hK]; exact T.oex) (by rw [hK]; exact T.ini) (by rw [hK]; exact T.typ) (by rw [hK, hM]; exact T.fn) hr (by rw [hK]; exact T.bnd) hg (by rw [hM]; exact T.g) T.g ha hdb he hpl)
/-- a class that is caught -/
structure CatC (C : Cfg) (x : Str) (Ca : Addr) : Prop where
  g : C.mg x = some (.ref Ca)
  e : ExcC C.K Ca
  f : XfC C.K Ca
end
end EV

/-! # WP: what a def's function over data is worth, forwards -/
namespace EV
open PySem PySem.Spec PyProof.Rows L2 Ver
structure Post where
  nx : Rho → Prop
  rt : Tm → Rho → Prop
  bk : Rho → Prop
  ct : Rho → Prop
  ex : Exc → Rho → Prop
abbrev KX := Exc → Rho → Prop
def okO (P : Post) : Out → Prop
  | .nx ρ => P.nx ρ
  | .ret t ρ => P.rt t ρ
  | .brk ρ => P.bk ρ
  | .ct ρ => P.ct ρ
  | .ex e ρ => P.ex e ρ
  | .bad => False
def okM {α : Type} (K : α → Rho → Prop) (X : KX) : R α → Prop
  | .ok a ρ => K a ρ
  | .ex e ρ => X e ρ
  | .bad => False
def okF (Q : Tm → List Sl → Prop) (X : Exc → List Sl → Prop) : Res → Prop
  | .val t as => Q t as
  | .ex e as => X e as
  | .bad => False
def noX : KX := fun _ _ => False
def noF : Exc → List Sl → Prop := fun _ _ => False
theorem okF_imp {Q Q' : Tm → List Sl → Prop} {X X' : Exc → List Sl → Prop} {r : Res} (h : okF Q X r) (hq : ∀ t as, Q t as → Q' t as) (hx : ∀ e as, X e as → X' e as) : okF Q' X' r := by
  cases r with
  | val t as => exact hq t as h
  | ex e as => exact hx e as h
  | bad => exact h
theorem okM_imp {α : Type} {K K' : α → Rho → Prop} {X X' : KX} {r : R α} (h : okM K X r) (hk : ∀ a ρ, K a ρ → K' a ρ) (hx : ∀ e ρ, X e ρ → X' e ρ) : okM K' X' r := by
  cases r with
  | ok t as => exact hk t as h
  | ex e as => exact hx e as h
  | bad => exact h
theorem okF_val {Q : Tm → List Sl → Prop} {r : Res} (h : okF Q noF r) : ∃ t as, r = .val t as ∧ Q t as := by
  cases r with
  | val t as => exact ⟨t, as, rfl, h⟩
  | ex e as => exact h.elim
  | bad => exact h.elim
section
variable {α β : Type} {K : α → Rho → Prop} {X : KX} {P : Post} {ρ : Rho}
/-! ### expressions -/
theorem w_ok {a : α} : okM K X (.ok a ρ) = K a ρ := id rfl
theorem w_ex {e : Exc} : okM K X (.ex e ρ) = X e ρ := id rfl
theorem w_bad : okM K X (.bad : R α) = False := id rfl
theorem w_pure {a : α} : okM K X (pureM a ρ) = K a ρ := id rfl
theorem w_lsome {a : α} : okM K X (liftM (some a) ρ) = K a ρ := id rfl
theorem w_lnone : okM K X (liftM (none : Option α) ρ) = False := id rfl
theorem w_lite {c : Prop} [Decidable c] {a : α} : okM K X (liftM (if c then some a else none) ρ) = (c ∧ K a ρ) := by
  by_cases h : c
  · rw [if_pos h, w_lsome]; simp [h]
  · rw [if_neg h, w_lnone]; simp [h]
theorem w_ite {c : Prop} [Decidable c] {f g : M α} : okM K X ((if c then f else g) ρ) = ((c → okM K X (f ρ)) ∧ (¬c → okM K X (g ρ))) := by
  by_cases h : c
  · rw [if_pos h]; simp [h]
  · rw [if_neg h]; simp [h]
theorem w_iteR {c : Prop} [Decidable c] {f g : R α} : okM K X (if c then f else g) = ((c → okM K X f) ∧ (¬c → okM K X g)) := by
  by_cases h : c
  · rw [if_pos h]; simp [h]
  · rw [if_neg h]; simp [h]
def kB {K : β → Rho → Prop} (g : α → M β) (X : KX) : α → Rho → Prop := fun a ρ => okM K X (g a ρ)
theorem w_bind {K : β → Rho → Prop} {f : M α} {g : α → M β} : okM K X (bindM f g ρ) = okM (kB (K := K) g X) X (f ρ) := by
  unfold bindM
  cases f ρ <;> rfl
theorem w_kB {K : β → Rho → Prop} {g : α → M β} {a : α} : kB (K := K) g X a ρ = okM K X (g a ρ) := id rfl
end
section
variable {ρ : Rho} {i : Nat} {f g : M D} {c d : M Bool} {r s : M Ref} {t : M Tm} {rs : M (List Ref)} {ds : M (List D)}
theorem a_nmX : nmX i ρ = match ρ[i]? with
  | some (some (.d x)) => .ok x ρ
  | some (some (.l false ds)) => .ok (.list ds) (ρ.set i (some (.d (.list ds))))
  | _ => .bad := id rfl
theorem a_nmO : nmO i ρ = match ρ[i]? with
  | some (some (.d x)) => .ok (.val x) ρ
  | some (some (.l _ _)) => .ok (.slot i) ρ
  | _ => .bad := id rfl
theorem a_nmT : nmT i ρ = match ρ[i]? with
  | some (some (.d x)) => .ok (.d x) ρ
  | some (some (.l false ds)) => .ok (.l ds) (ρ.set i none)
  | _ => .bad := id rfl
theorem a_valO : valO f ρ = bindM f (fun d => pureM (.val d)) ρ := id rfl
theorem a_bop {h : D → D → Option D} : bop h r s ρ = bindM r (fun a => bindM s fun b => opM h a b) ρ := id rfl
theorem a_opM {h : D → D → Option D} {a b : Ref} : opM h a b ρ = match rd ρ a, rd ρ b with
  | some x, some y => liftM (h x y) ρ
  | _, _ => .bad := id rfl
theorem a_rdv {x : D} : rd ρ (.val x) = some x := id rfl
theorem a_rds {j : Nat} : rd ρ (.slot j) = slotD ρ[j]? := id rfl
theorem a_sd {x : D} : slotD (some (some (.d x))) = some x := id rfl
theorem a_sl {p : Bool} {xs : List D} : slotD (some (some (.l p xs))) = some (.list xs) := id rfl
theorem a_tst : tst f ρ = bindM f (fun d => liftM (boolD d)) ρ := id rfl
theorem a_boolD {b : Bool} : boolD (.bool b) = some b := id rfl
theorem a_tru : tru r ρ = bindM r truM ρ := id rfl
theorem a_truM {a : Ref} : truM a ρ = match rd ρ a with
  | some x => liftM (truD x) ρ
  | none => .bad := id rfl
theorem a_andB : andB c d ρ = bindM c (fun b => if b = true then d else pureM false) ρ := id rfl
theorem a_orB : orB c d ρ = bindM c (fun b => if b = true then pureM true else d) ρ := id rfl
theorem a_notB : notB c ρ = bindM c (fun b => pureM (!b)) ρ := id rfl
theorem a_andX : andX f g ρ = bindM f (fun d => bindM (liftM (boolD d)) fun b => if b = true then g else pureM (.bool false)) ρ := id rfl
theorem a_orX : orX f g ρ = bindM f (fun d => bindM (liftM (boolD d)) fun b => if b = true then pureM (.bool true) else g) ρ := id rfl
theorem a_notX : notX f ρ = bindM f (fun d => bindM (liftM (boolD d)) fun b => pureM (.bool (!b))) ρ := id rfl
theorem a_ifX : ifX c f g ρ = bindM c (fun b => if b = true then f else g) ρ := id rfl
theorem a_caX {h : List D → Option D} : caX h rs ρ = bindM rs (caM h) ρ := id rfl
theorem a_caM {h : List D → Option D} {l : List Ref} : caM h l ρ = match rds ρ l with
  | some ds => liftM (h ds) ρ
  | none => .bad := id rfl
theorem a_rdsn : rds ρ [] = some [] := id rfl
theorem a_rdsc {a : Ref} {l : List Ref} : rds ρ (a :: l) = match rd ρ a, rds ρ l with
    | some d, some ds => some (d :: ds)
    | _, _ => none := id rfl
theorem a_consR : consR r rs ρ = bindM r (fun d => bindM rs fun ds => pureM (d :: ds)) ρ := id rfl
theorem a_consM : consM f ds ρ = bindM f (fun d => bindM ds fun ds => pureM (d :: ds)) ρ := id rfl
theorem a_tupX : tupX ds ρ = bindM ds (fun ds => if ds.length ≤ 1000000 then pureM (.tuple ds) else badM) ρ := id rfl
theorem a_lstX : lstX ds ρ = bindM ds (fun ds => if ds.length ≤ 1000000 then pureM (.list ds) else badM) ρ := id rfl
theorem a_ownX : ownX ds ρ = bindM ds (fun ds => if ds.length ≤ 1000000 then pureM (.l ds) else badM) ρ := id rfl
theorem a_badM {α : Type} : (badM : M α) ρ = .bad := id rfl
theorem a_tmD : tmD f ρ = bindM f (fun d => pureM (.d d)) ρ := id rfl
theorem a_frzM : frzM t ρ = bindM t (fun t => pureM (frzT t)) ρ := id rfl
theorem a_frzd {x : D} : frzT (.d x) = x := id rfl
theorem a_frzl {xs : List D} : frzT (.l xs) = .list xs := id rfl
theorem a_isiX {T : String} : isiX T r ρ = bindM r (isiM T) ρ := id rfl
theorem a_isiM {T : String} {a : Ref} : isiM T a ρ = match rd ρ a with
  | some d => .ok (.bool (tyIs T d)) ρ
  | none => .bad := id rfl
theorem a_negX : negX f ρ = bindM f (fun d => bindM (liftM (intD d)) fun i => pureM (.int (-i))) ρ := id rfl
theorem a_intD {j : Int} : intD (.int j) = some j := id rfl
theorem a_ptM : ptM f ρ = bindM f (fun d => bindM (liftM (intD d)) fun i => pureM (some i)) ρ := id rfl
theorem a_slX {lo hi : M (Option Int)} : slX r lo hi ρ = bindM r (fun r => bindM lo fun lo => bindM hi fun hi => slM r lo hi) ρ := id rfl
theorem a_slM {a : Ref} {lo hi : Option Int} : slM a lo hi ρ = match rd ρ a with
  | some d => liftM (slD d lo hi) ρ
  | none => .bad := id rfl
theorem a_own {h : List D → D → Option (List D × D)} {x : D} : ownM h i x ρ = match ρ[i]? with
  | some (some (.l p ds)) => (match h ds x with
    | some (es, r) => .ok r (ρ.set i (some (.l p es)))
    | none => .bad)
  | _ => .bad := id rfl
theorem a_mtX {h : List D → D → Option (List D × D)} : mtX h i f ρ = if isOwn ρ[i]? = true then bindM f (ownM h i) ρ else .bad := id rfl
theorem a_extX : extX i t ρ = if isOwn ρ[i]? = true then bindM t (extM i) ρ else .bad := id rfl
theorem a_popX : popX i ρ = match ρ[i]? with
  | some (some (.l p ds)) => popD p ds i ρ
  | _ => .bad := id rfl
theorem a_isOwn {p : Bool} {xs : List D} : isOwn (some (some (.l p xs))) = true := id rfl
theorem a_isOwnd {x : D} : isOwn (some (some (.d x))) = false := id rfl
theorem a_isOwnn : isOwn (some none) = false := id rfl
theorem a_ext {x : Tm} : extM i x ρ = match ρ[i]?, x with
  | some (some (.l p ds)), .l es => if ds.length + es.length ≤ 1000000 then .ok .none (ρ.set i (some (.l p (ds ++ es)))) else .bad
  | some (some (.l p ds)), .d (.tuple es) => if ds.length + es.length ≤ 1000000 then .ok .none (ρ.set i (some (.l p (ds ++ es)))) else .bad
  | _, _ => .bad := by
  unfold extM
  rfl
theorem a_lstOf : lstOf r ρ = bindM r lstM ρ := id rfl
theorem a_lstM {a : Ref} : lstM a ρ = match rd ρ a with
  | some d => (match seqOf d with
    | some ds => .ok (.l ds) ρ
    | none => .bad)
  | none => .bad := id rfl
theorem a_tupOf : tupOf r ρ = bindM r tupM ρ := id rfl
theorem a_tupM {a : Ref} : tupM a ρ = match rd ρ a with
  | some d => (match seqOf d with
    | some ds => .ok (.tuple ds) ρ
    | none => .bad)
  | none => .bad := id rfl
theorem a_sq1 {xs : List D} : seqOf (.list xs) = some xs := id rfl
theorem a_sq2 {xs : List D} : seqOf (.tuple xs) = some xs := id rfl
theorem a_itX : itX f ρ = bindM f (fun d => liftM (itD d)) ρ := id rfl
theorem a_it1 {xs : List D} : itD (.list xs) = some xs := id rfl
theorem a_it2 {xs : List D} : itD (.tuple xs) = some xs := id rfl
theorem a_it3 {x : Str} : itD (.str x) = some (signs x) := id rfl
theorem a_rngX {h : List D → Option (List D)} : rngX h ds ρ = bindM ds (fun ds => liftM (h ds)) ρ := id rfl
theorem a_fmtX : fmtX r ρ = bindM r fmtM ρ := id rfl
theorem a_fmtM {a : Ref} : fmtM a ρ = match rd ρ a with
  | some d => (match fmtD d with
    | some y => .ok (.str y) ρ
    | none => .bad)
  | none => .bad := id rfl
theorem a_js0 {acc : Str} : jsM [] acc ρ = pureM (.str acc) ρ := id rfl
theorem a_js1 {fs : List (M D)} {acc : Str} : jsM (f :: fs) acc ρ = bindM f (fun d => bindM (liftM (strD d)) fun y => if (acc ++ y).length ≤ 1000000 then jsM fs (acc ++ y) else badM) ρ := id rfl
theorem a_strD {y : Str} : strD (.str y) = some y := id rfl
theorem a_own1 {x : Str} : own1X x r ρ = bindM r (fun _ => pureM ⟨x, []⟩) ρ := id rfl
theorem a_iniX {x : Str} {ns : List Str} : iniX x ns ds ρ = bindM ds (iniM x ns) ρ := id rfl
theorem a_iniM {x : Str} {ns : List Str} {xs : List D} : iniM x ns xs ρ = if xs.length = ns.length ∧ xs.length ≤ 100 ∧ xs.all fitD = true then .ok ⟨x, ns.reverse.zip xs.reverse⟩ ρ else .bad := id rfl
theorem a_fldM {a : Addr} {z : Option Addr} {n : Str} : fldM a z i n ρ = match ρ[i]? with
  | some (some (.x e a' d')) => if a' = a ∧ d' = z then liftM (e.fs.lookup n) ρ else .bad
  | _ => .bad := id rfl
theorem a_isEM {a : Addr} {z : Option Addr} {b : Bool} : isEM a z i b ρ = match ρ[i]? with
  | some (some (.x _ a' d')) => if a' = a ∧ d' = z then .ok (.bool b) ρ else .bad
  | _ => .bad := id rfl
theorem a_lcX {fi : M (List D)} {h : D → Rho → Option Rho} {vs : List Nat} : lcX fi h c f vs ρ = bindM fi (fun ds ρ => endL ρ vs (lcL h c f vs ds [] ρ)) ρ := id rfl
end
/-! ### calls -/
def qL {α : Type} (K : α → Rho → Prop) (t : α) (ρ : Rho) : Option (List (Nat × List D)) → Prop
  | some L => K t (putL L ρ)
  | none => False
def qE {α : Type} (K : α → Rho → Prop) (rs : List Ref) (as : List Sl) (ρ : Rho) : α → List Sl → Prop := fun t as' => qL K t ρ (lendL rs as as')
def okC2 (K : Tm → Rho → Prop) (X : KX) (F : List Sl → Res) (k : Nat) (rs : List Ref) (ρ : Rho) (ls : List Nat) : Option (List Sl) → Prop
  | some as => (as.length = k ∧ ls.Nodup) ∧ okF (qE K rs as ρ) (qE X rs as ρ) (F as)
  | none => False
theorem w_endC {K : Tm → Rho → Prop} {X : KX} {rs : List Ref} {as : List Sl} {ρ : Rho} {r : Res} : okM K X (endC rs as r ρ) = okF (qE K rs as ρ) (qE X rs as ρ) r := by
  cases r with
  | val t as' =>
    show okM K X (okC _ _ _) = qL K t ρ (lendL rs as as')
    cases lendL rs as as' <;> rfl
  | ex e as' =>
    show okM K X (okC _ _ _) = qL X e ρ (lendL rs as as')
    cases lendL rs as as' <;> rfl
  | bad => rfl
end EV
namespace EV
open PySem PySem.Spec PyProof.Rows L2 Ver
section
variable {K : Tm → Rho → Prop} {X : KX} {ρ : Rho} {P : Post}
theorem a_callX {F : List Sl → Res} {k : Nat} {f : M (List Ref)} : callX F k f ρ = bindM f (callM F k) ρ := id rfl
theorem w_call {F : List Sl → Res} {k : Nat} {rs : List Ref} : okM K X (callM F k rs ρ) = okC2 K X F k rs ρ (lends ρ rs) (argSl ρ rs) := by
  unfold callM
  cases argSl ρ rs with
  | none => rfl
  | some as =>
    show okM K X (if as.length = k ∧ (lends ρ rs).Nodup then endC rs as (F as) ρ else .bad) = ((as.length = k ∧ (lends ρ rs).Nodup) ∧ _)
    by_cases h : as.length = k ∧ (lends ρ rs).Nodup
    · rw [if_pos h, w_endC]; simp [h]
    · rw [if_neg h, w_bad]; simp [h]
theorem w_okC {F : List Sl → Res} {k : Nat} {rs : List Ref} {ls : List Nat} {as : List Sl} : okC2 K X F k rs ρ ls (some as) = ((as.length = k ∧ ls.Nodup) ∧ okF (qE K rs as ρ) (qE X rs as ρ) (F as)) := id rfl
theorem w_fval {Q : Tm → List Sl → Prop} {Z : Exc → List Sl → Prop} {t : Tm} {as : List Sl} : okF Q Z (.val t as) = Q t as := id rfl
theorem w_fex {Q : Tm → List Sl → Prop} {Z : Exc → List Sl → Prop} {e : Exc} {as : List Sl} : okF Q Z (.ex e as) = Z e as := id rfl
theorem w_qE {α : Type} {K : α → Rho → Prop} {rs : List Ref} {as as' : List Sl} {t : α} : qE K rs as ρ t as' = qL K t ρ (lendL rs as as') := id rfl
theorem w_qL {α : Type} {K : α → Rho → Prop} {t : α} {L : List (Nat × List D)} : qL K t ρ (some L) = K t (putL L ρ) := id rfl
theorem a_as0 : argSl ρ [] = some [] := id rfl
theorem a_asv {d : D} {rs : List Ref} : argSl ρ (.val d :: rs) = (argSl ρ rs).map (.d d :: ·) := id rfl
theorem a_ass {i : Nat} {rs : List Ref} : argSl ρ (.slot i :: rs) = match argO ρ[i]? with
    | some s => (argSl ρ rs).map (s :: ·)
    | none => none := id rfl
theorem a_argd {x : D} : argO (some (some (.d x))) = some (.d x) := id rfl
theorem a_argl {p : Bool} {ds : List D} : argO (some (some (.l p ds))) = some (.l p ds) := id rfl
theorem a_ln0 : lends ρ [] = [] := id rfl
theorem a_lnv {d : D} {rs : List Ref} : lends ρ (.val d :: rs) = lends ρ rs := id rfl
theorem a_lns {i : Nat} {rs : List Ref} : lends ρ (.slot i :: rs) = if isOwn ρ[i]? = true then i :: lends ρ rs else lends ρ rs := id rfl
theorem a_ll0 : lendL [] [] [] = some [] := id rfl
theorem a_lld {r : Ref} {rs : List Ref} {x y : D} {as as' : List Sl} : lendL (r :: rs) (.d x :: as) (.d y :: as') = lendL rs as as' := by cases r <;> rfl
theorem a_lls {i : Nat} {rs : List Ref} {p q : Bool} {ds es : List D} {as as' : List Sl} : lendL (.slot i :: rs) (.l p ds :: as) (.l q es :: as') = (lendL rs as as').map ((i, es) :: ·) := id rfl
theorem a_pl0 : putL [] ρ = ρ := id rfl
theorem a_pl1 {i : Nat} {ds : List D} {L : List (Nat × List D)} : putL ((i, ds) :: L) ρ = putL L (setL ρ i ds) := id rfl
theorem a_setL {i : Nat} {ds : List D} : setL ρ i ds = match ρ[i]? with
  | some (some (.l p _)) => ρ.set i (some (.l p ds))
  | _ => ρ := id rfl
theorem a_omap {α β : Type} {f : α → β} {a : α} : Option.map f (some a) = some (f a) := id rfl
/-! ### statements -/
def pSeq (g : Rho → Out) (P : Post) : Post := ⟨fun ρ => okO P (g ρ), P.rt, P.bk, P.ct, P.ex⟩
theorem w_pSnx {g : Rho → Out} : (pSeq g P).nx ρ = okO P (g ρ) := id rfl
theorem w_pSrt {g : Rho → Out} : (pSeq g P).rt = P.rt := id rfl
theorem w_pSbk {g : Rho → Out} : (pSeq g P).bk = P.bk := id rfl
theorem w_pSct {g : Rho → Out} : (pSeq g P).ct = P.ct := id rfl
theorem w_pSex {g : Rho → Out} : (pSeq g P).ex = P.ex := id rfl
theorem w_skip : okO P (skipS ρ) = P.nx ρ := id rfl
theorem w_seq {f g : Rho → Out} : okO P (seqS f g ρ) = okO (pSeq g P) (f ρ) := by
  unfold seqS
  cases f ρ <;> rfl
theorem w_onx : okO P (.nx ρ) = P.nx ρ := id rfl
theorem w_ort {t : Tm} : okO P (.ret t ρ) = P.rt t ρ := id rfl
theorem w_obk : okO P (.brk ρ) = P.bk ρ := id rfl
theorem w_oct : okO P (.ct ρ) = P.ct ρ := id rfl
theorem w_oex {e : Exc} : okO P (.ex e ρ) = P.ex e ρ := id rfl
theorem w_obad : okO P .bad = False := id rfl
theorem w_oite {c : Prop} [Decidable c] {f g : Rho → Out} : okO P ((if c then f else g) ρ) = ((c → okO P (f ρ)) ∧ (¬c → okO P (g ρ))) := by
  by_cases h : c
  · rw [if_pos h]; simp [h]
  · rw [if_neg h]; simp [h]
theorem w_oite' {c : Prop} [Decidable c] {o o' : Out} : okO P (if c then o else o') = ((c → okO P o) ∧ (¬c → okO P o')) := by
  by_cases h : c
  · rw [if_pos h]; simp [h]
  · rw [if_neg h]; simp [h]
theorem w_on {α : Type} {f : M α} {k : α → Rho → Out} : okO P (onM f k ρ) = okM (fun a ρ => okO P (k a ρ)) P.ex (f ρ) := by
  unfold onM
  cases f ρ <;> rfl
def kSet (i : Nat) (P : Post) : Tm → Rho → Prop := fun t ρ => canSet ρ[i]? = true ∧ P.nx (ρ.set i (some (slOf t)))
theorem w_set {i : Nat} {f : M Tm} : okO P (setS i f ρ) = okM (kSet i P) P.ex (f ρ) := by
  unfold setS
  rw [w_on]
  congr 1
  funext t ρ
  unfold putS kSet
  rw [w_oite', w_onx, w_obad]
  by_cases h : canSet ρ[i]? = true <;> simp [h]
theorem w_kSet {i : Nat} {t : Tm} : kSet i P t ρ = (canSet ρ[i]? = true ∧ P.nx (ρ.set i (some (slOf t)))) := id rfl
theorem a_csn : canSet (some none) = true := id rfl
theorem a_csd {x : D} : canSet (some (some (.d x))) = true := id rfl
theorem a_csl {xs : List D} : canSet (some (some (.l false xs))) = true := id rfl
theorem a_csx {e : Exc} {a : Addr} {d : Option Addr} : canSet (some (some (.x e a d))) = true := id rfl
theorem a_slOd {x : D} : slOf (.d x) = .d x := id rfl
theorem a_slOl {xs : List D} : slOf (.l xs) = .l false xs := id rfl
def kAO (P : Post) : Option Rho → Prop
  | some ρ => P.nx ρ
  | none => False
theorem w_kAs : kAO P (some ρ) = P.nx ρ := id rfl
def kAsg (g : D → Rho → Option Rho) (P : Post) : D → Rho → Prop := fun d ρ => kAO P (g d ρ)
theorem w_kAsg {g : D → Rho → Option Rho} {d : D} : kAsg g P d ρ = kAO P (g d ρ) := id rfl
theorem w_asg {f : M D} {g : D → Rho → Option Rho} : okO P (asgS f g ρ) = okM (kAsg g P) P.ex (f ρ) := by
  unfold asgS
  rw [w_on]
  congr 1
  funext d ρ
  unfold kAsg
  cases g d ρ <;> rfl
def kIf (f g : Rho → Out) (P : Post) : Bool → Rho → Prop := fun b ρ => okO P ((if b = true then f else g) ρ)
theorem w_kIf {f g : Rho → Out} {b : Bool} : kIf f g P b ρ = okO P ((if b = true then f else g) ρ) := id rfl
theorem w_if {c : M Bool} {f g : Rho → Out} : okO P (ifS c f g ρ) = okM (kIf f g P) P.ex (c ρ) := by
  unfold ifS
  rw [w_on]
  congr 1
  funext b ρ
  cases b <;> rfl
theorem w_ret {f : M Tm} : okO P (retS f ρ) = okM P.rt P.ex (f ρ) := by
  unfold retS
  rw [w_on]
  rfl
def kDr (P : Post) : Tm → Rho → Prop := fun _ ρ => P.nx ρ
theorem w_kDr {t : Tm} : kDr P t ρ = P.nx ρ := id rfl
theorem w_drop {f : M Tm} : okO P (dropS f ρ) = okM (kDr P) P.ex (f ρ) := by
  unfold dropS
  rw [w_on]
  rfl
theorem w_raise {f : M Exc} : okO P (raiseS f ρ) = okM P.ex P.ex (f ρ) := by
  unfold raiseS
  rw [w_on]
  rfl
def kFor (g : D → Rho → Option Rho) (b : Rho → Out) (P : Post) : List D → Rho → Prop := fun ds ρ => okO P (forS g b ds ρ)
theorem w_kFor {g : D → Rho → Option Rho} {b : Rho → Out} {ds : List D} : kFor g b P ds ρ = okO P (forS g b ds ρ) := id rfl
theorem w_for {f : M (List D)} {g : D → Rho → Option Rho} {b : Rho → Out} : okO P (forM f g b ρ) = okM (kFor g b P) P.ex (f ρ) := by
  unfold forM
  rw [w_on]
  rfl
theorem w_for0 {g : D → Rho → Option Rho} {b : Rho → Out} : okO P (forS g b [] ρ) = P.nx ρ := id rfl
def pLp (N : Rho → Prop) (P : Post) : Post := ⟨N, P.rt, P.nx, N, P.ex⟩
theorem w_pLnx {N : Rho → Prop} : (pLp N P).nx = N := id rfl
theorem w_pLct {N : Rho → Prop} : (pLp N P).ct = N := id rfl
theorem w_pLbk {N : Rho → Prop} : (pLp N P).bk = P.nx := id rfl
theorem w_pLrt {N : Rho → Prop} : (pLp N P).rt = P.rt := id rfl
theorem w_pLex {N : Rho → Prop} : (pLp N P).ex = P.ex := id rfl
theorem w_loop {next : Rho → Out} {o : Out} : okO P (loopS next o) = okO (pLp (fun ρ => okO P (next ρ)) P) o := by cases o <;> rfl
theorem okO_nx {P P' : Post} {o : Out} (h : okO P o) (h1 : ∀ ρ, P.nx ρ → P'.nx ρ) (h2 : ∀ t ρ, P.rt t ρ → P'.rt t ρ) (h3 : ∀ ρ, P.bk ρ → P'.bk ρ) (h4 : ∀ ρ, P.ct ρ → P'.ct ρ) (h5 : ∀ e ρ, P.ex e ρ → P'.ex e ρ) : okO P' o := by
  cases o with
  | nx ρ => exact h1 ρ h
  | ret t ρ => exact h2 t ρ h
  | brk ρ => exact h3 ρ h
  | ct ρ => exact h4 ρ h
  | ex e ρ => exact h5 e ρ h
  | bad => exact h
/-- a for, by what holds with what is left to walk -/
theorem for_inv {g : D → Rho → Option Rho} {b : Rho → Out} (I : List D → Rho → Prop) (hn : ∀ ρ, I [] ρ → P.nx ρ)
    (hs : ∀ d r ρ, I (d :: r) ρ → kAO (pSeq b (pLp (I r) P)) (g d ρ)) : ∀ {ds : List D} {ρ : Rho}, I ds ρ → okO P (forS g b ds ρ)
  | [], ρ, h => hn ρ h
  | d :: r, ρ, h => by
    have q := hs d r ρ h
    show okO P (match g d ρ with
      | some ρ1 => loopS (forS g b r) (b ρ1)
      | none => .bad)
    cases e : g d ρ with
    | none => rw [e] at q; exact q
    | some ρ1 =>
      rw [e] at q
      show okO P (loopS (forS g b r) (b ρ1))
      rw [w_loop]
      exact okO_nx (show okO (pLp (I r) P) (b ρ1) from q) (fun ρ k => for_inv I hn hs k) (fun _ _ k => k) (fun _ k => k) (fun ρ k => for_inv I hn hs k) fun _ _ k => k
/-- a for over range -/
theorem for_rng {g : D → Rho → Option Rho} {b : Rho → Out} (I : Nat → Rho → Prop) {n : Nat} {lo : Int} (h0 : I 0 ρ) (hn : ∀ ρ, I n ρ → P.nx ρ)
    (hs : ∀ k ρ, k < n → I k ρ → kAO (pSeq b (pLp (I (k + 1)) P)) (g (.int (lo + k)) ρ)) : okO P (forS g b (intsD lo n) ρ) := by
  refine for_inv (fun ds ρ => ∃ k, k ≤ n ∧ ds = intsD (lo + (k : Nat)) (n - k) ∧ I k ρ) (fun ρ h => ?_) (fun d r ρ h => ?_) ⟨0, Nat.zero_le _, by rw [show lo + ((0 : Nat) : Int) = lo by omega, Nat.sub_zero], h0⟩
  · obtain ⟨k, h1, h2, h3⟩ := h
    have : (intsD (lo + (k : Nat)) (n - k)).length = 0 := by rw [← h2]; rfl
    unfold intsD at this
    rw [List.length_map, List.length_range] at this
    have : k = n := by omega
    subst this
    exact hn ρ h3
  · obtain ⟨k, h1, h2, h3⟩ := h
    have hk : k < n := by
      have : (intsD (lo + (k : Nat)) (n - k)).length ≠ 0 := by rw [← h2]; exact fun z => by cases z
      unfold intsD at this
      rw [List.length_map, List.length_range] at this
      omega
    have e : intsD (lo + (k : Nat)) (n - k) = .int (lo + (k : Nat)) :: intsD (lo + ((k + 1 : Nat) : Int)) (n - (k + 1)) := by
      obtain ⟨m, hm⟩ : ∃ m, n - k = m + 1 := ⟨n - k - 1, by omega⟩
      rw [hm, show n - (k + 1) = m by omega]
      unfold intsD
      rw [List.range_succ_eq_map, List.map_cons, List.map_map]
      congr 1
      · simp
      · apply List.map_congr_left
        intro j _
        simp only [Function.comp]
        congr 1
        omega
    rw [e] at h2
    cases h2
    have q := hs k ρ hk h3
    cases e : g (.int (lo + (k : Nat))) ρ with
    | none => rw [e] at q; exact q
    | some ρ1 =>
      rw [e] at q
      exact okO_nx (show okO (pLp (I (k + 1)) P) (b ρ1) from q) (fun ρ z => ⟨k + 1, hk, rfl, z⟩) (fun _ _ z => z) (fun _ z => z) (fun ρ z => ⟨k + 1, hk, rfl, z⟩) fun _ _ z => z
def kWh (b : Rho → Out) (N : Rho → Prop) (P : Post) : Bool → Rho → Prop
  | true, ρ => okO (pLp N P) (b ρ)
  | false, ρ => P.nx ρ
theorem w_kWt {b : Rho → Out} {N : Rho → Prop} : kWh b N P true ρ = okO (pLp N P) (b ρ) := id rfl
theorem w_kWf {b : Rho → Out} {N : Rho → Prop} : kWh b N P false ρ = P.nx ρ := id rfl
theorem w_kWd {b : Rho → Out} {N : Rho → Prop} {c : Prop} [Decidable c] : kWh b N P (decide c) ρ = ((c → okO (pLp N P) (b ρ)) ∧ (¬c → P.nx ρ)) := by
  by_cases h : c
  · simp [h, kWh]
  · simp [h, kWh]
/-- a while, by a measure -/
theorem while_inv {c : M Bool} {b : Rho → Out} (I : Nat → Rho → Prop) (hs : ∀ m ρ, I m ρ → okM (kWh b (fun ρ => ∃ m', m' < m ∧ I m' ρ) P) P.ex (c ρ)) : ∀ {n m : Nat} {ρ : Rho}, m < n → I m ρ → okO P (whileS c b n ρ)
  | 0, m, ρ, h, _ => absurd h (Nat.not_lt_zero m)
  | n + 1, m, ρ, h, q => by
    show okO P (onM c (fun b' ρ => if b' = true then loopS (whileS c b n) (b ρ) else .nx ρ) ρ)
    rw [w_on]
    refine okM_imp (hs m ρ q) (fun z ρ1 k => ?_) fun _ _ z => z
    cases z with
    | false => exact k
    | true =>
      show okO P (loopS (whileS c b n) (b ρ1))
      rw [w_loop]
      exact okO_nx (show okO (pLp _ P) (b ρ1) from k) (fun ρ ⟨m', h1, h2⟩ => while_inv I hs (by omega) h2) (fun _ _ k => k) (fun _ k => k) (fun ρ ⟨m', h1, h2⟩ => while_inv I hs (by omega) h2) fun _ _ k => k
/-- a comprehension -/
def kG {α : Type} (k : Rho → Prop) : Option Rho → Prop
  | some ρ => k ρ
  | none => False
def kLt (e : M D) (vs : List Nat) (I : List D → Rho → Prop) (acc : List D) : Bool → Rho → Prop
  | true, ρ => okM (fun y ρ3 => acc.length < 1000000 ∧ I (acc ++ [y]) ρ3) noX (e ρ)
  | false, ρ => I acc ρ
theorem lc_inv {g : D → Rho → Option Rho} {t : M Bool} {e : M D} {vs : List Nat} {ρ0 : Rho} (I : List D → List D → Rho → Prop) (hn : ∀ acc ρ, I [] acc ρ → K (.l acc) (backR ρ0 vs ρ))
    (hs : ∀ d r acc ρ, I (d :: r) acc ρ → ∃ ρ1, g d (wipeR ρ vs) = some ρ1 ∧ okM (kLt e vs (I r) acc) noX (t ρ1)) {ds : List D} (h0 : I ds [] ρ) : okM K X (endL ρ0 vs (lcL g t e vs ds [] ρ)) := by
  have key : ∀ (ds acc : List D) (ρ : Rho), I ds acc ρ → okM (fun acc ρ => K (.l acc) (backR ρ0 vs ρ)) noX (lcL g t e vs ds acc ρ) := by
    intro ds
    induction ds with
    | nil => exact fun acc ρ h => hn acc ρ h
    | cons d r ih =>
      intro acc ρ h
      obtain ⟨ρ1, e1, q⟩ := hs d r acc ρ h
      unfold lcL
      rw [e1]
      show okM _ noX (match t ρ1 with
      | .ok true ρ2 => (match e ρ2 with
        | .ok y ρ3 => if acc.length < 1000000 then lcL g t e vs r (acc ++ [y]) ρ3 else .bad
        | _ => .bad)
      | .ok false ρ2 => lcL g t e vs r acc ρ2
      | _ => .bad)
      cases z : t ρ1 with
      | bad => rw [z] at q; exact q
      | ex x ρ2 => rw [z] at q; exact q
      | ok b ρ2 =>
        rw [z] at q
        cases b with
        | false => exact ih acc ρ2 q
        | true =>
          have q : okM (fun y ρ3 => acc.length < 1000000 ∧ I r (acc ++ [y]) ρ3) noX (e ρ2) := q
          show okM _ noX (match e ρ2 with
            | .ok y ρ3 => if acc.length < 1000000 then lcL g t e vs r (acc ++ [y]) ρ3 else .bad
            | _ => .bad)
          cases z2 : e ρ2 with
          | bad => rw [z2] at q; exact q
          | ex x ρ3 => rw [z2] at q; exact q
          | ok y ρ3 =>
            rw [z2] at q
            obtain ⟨q1, q2⟩ := q
            show okM _ noX (if acc.length < 1000000 then lcL g t e vs r (acc ++ [y]) ρ3 else .bad)
            rw [if_pos q1]
            exact ih _ ρ3 q2
  have := key ds [] ρ h0
  cases z : lcL g t e vs ds [] ρ with
  | bad => rw [z] at this; exact this
  | ex x ρ3 => rw [z] at this; exact this.elim
  | ok acc ρ3 => rw [z] at this; exact this
theorem w_kTt {e : M D} {vs : List Nat} {I : List D → Rho → Prop} {acc : List D} : kLt e vs I acc true ρ = okM (fun y ρ3 => acc.length < 1000000 ∧ I (acc ++ [y]) ρ3) noX (e ρ) := id rfl
theorem w_kTf {e : M D} {vs : List Nat} {I : List D → Rho → Prop} {acc : List D} : kLt e vs I acc false ρ = I acc ρ := id rfl
/-! ### try -/
def pTry (L : List Cl) (P : Post) : Post := ⟨P.nx, P.rt, P.bk, P.ct, fun e ρ => okO P (pick L e ρ)⟩
theorem w_try {L : List Cl} {f : Rho → Out} : okO P (tryS L f ρ) = okO (pTry L P) (f ρ) := by
  unfold tryS catchS
  cases f ρ <;> rfl
theorem w_pTnx {L : List Cl} : (pTry L P).nx = P.nx := id rfl
theorem w_pTrt {L : List Cl} : (pTry L P).rt = P.rt := id rfl
theorem w_pTbk {L : List Cl} : (pTry L P).bk = P.bk := id rfl
theorem w_pTct {L : List Cl} : (pTry L P).ct = P.ct := id rfl
theorem w_pTex {L : List Cl} {e : Exc} : (pTry L P).ex e ρ = okO P (pick L e ρ) := id rfl
theorem w_pk0 {e : Exc} : okO P (pick [] e ρ) = P.ex e ρ := id rfl
theorem w_pk1 {h : Cl} {r : List Cl} {e : Exc} : okO P (pick (h :: r) e ρ) = match h.1 e.cls with
    | some true => okO P (noEx (h.2 e ρ))
    | some false => okO P (pick r e ρ)
    | none => False := by
  show okO P (match h.1 e.cls with
    | some true => noEx (h.2 e ρ)
    | some false => pick r e ρ
    | none => .bad) = _
  cases h.1 e.cls with
  | none => rfl
  | some b => cases b <;> rfl
def pNo (P : Post) : Post := ⟨P.nx, P.rt, P.bk, P.ct, noX⟩
theorem w_noEx {o : Out} : okO P (noEx o) = okO (pNo P) o := by cases o <;> rfl
theorem w_pNnx : (pNo P).nx = P.nx := id rfl
theorem w_pNrt : (pNo P).rt = P.rt := id rfl
theorem w_pNex : (pNo P).ex = noX := id rfl
def pMap (k : Rho → Rho) (P : Post) : Post := ⟨fun ρ => P.nx (k ρ), fun t ρ => P.rt t (k ρ), fun ρ => P.bk (k ρ), fun ρ => P.ct (k ρ), fun e ρ => P.ex e (k ρ)⟩
theorem w_map {k : Rho → Rho} {o : Out} : okO P (mapO k o) = okO (pMap k P) o := by cases o <;> rfl
theorem w_pMnx {k : Rho → Rho} : (pMap k P).nx ρ = P.nx (k ρ) := id rfl
theorem w_pMrt {k : Rho → Rho} {t : Tm} : (pMap k P).rt t ρ = P.rt t (k ρ) := id rfl
theorem w_gO {i : Nat} {fs : Addr → Option Addr → Rho → Out} {e : Exc} : okO P (suiteO (some i) fs e 0 none ρ) = (i < ρ.length ∧ okO (pMap (fun ρ => ρ.set i none) P) (fs 0 none (ρ.set i (some (.x e 0 none))))) := by
  show okO P (if i < ρ.length then mapO (fun ρ => ρ.set i none) (fs 0 none (ρ.set i (some (.x e 0 none)))) else .bad) = _
  rw [w_oite', w_map, w_obad]
  by_cases h : i < ρ.length <;> simp [h]
theorem w_gN {fs : Addr → Option Addr → Rho → Out} {e : Exc} : okO P (suiteO none fs e 0 none ρ) = okO P (fs 0 none ρ) := id rfl
/-! ### a def -/
def qB {α : Type} (Q : α → List Sl → Prop) (t : α) : Option (List Sl) → Prop
  | some as => Q t as
  | none => False
theorem w_qB {α : Type} {Q : α → List Sl → Prop} {t : α} {as : List Sl} : qB Q t (some as) = Q t as := id rfl
def pEnd (as : List Sl) (Q : Tm → List Sl → Prop) (X : Exc → List Sl → Prop) : Post := ⟨fun ρ => qB Q (.d .none) (backs 0 as ρ), fun t ρ => qB Q t (backs 0 as ρ), fun _ => False, fun _ => False, fun e ρ => qB X e (backs 0 as ρ)⟩
theorem w_pEnx {as : List Sl} {Q : Tm → List Sl → Prop} {X : Exc → List Sl → Prop} : (pEnd as Q X).nx ρ = qB Q (.d .none) (backs 0 as ρ) := id rfl
theorem w_pErt {as : List Sl} {Q : Tm → List Sl → Prop} {X : Exc → List Sl → Prop} {t : Tm} : (pEnd as Q X).rt t ρ = qB Q t (backs 0 as ρ) := id rfl
theorem w_pEex {as : List Sl} {Q : Tm → List Sl → Prop} {X : Exc → List Sl → Prop} {e : Exc} : (pEnd as Q X).ex e ρ = qB X e (backs 0 as ρ) := id rfl
theorem w_run {n : Nat} {b : Rho → Out} {as : List Sl} {Q : Tm → List Sl → Prop} {X : Exc → List Sl → Prop} : okF Q X (runF n b as) = okO (pEnd as Q X) (b (rho0 n as)) := by
  unfold runF
  cases b (rho0 n as) with
  | nx ρ => show okF Q X (finR _ (backs 0 as ρ)) = qB Q _ (backs 0 as ρ); cases backs 0 as ρ <;> rfl
  | ret t ρ => show okF Q X (finR _ (backs 0 as ρ)) = qB Q _ (backs 0 as ρ); cases backs 0 as ρ <;> rfl
  | ex e ρ => show okF Q X (finR _ (backs 0 as ρ)) = qB X _ (backs 0 as ρ); cases backs 0 as ρ <;> rfl
  | brk ρ => rfl
  | ct ρ => rfl
  | bad => rfl
theorem a_bk0 {i : Nat} : backs i [] ρ = some [] := id rfl
theorem a_bkd {i : Nat} {x : D} {as : List Sl} : backs i (.d x :: as) ρ = (backs (i + 1) as ρ).map (.d x :: ·) := id rfl
theorem a_bkl {i : Nat} {p : Bool} {ds : List D} {as : List Sl} : backs i (.l p ds :: as) ρ = match ρ[i]? with
    | some (some (.l true ds)) => (backs (i + 1) as ρ).map (.l p ds :: ·)
    | _ => none := id rfl
theorem a_rho0 {n : Nat} {as : List Sl} : rho0 n as = as.map (fun s => some (pinS s)) ++ List.replicate (n - as.length) none := id rfl
theorem a_pind {x : D} : pinS (.d x) = .d x := id rfl
theorem a_pinl {p : Bool} {xs : List D} : pinS (.l p xs) = .l true xs := id rfl
theorem a_nmG {i : Nat} {d : D} : nmG i d ρ = if canSet ρ[i]? = true then some (ρ.set i (some (.d d))) else none := id rfl
theorem a_nilG : nilG [] ρ = some ρ := id rfl
theorem a_consG {g : D → Rho → Option Rho} {gs : List D → Rho → Option Rho} {d : D} {r : List D} : consG g gs (d :: r) ρ = match g d ρ with
    | some ρ1 => gs r ρ1
    | none => none := id rfl
theorem a_tupG {n : Nat} {gs : List D → Rho → Option Rho} {ds : List D} : tupG n gs (.tuple ds) ρ = if ds.length = n then gs ds ρ else none := id rfl
theorem a_asgIx {i : Nat} {f : M D} {fj : M Ref} : asgIx i f fj ρ = onM f (fun d ρ => if isOwn ρ[i]? = true then onM fj (fun r ρ1 => setIx i d (rd ρ1 r) ρ1) ρ else .bad) ρ := id rfl
theorem a_setIx {i : Nat} {d : D} {o : Option D} : setIx i d o ρ = match ρ[i]?, o with
  | some (some (.l p ds)), some (.int j) => (match ixN ds.length j with
    | some k => .nx (ρ.set i (some (.l p (ds.set k d))))
    | none => .bad)
  | _, _ => .bad := id rfl
theorem a_augS {i : Nat} {g : D → D → Option D} {f : M Ref} : augS i g f ρ = match ρ[i]? with
  | some (some (.d x)) => onM f (fun r ρ1 => match rd ρ1 r, canSet ρ1[i]? with
    | some y, true => (match g x y with
      | some z => .nx (ρ1.set i (some (.d z)))
      | none => .bad)
    | _, _ => .bad) ρ
  | _ => .bad := id rfl
theorem a_wp0 : wipeR ρ [] = ρ := id rfl
theorem a_wp1 {v : Nat} {vs : List Nat} : wipeR ρ (v :: vs) = (wipeR ρ vs).set v none := id rfl
theorem a_bR0 {ρ2 : Rho} : backR ρ [] ρ2 = ρ2 := id rfl
theorem a_bR1 {v : Nat} {vs : List Nat} {ρ2 : Rho} : backR ρ (v :: vs) ρ2 = (backR ρ vs ρ2).set v (keepD ρ[v]?) := id rfl
theorem a_kd1 {x : D} : keepD (some (some (.d x))) = some (.d x) := id rfl
theorem a_kd0 : keepD (some none) = none := id rfl
theorem a_kdl {p : Bool} {xs : List D} : keepD (some (some (.l p xs))) = none := id rfl
end
end EV

/-! # WP 2: equal data; comprehensions that map -/
namespace EV
open PySem PySem.Spec PyProof.Rows L2 Ver
mutual
theorem eqv_rfl : ∀ d : D, d.canLay0 = true → PyData.eqv d d = true
  | .none, _ => by unfold PyData.eqv; rfl
  | .bool b, _ => by unfold PyData.eqv; simp
  | .int i, _ => by unfold PyData.eqv; simp
  | .str s, _ => by unfold PyData.eqv; simp
  | .list ds, h => by unfold PyData.eqv; exact eqvAll_rfl ds (by unfold PyData.canLay0 at h; exact h)
  | .tuple ds, h => by unfold PyData.eqv; exact eqvAll_rfl ds (by unfold PyData.canLay0 at h; exact h)
  | .dict _, h => by unfold PyData.canLay0 at h; cases h
theorem eqvAll_rfl : ∀ ds : List D, PyData.canLayAll0 ds = true → PyData.eqvAll ds ds = true
  | [], _ => by unfold PyData.eqvAll; rfl
  | d :: ds, h => by
    unfold PyData.canLayAll0 at h
    rw [Bool.and_eq_true] at h
    unfold PyData.eqvAll
    rw [eqv_rfl d h.1, eqvAll_rfl ds h.2]
    rfl
end
def Sh (n : Nat) (d : D) : Prop := d.canLay0 = true ∧ d.depth ≤ n
theorem Sh.mono {n m : Nat} {d : D} (h : Sh n d) (k : n ≤ m) : Sh m d := ⟨h.1, Nat.le_trans h.2 k⟩
theorem sh_all {n : Nat} : ∀ {ds : List D}, (∀ d ∈ ds, Sh n d) → PyData.canLayAll0 ds = true ∧ PyData.depthAll ds ≤ n
  | [], _ => by unfold PyData.canLayAll0 PyData.depthAll; exact ⟨rfl, Nat.zero_le _⟩
  | d :: ds, h => by
    obtain ⟨h1, h2⟩ := h d List.mem_cons_self
    obtain ⟨h3, h4⟩ := sh_all fun x m => h x (List.mem_cons_of_mem _ m)
    unfold PyData.canLayAll0 PyData.depthAll
    exact ⟨by rw [h1, h3]; rfl, Nat.max_le.mpr ⟨h2, h4⟩⟩
theorem sh_list {n : Nat} {ds : List D} (h : ∀ d ∈ ds, Sh n d) : Sh (n + 1) (.list ds) := by
  obtain ⟨h1, h2⟩ := sh_all h
  unfold Sh PyData.canLay0 PyData.depth
  exact ⟨h1, by omega⟩
theorem sh_tup {n : Nat} {ds : List D} (h : ∀ d ∈ ds, Sh n d) : Sh (n + 1) (.tuple ds) := by
  obtain ⟨h1, h2⟩ := sh_all h
  unfold Sh PyData.canLay0 PyData.depth
  exact ⟨h1, by omega⟩
theorem sh_int {n : Nat} {i : Int} : Sh n (.int i) := ⟨by unfold PyData.canLay0; rfl, by unfold PyData.depth; omega⟩
theorem sh_bool {n : Nat} {b : Bool} : Sh n (.bool b) := ⟨by unfold PyData.canLay0; rfl, by unfold PyData.depth; omega⟩
theorem sh_none {n : Nat} : Sh n .none := ⟨by unfold PyData.canLay0; rfl, by unfold PyData.depth; omega⟩
def SOk (t : Str) : Prop := ∀ c ∈ t.cps.toList, c < 0x110000
theorem sok_iff {t : Str} : SOk t ↔ PyData.strOk t = true := by
  unfold SOk PyData.strOk
  rw [Array.all_eq_true']
  simp
theorem sh_str {n : Nat} {t : Str} (h : SOk t) : Sh n (.str t) := ⟨by unfold PyData.canLay0; exact sok_iff.mp h, by unfold PyData.depth; omega⟩
theorem sok_app {a b : Str} (h : SOk a) (k : SOk b) : SOk (a ++ b) := by
  intro c m
  have : (a ++ b).cps.toList = a.cps.toList ++ b.cps.toList := by
    show (a.cps ++ b.cps).toList = _
    rw [Array.toList_append]
  rw [this] at m
  rcases List.mem_append.mp m with m | m
  · exact h c m
  · exact k c m
theorem sok_cut {t : Str} (h : SOk t) (lo hi : Option Int) : SOk (cutS t lo hi) := by
  intro c m
  unfold cutS at m
  exact h c (List.mem_of_mem_drop (List.mem_of_mem_take (by simpa using m)))
theorem shaped_of {n : Nat} {d : D} (h : Sh n d) (k : n ≤ 64) : SeqAt.shaped d = true := by
  unfold SeqAt.shaped
  rw [h.1, Bool.true_and]
  exact decide_eq_true (by have := h.2; omega)
def noflat : D → Bool
  | .list _ => true | .tuple _ => true | _ => false
theorem flat_no {a b : D} (h : noflat a = true) : flat2 a b = false := by cases a <;> first | rfl | cases h
theorem ne_self {n : Nat} {d : D} (h : Sh n d) (k : n ≤ 64) (f : noflat d = true) : neD d d = some (.bool false) := by
  unfold neD
  rw [flat_no f, if_neg (by decide), shaped_of h k, eqv_rfl d h.1]
  rfl
theorem eq_self' {n : Nat} {d : D} (h : Sh n d) (k : n ≤ 64) (f : noflat d = true) : eqD d d = some (.bool true) := by
  unfold eqD
  rw [flat_no f, if_neg (by decide), shaped_of h k, eqv_rfl d h.1]
  rfl
theorem val_of {P : Tm → Prop} {as0 : List Sl} {r : Res} (h : okF (fun tm as => P tm ∧ as = as0) noF r) : ∃ tm, r = .val tm as0 ∧ P tm := by
  cases r with
  | val t as => exact ⟨t, by rw [h.2], h.1⟩
  | ex e as => exact h.elim
  | bad => exact h.elim
/-! comprehensions -/
theorem lc_map {K : Tm → Rho → Prop} {X : KX} {g : D → Rho → Option Rho} {e : M D} {vs : List Nat} {ρ0 ρ : Rho} {ds : List D} (base B : Rho) (put : D → Rho) (y : D → D) (hl : ds.length < 1000000) (hb : wipeR ρ vs = base) (hB : backR ρ0 vs ρ = B)
    (hs : ∀ d ∈ ds, g d base = some (put d) ∧ wipeR (put d) vs = base ∧ backR ρ0 vs (put d) = B ∧ okM (fun z ρ3 => z = y d ∧ ρ3 = put d) noX (e (put d))) (hk : K (.l (ds.map y)) B) : okM K X (endL ρ0 vs (lcL g (pureM true) e vs ds [] ρ)) := by
  refine lc_inv (fun r acc ρ' => (∃ pre, ds = pre ++ r ∧ acc = pre.map y) ∧ wipeR ρ' vs = base ∧ backR ρ0 vs ρ' = B) (fun acc ρ' h => ?_) (fun d r acc ρ' h => ?_) ⟨⟨[], rfl, rfl⟩, hb, hB⟩
  · obtain ⟨⟨pre, h1, rfl⟩, _, h2⟩ := h
    rw [List.append_nil] at h1
    rw [h2, ← h1]
    exact hk
  · obtain ⟨⟨pre, h1, rfl⟩, h2, h3⟩ := h
    obtain ⟨k1, k2, k3, k4⟩ := hs d (by rw [h1]; exact List.mem_append_right _ List.mem_cons_self)
    refine ⟨put d, by rw [h2]; exact k1, ?_⟩
    show okM (fun y' ρ3 => (pre.map y).length < 1000000 ∧ _) noX (e (put d))
    refine okM_imp k4 (fun z ρ3 q => ?_) fun _ _ z => z
    obtain ⟨rfl, rfl⟩ := q
    have hl2 := congrArg List.length h1
    rw [List.length_append, List.length_cons] at hl2
    refine ⟨by rw [List.length_map]; omega, ⟨pre ++ [d], by rw [h1, List.append_assoc]; rfl, by rw [List.map_append]; rfl⟩, k2, k3⟩
end EV

/-! # The end of a law of the EV layer -/
namespace He
open PySem PySem.Spec PyProof.Rows L2
def dD (st : Stmt) (x : Str) : DefD := ⟨(x, none), x, x, defArgs st, defBody st, defScope st, [], []⟩
theorem funD_to {K : PySem.W.Frag} {x : Str} {st : Stmt} {f : Addr} {fd : FuncData} (F : FunD K x x (defArgs st) (defBody st) (defScope st) [] [] f fd) : Fun K x x st f fd := by
  obtain ⟨oc, od, dV, kV, doc, pm, an, cdv, ct, osl, rfl, lk, hc, hd, _⟩ := F.ex
  rcases hd with ⟨_, rfl⟩ | ⟨h, _⟩
  · exact ⟨⟨oc, od, kV, doc, pm, an, cdv, ct, osl, rfl, lk, hc⟩, F.kp⟩
  · exact absurd rfl h
/-! ### a method that closes over __class__ -/
abbrev FnC : Type := Option (Str × Str × Arguments × FuncBody × Scope × Addr × List Str × Value × Addr)
def fnC (K : PySem.W.Frag) (p : Str × Option Str) : FnC := match K.lookup (fAd K p) with
  | some ⟨_, _, .func fd, _⟩ => some (fd.name, fd.qualname, fd.params, fd.body, fd.scope, fd.globals, fd.closure.map (·.1), fd.defaults, fd.builtins)
  | _ => none
structure MthD where
  cls : Str
  name : Str
  qual : Str
  st : Stmt
def MthD.at_ (d : MthD) : Str × Option Str := (d.cls, some d.name)
def MthD.val (d : MthD) : FnC := some (d.name, d.qual, defArgs d.st, .stmts (defBody d.st), defScope d.st, mainGlobals, ["__class__"], .none, builtinsNs)
def fdOf (K : PySem.W.Frag) (p : Str × Option Str) : Option FuncData := match K.lookup (fAd K p) with
  | some ⟨_, _, .func fd, _⟩ => some fd
  | _ => none
def ccOf (K : PySem.W.Frag) (p : Str × Option Str) : Addr := match fdOf K p with
  | some fd => (match fd.closure with
    | (_, c) :: _ => c
    | _ => 0)
  | _ => 0
def cdOf (K : PySem.W.Frag) (p : Str × Option Str) : Value := match fdOf K p with
  | some fd => fd.code
  | _ => .none
theorem mth_ok {K : PySem.W.Frag} {d : MthD} (e : fnC K d.at_ = d.val) : ∃ oc od osl kV doc pm an ct, K.lookup (fAd K d.at_) = some ⟨oc, od, .func (PySem.W.ksFn d.name d.qual (defArgs d.st) (defBody d.st) (defScope d.st) .none kV doc pm an (cdOf K d.at_) ct (ccOf K d.at_)), osl⟩ := by
  unfold fnC at e
  unfold cdOf ccOf fdOf
  cases q : K.lookup (fAd K d.at_) with
  | none => rw [q] at e; cases e
  | some o =>
    obtain ⟨oc, od, dt, osl⟩ := o
    rw [q] at e
    cases dt with
    | func fd =>
      obtain ⟨n1, n2, n3, n4, n5, n6, n7, n8, n9, n10, n11, n12, n13, n14, n15⟩ := fd
      have e2 : (some (n1, n2, n3, n4, n5, n6, n7.map (·.1), n8, n15) : FnC) = (some (d.name, d.qual, defArgs d.st, .stmts (defBody d.st), defScope d.st, mainGlobals, ["__class__"], .none, builtinsNs) : FnC) := e
      simp only [Option.some.injEq, Prod.mk.injEq] at e2
      obtain ⟨h1, h2, h3, h4, h5, h6, h7, h9, h8⟩ := e2
      subst h1 h2 h3 h4 h5 h6 h8 h9
      match n7, h7 with
      | [(a, c)], h7 =>
        simp only [List.map_cons, List.map_nil, List.cons.injEq, and_true] at h7
        subst h7
        exact ⟨oc, od, osl, n9, n10, n11, n12, n14, rfl⟩
    | _ => cases e
/-! ### the facts of an own exception class as a Bool -/
def oexB (K : PySem.W.Frag) (C : Addr) : Bool := (match K.lookup C with
  | some ⟨.type "type", _, .cls cd, sl⟩ => (match cd.mro, sl.toList with
    | .ref C' :: bm, [_, _, _, _, some (.builtin n), _] => C' == C && n == "ValueError.__new__" && !cd.hasDel && (PySem.HandSPX.refsVE bm && cd.hasDict)
    | _, _ => false)
  | _ => false) && (eqO (PySem.W.findIn K (.ref C) "__setattr__") (some (some (.builtin "object.__setattr__"))) && (decide (PySem.W.subIn K (.ref C) (.type "BaseException") = some true) && (decide (PySem.W.typeIn K (.ref C) = some (.type "type")) && PySem.W.keepIn K (.ref C))))
theorem oexB_ok {K : PySem.W.Frag} {C : Addr} (h : oexB K C = true) : OexC K C := by
  obtain ⟨h0, h⟩ := ba h
  obtain ⟨h1, h⟩ := ba h
  obtain ⟨h2, h⟩ := ba h
  obtain ⟨h3, h4⟩ := ba h
  refine ⟨?_, eqO_ok h1, of_decide_eq_true h2, of_decide_eq_true h3, h4⟩
  split at h0
  · rename_i dd cd sl ho
    split at h0
    · rename_i C' bm k0 k1 k2 k3 n k5 hm hs
      simp only [Bool.and_eq_true, beq_iff_eq, Bool.not_eq_true'] at h0
      obtain ⟨⟨⟨rfl, rfl⟩, hdel⟩, ht, hd⟩ := h0
      obtain ⟨nm, bs, mro, ns, qn, hd', sn, sub, ab, col, del⟩ := cd
      dsimp only at hm hdel hd
      subst hm hdel hd
      have hsl : sl = #[k0, k1, k2, k3, some (.builtin "ValueError.__new__"), k5] := by
        obtain ⟨l⟩ := sl
        simp only at hs
        rw [hs]
      subst hsl
      exact ⟨_, _, _, _, _, _, _, _, _, _, _, _, _, _, _, ho, ht⟩
    · cases h0
  · cases h0
def excB (K : PySem.W.Frag) (D : Addr) : Bool := eqO (PySem.W.findIn K (.ref D) "__class__") (some (some (.builtin "object.__class__"))) && (eqO (PySem.W.specialIn K (.builtin "object.__class__") "__get__") (some (some (.builtin "getset_descriptor.__get__"))) && (decide (PySem.W.takesIn K (.builtin "object.__class__") = some true) && decide (PySem.W.mroIn K D (.type "object") = some true)))
theorem excB_ok {K : PySem.W.Frag} {D : Addr} (f : XfC K D) (h : excB K D = true) : ExcC K D := by
  obtain ⟨h1, h⟩ := ba h
  obtain ⟨h2, h⟩ := ba h
  obtain ⟨h3, h4⟩ := ba h
  exact ⟨f.ga, f.gg, f.exC, f.hdC, eqO_ok h1, eqO_ok h2, of_decide_eq_true h3, of_decide_eq_true h4⟩
def supB (K : PySem.W.Frag) (d : MthD) (file : Str) : Bool := oexB K (ga K d.cls) && ((match K.lookup (ccOf K d.at_) with
  | some ⟨_, _, .cell (some (.ref a)), _⟩ => a == ga K d.cls
  | _ => false) && ((PySem.W.clsIn K (ga K d.cls)).isSome && (decide (PySem.W.mroIn K (ga K d.cls) (.ref (ga K d.cls)) = some true) && (eqO (PySem.W.ks_superIn K (ga K d.cls) (ga K d.cls) "__init__") (some (some (.builtin "ValueError.__init__"))) &&
  (decide (PySem.W.subIn K (.ref (ga K d.cls)) (.type "ValueError") = some true) && (eqO (PySem.W.nsIn K cStatics "thirdparty.any") (some none) && ((match cdOf K d.at_ with
  | .ref c => (match K.lookup c with
    | some ⟨_, _, .fields vs, _⟩ => (match (vs[2]? : Option Value) with
      | some (.str f _) => f == file
      | _ => false)
    | _ => false)
  | _ => false) && (PySem.W.codeIn K (cdOf K d.at_) d.qual && (eqO (PySem.W.findIn K (.ref (ga K d.cls)) "__init__") (some (some (.ref (fAd K d.at_)))) && decide (PySem.W.typeIn K (.ref (fAd K d.at_)) = some (.type "function")))))))))))
theorem supB_ok {K : PySem.W.Frag} {d : MthD} {file ar : Str} (e : fnC K d.at_ = d.val) (h : supB K d file = true) (hp : ∃ a : Arg, ((defArgs d.st).posonlyargs ++ (defArgs d.st).args).head? = some a ∧ a.arg = ar) :
    ∃ kV doc pm an ct, SupC K (ga K d.cls) (ccOf K d.at_) (fAd K d.at_) (cdOf K d.at_) file d.qual ar (PySem.W.ksFn d.name d.qual (defArgs d.st) (defBody d.st) (defScope d.st) .none kV doc pm an (cdOf K d.at_) ct (ccOf K d.at_)) ∧ OexC K (ga K d.cls) ∧ PySem.W.findIn K (.ref (ga K d.cls)) "__init__" = some (some (.ref (fAd K d.at_))) ∧ PySem.W.typeIn K (.ref (fAd K d.at_)) = some (.type "function") := by
  obtain ⟨oc, od, osl, kV, doc, pm, an, ct, lk⟩ := mth_ok e
  obtain ⟨h0, h⟩ := ba h
  obtain ⟨h1, h⟩ := ba h
  obtain ⟨h2, h⟩ := ba h
  obtain ⟨h3, h⟩ := ba h
  obtain ⟨h4, h⟩ := ba h
  obtain ⟨h5, h⟩ := ba h
  obtain ⟨h6, h⟩ := ba h
  obtain ⟨h7, h⟩ := ba h
  obtain ⟨h8, h⟩ := ba h
  obtain ⟨h9, h10⟩ := ba h
  refine ⟨kV, doc, pm, an, ct, ⟨oexB_ok h0, ?_, Option.isSome_iff_exists.mp h2, of_decide_eq_true h3, eqO_ok h4, of_decide_eq_true h5, eqO_ok h6, ?_, ⟨oc, od, osl, lk⟩, h8, hp⟩, oexB_ok h0, eqO_ok h9, of_decide_eq_true h10⟩
  · split at h1
    · rename_i a b c d' q
      rw [beq_iff_eq.mp h1] at q
      exact ⟨_, _, _, q⟩
    · cases h1
  · split at h7
    · rename_i c hc
      split at h7
      · rename_i a b vs d' q
        split at h7
        · rename_i f t hv
          rw [beq_iff_eq.mp h7] at hv
          exact ⟨c, _, _, vs, _, t, hc, q, hv⟩
        · cases h7
      · cases h7
    · cases h7
/-! ### the Hook, with methods, and the builtins' statics at hand -/
theorem tab_at {g : Addr → Option Obj} {tf : List Defn} {K : PySem.W.Frag} (h : tabsB g tf K = true) {p : Defn} (hp : p ∈ tf) : PySem.W.codeHdIn K (cT K p).1 (cT K p).2 = true ∧ ∃ o, g (cT K p).2 = some o ∧ emptyTab o = true := by
  have z := ba (List.all_eq_true.mp h p hp)
  refine ⟨z.1, ?_⟩
  have z2 := z.2
  split at z2
  · rename_i o q
    exact ⟨o, q, z2⟩
  · cases z2
theorem says_at {l : List Addr} {fa : List Fa} {fn : List DefD} {ts : List Tab} {tf : List Defn} {ex : PySem.W.Frag → Bool} {w : World} {h : Heap} (e1 : obsT fa fn ts (frT h.get? l) = valT fn ts w) (e2 : ex (frT h.get? l) = true) (e3 : tabsB h.get? tf (frT h.get? l) = true) : SaysX fa fn ts tf ex w h (frT h.get? l) where
  t := e1
  more := e2
  hd := fun p hp => (tab_at e3 hp).1
  out := fun p hp => by
    obtain ⟨o, q, z⟩ := (tab_at e3 hp).2
    exact frT_none q z
  empty := fun p hp => by
    obtain ⟨o, q, z⟩ := (tab_at e3 hp).2
    rw [emptyTab_eq z] at q
    exact q
abbrev AlY : Type := (AlT × Bool × Bool) × List FnC
def asY (g : Addr → Option Obj) (n : Nat) : List Addr := cStatics :: asD g n
def obsY (n : Nat) (fa : List Fa) (fn : List DefD) (ts : List Tab) (tf : List Defn) (ex : PySem.W.Frag → Bool) (ms : List MthD) (g : Addr → Option Obj) : AlY := ((obsT fa fn ts (frT g (asY g n)), ex (frT g (asY g n)), tabsB g tf (frT g (asY g n))), ms.map fun d => fnC (frT g (asY g n)) d.at_)
def hookY (n : Nat) (fa : List Fa) (fn : List DefD) (ts : List Tab) (tf : List Defn) (ex : PySem.W.Frag → Bool) (ms : List MthD) : PySem.W.Hook where
  α := AlY
  obs s := obsY n fa fn ts tf ex ms s.heap.get?
  val w := ((valT fn ts w, true, true), ms.map MthD.val)
  says w h := ∃ K : PySem.W.Frag, K.In h ∧ SaysX fa fn ts tf ex w h K ∧ (ms.map fun d => fnC K d.at_) = ms.map MthD.val
  of _ _ e := ⟨_, frT_in, says_at (congrArg (fun z : AlY => z.1.1) e) (congrArg (fun z : AlY => z.1.2.1) e) (congrArg (fun z : AlY => z.1.2.2) e), congrArg (fun z : AlY => z.2) e⟩
  keeps _ _ _ z k := by
    obtain ⟨K, hK, c, m⟩ := z
    exact ⟨K, hK.keeps k, ⟨c.t, c.more, c.hd, c.out, fun p hp => k _ _ (c.empty p hp)⟩, m⟩
theorem obsY_eq {n : Nat} {fa : List Fa} {fn : List DefD} {ts : List Tab} {tf : List Defn} {ex : PySem.W.Frag → Bool} {ms : List MthD} {g : Addr → Option Obj} {s : Shared} (h : ∀ a, g a = s.heap.get? a) : obsY n fa fn ts tf ex ms g = (hookY n fa fn ts tf ex ms).obs s := by
  have z : g = fun a => s.heap.get? a := funext h
  subst z
  rfl
theorem mths_at {K : PySem.W.Frag} {ms : List MthD} (h : (ms.map fun d => fnC K d.at_) = ms.map MthD.val) (i : Nat) {d : MthD} (e : ms[i]? = some d := by rfl) : fnC K d.at_ = d.val := by
  have e2 : (ms.map fun d => fnC K d.at_)[i]? = (ms.map MthD.val)[i]? := by rw [h]
  rw [List.getElem?_map, List.getElem?_map, e] at e2
  exact Option.some.inj e2
end He
namespace EV
open PySem PySem.Spec PyProof.Rows L2 Ver
theorem entryF {C : Cfg} {F : List Sl → Res} {H : Hp} {a : Addr} {ns : List Int} {Q : VK} {E : XK} (hT : ∀ P ∈ C.Ts, H P = some (.tbl #[])) (hS : SqL C.K H a (ns.map V.int)) (e : F [.d (.list (ns.map .int))] = .val (.d (.bool true)) [.d (.list (ns.map .int))]) (hQ : ∀ H', Q (.bl true) H') : spF C 1 F [.ref a] H Q E := by
  have inS : ∀ (h : Hp) (ns : List Int), DpAll C.K h (ns.map V.int) (ns.map PyData.int) := fun h ns => by
    induction ns with
    | nil => exact .nil
    | cons n r ih => exact .cons (.int n) ih
  refine ⟨fun b => if b ∈ C.Ts then none else H b, [.d (.list (ns.map .int))], rfl, fun b o q => ?_, ⟨?_, trivial⟩, List.nodup_nil, fun P hP => ⟨⟨#[], hT P hP, trivial⟩, if_pos hP⟩, ?_⟩
  · have q : (if b ∈ C.Ts then none else H b) = some o := q
    by_cases z : b ∈ C.Ts
    · rw [if_pos z] at q; cases q
    · rw [if_neg z] at q; exact q
  · have nt : ∀ o, H a = some o → o ≠ .tbl #[] → (if a ∈ C.Ts then none else H a) = some o := fun o q n => by
      by_cases z : a ∈ C.Ts
      · have := hT a z
        rw [q] at this
        exact absurd (Option.some.inj this) n
      · rw [if_neg z]; exact q
    refine .lst ?_ (inS _ ns)
    rcases hS with (h | ⟨o, h⟩) | h
    · exact .inl (.inl (nt _ h fun z => nomatch z))
    · exact .inl (.inr ⟨o, nt _ h fun z => nomatch z⟩)
    · exact .inr h
  · rw [e]
    intro v h' H' _ _ ht
    rw [dp_bool ht]
    exact hQ H'
end EV

namespace Ver
open PySem
def top (i : Nat) : Stmt := PySem.Challenge.pw_oncefolded_k05_tokens.main.body.getD i (.Pass ⟨0, 0, 0, 0⟩)
end Ver

/-! ## The defs as functions over data -/
namespace EV
open PySem PySem.Spec PyProof.Rows L2 Ver
abbrev s_law_mix : Stmt := top 17
def B_law_mix : Rho → Out := (seqS (setS 0 (tmD (bop modD (valO (caX intF (consR (valO (bop addD (valO (bop mulD (nmO 0) (valO (pureM (.int 6364136223846793005))))) (valO (pureM (.int 1442695040888963407))))) (pureM [])))) (valO (pureM (.int 18446744073709551616)))))) (seqS (retS (tmD (bop modD (valO (caX intF (consR (valO (bop addD (valO (bop fdivD (valO (bop mulD (nmO 0) (nmO 0))) (valO (pureM (.int 4294967296))))) (valO (bop mulD (nmO 0) (valO (pureM (.int 69621))))))) (pureM [])))) (valO (pureM (.int 18446744073709551557)))))) skipS))
def F_law_mix : List Sl → Res := runF 1 B_law_mix
theorem sc_law_mix : FnScope ["number"] ["number"] (defScope s_law_mix) := ⟨rfl, rfl, rfl, by decide +kernel, rfl, by decide +kernel, by decide +kernel⟩
theorem ok_law_mix {C : Cfg} {P : Program} {w : World} {base : Heap} {f : Addr} {fd : FuncData} (B : Blt C.mg) (F : Fun C.K "_law_mix" "_law_mix" s_law_mix f fd) : FnOk P w C.K C.mg base (L2.CX P w) 1 f fd ["number"] (spF C 1 F_law_mix) :=
  ev_fn (k := 0) F sc_law_mix (by decide) fun cdv A outer s H E hr => by
    have tk := takes_of (X := cxOf (L2.CX P w) P w C.K C.mg base ["number"] "_law_mix" (defScope s_law_mix) f cdv A outer s H E) (E := E) rfl rfl rfl rfl
    exact (ss_cons (ss_set (i := 0) sc_law_mix.nd rfl (.inl rfl) (pc_of (px_op op_mod od_mod (po_of (px_callTy call_int1 ca_int (by rfl) B.int (by decide +kernel) (pao_cons (po_of (px_op op_addD od_add (po_of (px_op op_mul od_mul (po_name (pv 0)) (po_of px_int))) (po_of px_int))) pao_nil))) (po_of px_int))))
  (ss_cons (ss_ret (pc_of (px_op op_mod od_mod (po_of (px_callTy call_int1 ca_int (by rfl) B.int (by decide +kernel) (pao_cons (po_of (px_op op_addD od_add (po_of (px_op op_fdivW od_fdiv (po_of (px_op op_mul od_mul (po_name (pv 0)) (po_name (pv 0)))) (po_of px_int))) (po_of (px_op op_mul od_mul (po_name (pv 0)) (po_of px_int))))) pao_nil))) (po_of px_int))))
  ss_nil))
abbrev s_law_tape : Stmt := top 18
def B_law_tape : Rho → Out := (seqS (retS (ownX (consM (frzM (lstOf (nmO 0))) (consM (pureM (.int 0)) (consM (pureM (.int 0)) (consM (pureM (.int 1)) (consM (nmX 1) (pureM [])))))))) skipS)
def F_law_tape : List Sl → Res := runF 2 B_law_tape
theorem sc_law_tape : FnScope ["script", "budget"] ["script", "budget"] (defScope s_law_tape) := ⟨rfl, rfl, rfl, by decide +kernel, rfl, by decide +kernel, by decide +kernel⟩
theorem ok_law_tape {C : Cfg} {P : Program} {w : World} {base : Heap} {f : Addr} {fd : FuncData} (B : Blt C.mg) (F : Fun C.K "_law_tape" "_law_tape" s_law_tape f fd) : FnOk P w C.K C.mg base (L2.CX P w) 1 f fd ["script", "budget"] (spF C 2 F_law_tape) :=
  ev_fn (k := 0) F sc_law_tape (by decide) fun cdv A outer s H E hr => by
    have tk := takes_of (X := cxOf (L2.CX P w) P w C.K C.mg base ["script", "budget"] "_law_tape" (defScope s_law_tape) f cdv A outer s H E) (E := E) rfl rfl rfl rfl
    exact (ss_cons (ss_ret (pc_lst (pax_cons (px_of (pc_list rfl (by rfl) B.list (po_name (pv 0)))) (pax_cons px_int (pax_cons px_int (pax_cons px_int (pax_cons (px_name (pv 1)) pax_nil)))))))
  ss_nil)
abbrev s_law_take : Stmt := top 19
def B_law_take : Rho → Out := (seqS (ifS (tst (bop ltD (valO (bop getD (nmO 0) (valO (pureM (.int 2))))) (nmO 1)))
  (seqS (ifS (tst (bop ltD (valO (bop getD (nmO 0) (valO (pureM (.int 1))))) (valO (caX lenD (consR (valO (bop getD (nmO 0) (valO (pureM (.int 0))))) (pureM []))))))
  (seqS (setS 2 (tmD (bop getD (valO (bop getD (nmO 0) (valO (pureM (.int 0))))) (valO (bop getD (nmO 0) (valO (pureM (.int 1)))))))) (seqS (setS 2 (tmD (ifX (tst (bop geD (nmO 2) (valO (pureM (.int 0))))) (bop mulD (valO (pureM (.int 2))) (nmO 2)) (bop subD (valO (bop mulD (valO (negX (pureM (.int 2)))) (nmO 2))) (valO (pureM (.int 1))))))) (seqS (asgIx 0 (bop addD (valO (bop getD (nmO 0) (valO (pureM (.int 1))))) (valO (pureM (.int 1)))) (valO (pureM (.int 1)))) (seqS (asgIx 0 (frzM (callX F_law_mix 1 (consR (valO (bop addD (valO (bop getD (nmO 0) (valO (pureM (.int 3))))) (nmO 2))) (pureM [])))) (valO (pureM (.int 3)))) (seqS (asgIx 0 (ifX (tst (bop geD (nmO 2) (valO (bop powD (valO (pureM (.int 10))) (valO (pureM (.int 18))))))) (nmX 2) (frzM (callX F_law_mix 1 (consR (valO (frzM (callX F_law_mix 1 (consR (valO (nmX 2)) (pureM []))))) (pureM []))))) (valO (pureM (.int 2)))) skipS)))))
  (seqS (asgIx 0 (frzM (callX F_law_mix 1 (consR (valO (bop addD (valO (bop getD (nmO 0) (valO (pureM (.int 3))))) (valO (pureM (.int 1))))) (pureM [])))) (valO (pureM (.int 3)))) (seqS (asgIx 0 (bop getD (nmO 0) (valO (pureM (.int 3)))) (valO (pureM (.int 2)))) skipS))) skipS)
  skipS) (seqS (setS 3 (tmD (bop modD (valO (caX intF (consR (valO (bop getD (nmO 0) (valO (pureM (.int 2))))) (pureM [])))) (nmO 1)))) (seqS (asgIx 0 (bop fdivD (valO (bop getD (nmO 0) (valO (pureM (.int 2))))) (nmO 1)) (valO (pureM (.int 2)))) (seqS (retS (nmT 3)) skipS))))
def F_law_take : List Sl → Res := runF 4 B_law_take
theorem sc_law_take : FnScope ["tape", "many", "cell", "digit"] ["tape", "many"] (defScope s_law_take) := ⟨rfl, rfl, rfl, by decide +kernel, rfl, by decide +kernel, by decide +kernel⟩
theorem ok_law_take {C : Cfg} {P : Program} {w : World} {base : Heap} {f : Addr} {fd : FuncData} (B : Blt C.mg) (F : Fun C.K "_law_take" "_law_take" s_law_take f fd) {f_law_mix : Addr} {fd_law_mix : FuncData} (c_law_mix : Cal C.K C.mg "_law_mix" f_law_mix fd_law_mix ["number"]) (G_law_mix : FnOk P w C.K C.mg base (L2.CX P w) 1 f_law_mix fd_law_mix ["number"] (spF C 1 F_law_mix)) : FnOk P w C.K C.mg base (L2.CX P w) 2 f fd ["tape", "many"] (spF C 2 F_law_take) :=
  ev_fn (k := 1) F sc_law_take (by decide) fun cdv A outer s H E hr => by
    have tk := takes_of (X := cxOf (L2.CX P w) P w C.K C.mg base ["tape", "many", "cell", "digit"] "_law_take" (defScope s_law_take) f cdv A outer s H E) (E := E) rfl rfl rfl rfl
    exact (ss_cons (ss_if (pb_cmp op_ltA od_ord (po_of (px_ix rfl (po_name (pv 0)) (po_of px_int))) (po_name (pv 1)) (nomark _))
  (ss_cons (ss_if (pb_cmp op_ltA od_ord (po_of (px_ix rfl (po_name (pv 0)) (po_of px_int))) (po_of (px_callB call_len ca_len (by rfl) B.len PySem.boot_len (pao_cons (po_of (px_ix rfl (po_name (pv 0)) (po_of px_int))) pao_nil))) (nomark _))
  (ss_cons (ss_set (i := 2) sc_law_take.nd rfl (.inl rfl) (pc_of (px_ix rfl (po_of (px_ix rfl (po_name (pv 0)) (po_of px_int))) (po_of (px_ix rfl (po_name (pv 0)) (po_of px_int))))))
  (ss_cons (ss_set (i := 2) sc_law_take.nd rfl (.inl rfl) (pc_of (px_if (pb_cmp op_geA od_ord (po_name (pv 2)) (po_of px_int) (nomark _)) (px_op op_mul od_mul (po_of px_int) (po_name (pv 2))) (px_op op_sub od_sub (po_of (px_op op_mul od_mul (po_of (px_neg px_int)) (po_name (pv 2)))) (po_of px_int)))))
  (ss_cons (ss_setIx (pv 0) (px_op op_addD od_add (po_of (px_ix rfl (po_name (pv 0)) (po_of px_int))) (po_of px_int)) (po_of px_int))
  (ss_cons (ss_setIx (pv 0) (px_of (pc_call rfl G_law_mix (hr.mono (by first | decide | omega)) (by rfl) c_law_mix.m c_law_mix.k c_law_mix.b tk (pao_cons (po_of (px_op op_addD od_add (po_of (px_ix rfl (po_name (pv 0)) (po_of px_int))) (po_name (pv 2)))) pao_nil))) (po_of px_int))
  (ss_cons (ss_setIx (pv 0) (px_if (pb_cmp op_geA od_ord (po_name (pv 2)) (po_of (px_op op_pow od_pow (po_of px_int) (po_of px_int))) (nomark _)) (px_name (pv 2)) (px_of (pc_call rfl G_law_mix (hr.mono (by first | decide | omega)) (by rfl) c_law_mix.m c_law_mix.k c_law_mix.b tk (pao_cons (po_of (px_of (pc_call rfl G_law_mix (hr.mono (by first | decide | omega)) (by rfl) c_law_mix.m c_law_mix.k c_law_mix.b tk (pao_cons (po_of (px_name (pv 2))) pao_nil)))) pao_nil)))) (po_of px_int))
  ss_nil)))))
  (ss_cons (ss_setIx (pv 0) (px_of (pc_call rfl G_law_mix (hr.mono (by first | decide | omega)) (by rfl) c_law_mix.m c_law_mix.k c_law_mix.b tk (pao_cons (po_of (px_op op_addD od_add (po_of (px_ix rfl (po_name (pv 0)) (po_of px_int))) (po_of px_int))) pao_nil))) (po_of px_int))
  (ss_cons (ss_setIx (pv 0) (px_ix rfl (po_name (pv 0)) (po_of px_int)) (po_of px_int))
  ss_nil)))
  ss_nil)
  ss_nil)
  (ss_cons (ss_set (i := 3) sc_law_take.nd rfl (.inl rfl) (pc_of (px_op op_mod od_mod (po_of (px_callTy call_int1 ca_int (by rfl) B.int (by decide +kernel) (pao_cons (po_of (px_ix rfl (po_name (pv 0)) (po_of px_int))) pao_nil))) (po_name (pv 1)))))
  (ss_cons (ss_setIx (pv 0) (px_op op_fdivW od_fdiv (po_of (px_ix rfl (po_name (pv 0)) (po_of px_int))) (po_name (pv 1))) (po_of px_int))
  (ss_cons (ss_ret (pc_name (pv 3)))
  ss_nil))))
abbrev sholds : Stmt := top 5
def Bholds : Rho → Out := (seqS (whileS (tru (valO (isiX "tuple" (nmO 0)))) (seqS (asgS (nmX 0) (tupG 3 (consG (nmG 3) (consG (nmG 4) (consG (nmG 2) nilG))))) (seqS (setS 0 (tmD (ifX (tst (bop eqD (valO (bop getD (nmO 1) (nmO 3))) (valO (pureM (.int 1))))) (nmX 2) (nmX 4)))) skipS)) 1000) (seqS (retS (nmT 0)) skipS))
def Fholds : List Sl → Res := runF 5 Bholds
theorem scholds : FnScope ["d", "configuration", "high", "i", "low"] ["d", "configuration"] (defScope sholds) := ⟨rfl, rfl, rfl, by decide +kernel, rfl, by decide +kernel, by decide +kernel⟩
theorem okholds {C : Cfg} {P : Program} {w : World} {base : Heap} {f : Addr} {fd : FuncData} (B : Blt C.mg) (F : Fun C.K "holds" "holds" sholds f fd) : FnOk P w C.K C.mg base (L2.CX P w) 1 f fd ["d", "configuration"] (spF C 2 Fholds) :=
  ev_fn (k := 0) F scholds (by decide) fun cdv A outer s H E hr => by
    have tk := takes_of (X := cxOf (L2.CX P w) P w C.K C.mg base ["d", "configuration", "high", "i", "low"] "holds" (defScope sholds) f cdv A outer s H E) (E := E) rfl rfl rfl rfl
    exact (ss_cons (ss_while 1000 (passes_of rfl) (pb_tru rfl (po_of (px_isi rfl kit_tup (by rfl) B.isi (pe_bltn (v := .ty "tuple") (by rfl) B.tuple (by decide +kernel) rfl) (po_name (pv 0))))) (ss_cons (ss_asg (px_name (pv 0)) (tg_tup rfl (by rfl) (tgs_cons (tg_name (pg_name (i := 3) scholds.nd rfl (.inl rfl))) (tgs_cons (tg_name (pg_name (i := 4) scholds.nd rfl (.inl rfl))) (tgs_cons (tg_name (pg_name (i := 2) scholds.nd rfl (.inl rfl))) tgs_nil)))))
  (ss_cons (ss_set (i := 0) scholds.nd rfl (.inl rfl) (pc_of (px_if (pb_cmp (op_eqA hr.units) od_eq (po_of (px_ix rfl (po_name (pv 1)) (po_name (pv 3)))) (po_of px_int) (nomark _)) (px_name (pv 2)) (px_name (pv 4)))))
  ss_nil)))
  (ss_cons (ss_ret (pc_name (pv 0)))
  ss_nil))
abbrev s_kind_of : Stmt := top 12
def B_kind_of : Rho → Out := (seqS (ifS (tst (bop inD (nmO 0) (valO (pureM (.str "abcdefghijklmnopqrstuvwxyzABCDEFGHIJKLMNOPQRSTUVWXYZ")))))
  (seqS (retS (tmD (pureM (.str "word")))) skipS)
  skipS) (seqS (ifS (tst (bop inD (nmO 0) (valO (pureM (.str "0123456789")))))
  (seqS (retS (tmD (pureM (.str "number")))) skipS)
  skipS) (seqS (retS (tmD (ifX (tst (bop inD (nmO 0) (valO (pureM (.str "+-*/(){};,=<>!:.?&|"))))) (pureM (.str "mark")) (pureM (.str ""))))) skipS)))
def F_kind_of : List Sl → Res := runF 1 B_kind_of
theorem sc_kind_of : FnScope ["sign"] ["sign"] (defScope s_kind_of) := ⟨rfl, rfl, rfl, by decide +kernel, rfl, by decide +kernel, by decide +kernel⟩
theorem ok_kind_of {C : Cfg} {P : Program} {w : World} {base : Heap} {f : Addr} {fd : FuncData} (B : Blt C.mg) (F : Fun C.K "_kind_of" "_kind_of" s_kind_of f fd) (g_MARKS : ∃ t, C.mg "MARKS" = some (.str "+-*/(){};,=<>!:.?&|" t)) (g_DIGITS : ∃ t, C.mg "DIGITS" = some (.str "0123456789" t)) (g_LETTERS : ∃ t, C.mg "LETTERS" = some (.str "abcdefghijklmnopqrstuvwxyzABCDEFGHIJKLMNOPQRSTUVWXYZ" t)) : FnOk P w C.K C.mg base (L2.CX P w) 1 f fd ["sign"] (spF C 1 F_kind_of) :=
  ev_fn (k := 0) F sc_kind_of (by decide) fun cdv A outer s H E hr => by
    have tk := takes_of (X := cxOf (L2.CX P w) P w C.K C.mg base ["sign"] "_kind_of" (defScope s_kind_of) f cdv A outer s H E) (E := E) rfl rfl rfl rfl
    exact (ss_cons (ss_if (pb_cmp (op_inA (hu65 hr)) od_in (po_name (pv 0)) (po_of (px_gstr (by rfl) g_LETTERS)) (by rfl))
  (ss_cons (ss_ret (pc_of px_str))
  ss_nil)
  ss_nil)
  (ss_cons (ss_if (pb_cmp (op_inA (hu65 hr)) od_in (po_name (pv 0)) (po_of (px_gstr (by rfl) g_DIGITS)) (by rfl))
  (ss_cons (ss_ret (pc_of px_str))
  ss_nil)
  ss_nil)
  (ss_cons (ss_ret (pc_of (px_if (pb_cmp (op_inA (hu65 hr)) od_in (po_name (pv 0)) (po_of (px_gstr (by rfl) g_MARKS)) (by rfl)) px_str px_str)))
  ss_nil)))
abbrev s_continues : Stmt := top 13
def B_continues : Rho → Out := (seqS (retS (tmD (andX (bop neD (nmO 0) (valO (pureM (.str "mark")))) (orX (bop inD (nmO 1) (valO (pureM (.str "0123456789")))) (andX (bop eqD (nmO 0) (valO (pureM (.str "word")))) (bop inD (nmO 1) (valO (pureM (.str "abcdefghijklmnopqrstuvwxyzABCDEFGHIJKLMNOPQRSTUVWXYZ"))))))))) skipS)
def F_continues : List Sl → Res := runF 2 B_continues
theorem sc_continues : FnScope ["kind", "sign"] ["kind", "sign"] (defScope s_continues) := ⟨rfl, rfl, rfl, by decide +kernel, rfl, by decide +kernel, by decide +kernel⟩
theorem ok_continues {C : Cfg} {P : Program} {w : World} {base : Heap} {f : Addr} {fd : FuncData} (B : Blt C.mg) (F : Fun C.K "_continues" "_continues" s_continues f fd) (g_DIGITS : ∃ t, C.mg "DIGITS" = some (.str "0123456789" t)) (g_LETTERS : ∃ t, C.mg "LETTERS" = some (.str "abcdefghijklmnopqrstuvwxyzABCDEFGHIJKLMNOPQRSTUVWXYZ" t)) : FnOk P w C.K C.mg base (L2.CX P w) 1 f fd ["kind", "sign"] (spF C 2 F_continues) :=
  ev_fn (k := 0) F sc_continues (by decide) fun cdv A outer s H E hr => by
    have tk := takes_of (X := cxOf (L2.CX P w) P w C.K C.mg base ["kind", "sign"] "_continues" (defScope s_continues) f cdv A outer s H E) (E := E) rfl rfl rfl rfl
    exact (ss_cons (ss_ret (pc_of (px_and (px_cmp (op_neA hr.units) od_ne (po_name (pv 0)) (po_of px_str) (nomark _)) (px_one (px_or (px_cmp (op_inA (hu65 hr)) od_in (po_name (pv 1)) (po_of (px_gstr (by rfl) g_DIGITS)) (by rfl)) (px_one (px_and (px_cmp (op_eqA hr.units) od_eq (po_name (pv 0)) (po_of px_str) (nomark _)) (px_one (px_cmp (op_inA (hu65 hr)) od_in (po_name (pv 1)) (po_of (px_gstr (by rfl) g_LETTERS)) (by rfl))))))))))
  ss_nil)
abbrev stokens_of : Stmt := top 11
def Btokens_of : Rho → Out := (seqS (setS 4 (ownX (pureM []))) (seqS (setS 2 (tmD (pureM (.int 0)))) (seqS (whileS (tst (bop ltD (nmO 2) (valO (caX lenD (consR (nmO 0) (pureM [])))))) (seqS (setS 3 (tmD (bop addD (nmO 2) (valO (pureM (.int 1)))))) (seqS (ifS (tst (bop neD (valO (bop getD (nmO 0) (nmO 2))) (valO (pureM (.str " ")))))
  (seqS (setS 6 (callX F_kind_of 1 (consR (valO (bop getD (nmO 0) (nmO 2))) (pureM [])))) (seqS (ifS (tst (bop eqD (nmO 6) (valO (pureM (.str "")))))
  (seqS (raiseS (iniX "BadToken" ["row", "column"] (consM (nmX 1) (consM (nmX 2) (pureM []))))) skipS)
  skipS) (seqS (whileS (andB (tst (bop ltD (nmO 3) (valO (caX lenD (consR (nmO 0) (pureM [])))))) (tru (valO (frzM (callX F_continues 2 (consR (valO (nmX 6)) (consR (valO (bop getD (nmO 0) (nmO 3))) (pureM [])))))))) (seqS (augS 3 iaddD (valO (pureM (.int 1)))) skipS) 1000) (seqS (setS 5 (tmD (andX (bop gtD (nmO 2) (valO (pureM (.int 0)))) (bop neD (valO (bop getD (nmO 0) (valO (bop subD (nmO 2) (valO (pureM (.int 1))))))) (valO (pureM (.str " "))))))) (seqS (dropS (tmD (mtX appD 4 (tupX (consM (nmX 6) (consM (slX (nmO 0) (ptM (nmX 2)) (ptM (nmX 3))) (consM (nmX 1) (consM (nmX 2) (consM (nmX 5) (pureM [])))))))))) skipS)))))
  skipS) (seqS (setS 2 (nmT 3)) skipS))) 1000) (seqS (retS (nmT 4)) skipS))))
def Ftokens_of : List Sl → Res := runF 7 Btokens_of
theorem sctokens_of : FnScope ["text", "row", "column", "end", "found", "glued", "kind"] ["text", "row"] (defScope stokens_of) := ⟨rfl, rfl, rfl, by decide +kernel, rfl, by decide +kernel, by decide +kernel⟩
theorem oktokens_of {C : Cfg} {P : Program} {w : World} {base : Heap} {f : Addr} {fd : FuncData} (B : Blt C.mg) (F : Fun C.K "tokens_of" "tokens_of" stokens_of f fd) {f_continues : Addr} {fd_continues : FuncData} (c_continues : Cal C.K C.mg "_continues" f_continues fd_continues ["kind", "sign"]) (G_continues : FnOk P w C.K C.mg base (L2.CX P w) 1 f_continues fd_continues ["kind", "sign"] (spF C 2 F_continues)) {f_kind_of : Addr} {fd_kind_of : FuncData} (c_kind_of : Cal C.K C.mg "_kind_of" f_kind_of fd_kind_of ["sign"]) (G_kind_of : FnOk P w C.K C.mg base (L2.CX P w) 1 f_kind_of fd_kind_of ["sign"] (spF C 1 F_kind_of)) {Ca_BadToken : Addr} {fI_BadToken : Addr} {fdI_BadToken : FuncData} (I_BadToken : IniC C P w base "BadToken" ["row", "column"] 1 Ca_BadToken fI_BadToken fdI_BadToken ["self", "row", "column"]) : FnOk P w C.K C.mg base (L2.CX P w) 3 f fd ["text", "row"] (spF C 2 Ftokens_of) :=
  ev_fn (k := 2) F sctokens_of (by decide) fun cdv A outer s H E hr => by
    have tk := takes_of (X := cxOf (L2.CX P w) P w C.K C.mg base ["text", "row", "column", "end", "found", "glued", "kind"] "tokens_of" (defScope stokens_of) f cdv A outer s H E) (E := E) rfl rfl rfl rfl
    exact (ss_cons (ss_set (i := 4) sctokens_of.nd rfl (.inl rfl) (pc_lst pax_nil))
  (ss_cons (ss_set (i := 2) sctokens_of.nd rfl (.inl rfl) (pc_of px_int))
  (ss_cons (ss_while 1000 (passes_of rfl) (pb_cmp op_ltA od_ord (po_name (pv 2)) (po_of (px_callB call_len ca_len (by rfl) B.len PySem.boot_len (pao_cons (po_name (pv 0)) pao_nil))) (nomark _)) (ss_cons (ss_set (i := 3) sctokens_of.nd rfl (.inl rfl) (pc_of (px_op op_addD od_add (po_name (pv 2)) (po_of px_int))))
  (ss_cons (ss_if (pb_cmp (op_neA hr.units) od_ne (po_of (px_ix rfl (po_name (pv 0)) (po_name (pv 2)))) (po_of px_str) (nomark _))
  (ss_cons (ss_set (i := 6) sctokens_of.nd rfl (.inl rfl) (pc_call rfl G_kind_of (hr.mono (by first | decide | omega)) (by rfl) c_kind_of.m c_kind_of.k c_kind_of.b tk (pao_cons (po_of (px_ix rfl (po_name (pv 0)) (po_name (pv 2)))) pao_nil)))
  (ss_cons (ss_if (pb_cmp (op_eqA hr.units) od_eq (po_name (pv 6)) (po_of px_str) (nomark _))
  (ss_cons (rs_ini I_BadToken rfl rfl (by rfl) tk (hr.mono (by first | decide | omega)) (by rfl) (pax_cons (px_name (pv 1)) (pax_cons (px_name (pv 2)) pax_nil)))
  ss_nil)
  ss_nil)
  (ss_cons (ss_while 1000 (passes_of rfl) (pb_of (pwb_and (pb_cmp op_ltA od_ord (po_name (pv 3)) (po_of (px_callB call_len ca_len (by rfl) B.len PySem.boot_len (pao_cons (po_name (pv 0)) pao_nil))) (nomark _)) (pwb_and1 (pb_tru rfl (po_of (px_of (pc_call rfl G_continues (hr.mono (by first | decide | omega)) (by rfl) c_continues.m c_continues.k c_continues.b tk (pao_cons (po_of (px_name (pv 6))) (pao_cons (po_of (px_ix rfl (po_name (pv 0)) (po_name (pv 3)))) pao_nil))))))))) (ss_cons (ss_aug (i := 3) sctokens_of.nd rfl (.inl rfl) op_iadd od_iadd (po_of px_int))
  ss_nil))
  (ss_cons (ss_set (i := 5) sctokens_of.nd rfl (.inl rfl) (pc_of (px_and (px_cmp op_gtA od_ord (po_name (pv 2)) (po_of px_int) (nomark _)) (px_one (px_cmp (op_neA hr.units) od_ne (po_of (px_ix rfl (po_name (pv 0)) (po_of (px_op op_sub od_sub (po_name (pv 2)) (po_of px_int))))) (po_of px_str) (nomark _))))))
  (ss_cons (ss_expr (pc_of (px_append (pv 4) (px_tup (pax_cons (px_name (pv 6)) (pax_cons (px_sl rfl (po_name (pv 0)) (pp_some (px_name (pv 2))) (pp_some (px_name (pv 3)))) (pax_cons (px_name (pv 1)) (pax_cons (px_name (pv 2)) (pax_cons (px_name (pv 5)) pax_nil)))))))))
  ss_nil)))))
  ss_nil)
  (ss_cons (ss_set (i := 2) sctokens_of.nd rfl (.inl rfl) (pc_name (pv 3)))
  ss_nil))))
  (ss_cons (ss_ret (pc_name (pv 4)))
  ss_nil))))
abbrev sfold_tokens : Stmt := top 14
def Bfold_tokens : Rho → Out := (seqS (setS 3 (ownX (pureM []))) (seqS (forM (rngX enumD (consM (nmX 0) (pureM []))) (tupG 2 (consG (nmG 4) (consG (tupG 4 (consG (nmG 5) (consG (nmG 1) (consG (nmG 1) (consG (nmG 2) nilG))))) nilG))) (seqS (dropS (tmD (extX 3 (lcX (itX (frzM (callX Ftokens_of 2 (consR (valO (nmX 5)) (consR (valO (nmX 4)) (pureM [])))))) (nmG 6) (pureM true) (tupX (consM (nmX 6) (consM (nmX 2) (pureM [])))) [6])))) (seqS (ifS (tst (bop gtD (valO (caX lenD (consR (nmO 3) (pureM [])))) (valO (pureM (.int 24)))))
  (seqS (raiseS (own1X "TooMany" (valO (jsM [(pureM (.str "there are more than ")), (fmtX (valO (pureM (.int 24)))), (pureM (.str " tokens"))] Str.empty)))) skipS)
  skipS) skipS))) (seqS (retS (nmT 3)) skipS)))
def Ffold_tokens : List Sl → Res := runF 7 Bfold_tokens
theorem scfold_tokens : FnScope ["lines", "_", "d", "found", "row", "text", "token"] ["lines"] (defScope sfold_tokens) := ⟨rfl, rfl, rfl, by decide +kernel, rfl, by decide +kernel, by decide +kernel⟩
theorem okfold_tokens {C : Cfg} {P : Program} {w : World} {base : Heap} {f : Addr} {fd : FuncData} (B : Blt C.mg) (F : Fun C.K "fold_tokens" "fold_tokens" sfold_tokens f fd) (g_MAX_TOKENS : ∃ t, C.mg "MAX_TOKENS" = some (.int 24 t)) {ftokens_of : Addr} {fdtokens_of : FuncData} (ctokens_of : Cal C.K C.mg "tokens_of" ftokens_of fdtokens_of ["text", "row"]) (Gtokens_of : FnOk P w C.K C.mg base (L2.CX P w) 3 ftokens_of fdtokens_of ["text", "row"] (spF C 2 Ftokens_of)) {Ca_TooMany : Addr} {bm_TooMany : List Value} (O_TooMany : Own1C C "TooMany" Ca_TooMany bm_TooMany) : FnOk P w C.K C.mg base (L2.CX P w) 4 f fd ["lines"] (spF C 1 Ffold_tokens) :=
  ev_fn (k := 3) F scfold_tokens (by decide) fun cdv A outer s H E hr => by
    have tk := takes_of (X := cxOf (L2.CX P w) P w C.K C.mg base ["lines", "_", "d", "found", "row", "text", "token"] "fold_tokens" (defScope sfold_tokens) f cdv A outer s H E) (E := E) rfl rfl rfl rfl
    exact (ss_cons (ss_set (i := 3) scfold_tokens.nd rfl (.inl rfl) (pc_lst pax_nil))
  (ss_cons (ss_for (passes_of rfl) (by rfl) (pix_enum rfl (by rfl) B.enum (pax_cons (px_name (pv 0)) pax_nil)) (tg_tup rfl (by rfl) (tgs_cons (tg_name (pg_name (i := 4) scfold_tokens.nd rfl (.inl rfl))) (tgs_cons (tg_tup rfl (by rfl) (tgs_cons (tg_name (pg_name (i := 5) scfold_tokens.nd rfl (.inl rfl))) (tgs_cons (tg_name (pg_name (i := 1) scfold_tokens.nd rfl (.inl rfl))) (tgs_cons (tg_name (pg_name (i := 1) scfold_tokens.nd rfl (.inl rfl))) (tgs_cons (tg_name (pg_name (i := 2) scfold_tokens.nd rfl (.inr rfl))) tgs_nil))))) tgs_nil))) (ss_cons (ss_expr (pc_of (px_extend rfl (pv 3) (pc_lc (own := [("token", 6)]) (by rfl) scfold_tokens.nd (pix rfl (px_of (pc_call rfl Gtokens_of (hr.mono (by first | decide | omega)) (by rfl) ctokens_of.m ctokens_of.k ctokens_of.b tk (pao_cons (po_of (px_name (pv 5))) (pao_cons (po_of (px_name (pv 4))) pao_nil))))) (blkOk_by (own := [("token", 6)]) (N := ["lines", "_", "d", "found", "row", "text", "token"]) (sc := defScope sfold_tokens) (by decide +kernel)) (by decide) (fun _ _ _ _ _ => (tg_name (pg_name (i := 6) scfold_tokens.nd rfl (.inl rfl)))) (fun _ _ _ _ _ => pbs_nil) (fun _ _ _ _ _ => (px_tup (pax_cons (px_name (pv 6)) (pax_cons (px_name (pv 2)) pax_nil))))))))
  (ss_cons (ss_if (pb_cmp op_gtA od_ord (po_of (px_callB call_len ca_len (by rfl) B.len PySem.boot_len (pao_cons (po_name (pv 3)) pao_nil))) (po_of (px_gint (by rfl) g_MAX_TOKENS)) (nomark _))
  (ss_cons (rs_own1 O_TooMany rfl rfl (by rfl) tk (by rfl) (po_of (px_joined (PJs.cons px_str (PJs.cons (px_fmt (po_of (px_gint (by rfl) g_MAX_TOKENS))) (PJs.cons px_str PJs.nil))))))
  ss_nil)
  ss_nil)
  ss_nil)))
  (ss_cons (ss_ret (pc_name (pv 3)))
  ss_nil)))
abbrev spresent : Stmt := top 15
def Bpresent : Rho → Out := (seqS (retS (lcX (rngX enumD (consM (nmX 0) (pureM []))) (tupG 2 (consG (nmG 4) (consG (tupG 2 (consG (nmG 2) (consG (nmG 3) nilG))) nilG))) (tru (valO (frzM (callX Fholds 2 (consR (valO (nmX 3)) (consR (valO (nmX 1)) (pureM []))))))) (nmX 4) [4, 2, 3])) skipS)
def Fpresent : List Sl → Res := runF 5 Bpresent
theorem scpresent : FnScope ["folded", "configuration", "_", "d", "index"] ["folded", "configuration"] (defScope spresent) := ⟨rfl, rfl, rfl, by decide +kernel, rfl, by decide +kernel, by decide +kernel⟩
theorem okpresent {C : Cfg} {P : Program} {w : World} {base : Heap} {f : Addr} {fd : FuncData} (B : Blt C.mg) (F : Fun C.K "present" "present" spresent f fd) {fholds : Addr} {fdholds : FuncData} (cholds : Cal C.K C.mg "holds" fholds fdholds ["d", "configuration"]) (Gholds : FnOk P w C.K C.mg base (L2.CX P w) 1 fholds fdholds ["d", "configuration"] (spF C 2 Fholds)) : FnOk P w C.K C.mg base (L2.CX P w) 2 f fd ["folded", "configuration"] (spF C 2 Fpresent) :=
  ev_fn (k := 1) F scpresent (by decide) fun cdv A outer s H E hr => by
    have tk := takes_of (X := cxOf (L2.CX P w) P w C.K C.mg base ["folded", "configuration", "_", "d", "index"] "present" (defScope spresent) f cdv A outer s H E) (E := E) rfl rfl rfl rfl
    exact (ss_cons (ss_ret (pc_lc (own := [("index", 4), ("_", 2), ("d", 3)]) (by rfl) scpresent.nd (pix_enum rfl (by rfl) B.enum (pax_cons (px_name (pv 0)) pax_nil)) (blkOk_by (own := [("index", 4), ("_", 2), ("d", 3)]) (N := ["folded", "configuration", "_", "d", "index"]) (sc := defScope spresent) (by decide +kernel)) (by decide) (fun _ _ _ _ _ => (tg_tup rfl (by rfl) (tgs_cons (tg_name (pg_name (i := 4) scpresent.nd rfl (.inl rfl))) (tgs_cons (tg_tup rfl (by rfl) (tgs_cons (tg_name (pg_name (i := 2) scpresent.nd rfl (.inl rfl))) (tgs_cons (tg_name (pg_name (i := 3) scpresent.nd rfl (.inl rfl))) tgs_nil))) tgs_nil)))) (fun _ _ _ _ _ => (pbs_one (pb_tru rfl (po_of (px_of (pc_call rfl Gholds (hr.mono (by first | decide | omega)) (by rfl) cholds.m cholds.k cholds.b takes_no (pao_cons (po_of (px_name (pv 3))) (pao_cons (po_of (px_name (pv 1))) pao_nil)))))))) (fun _ _ _ _ _ => (px_name (pv 4)))))
  ss_nil)
abbrev s_law_diagram : Stmt := top 20
def B_law_diagram (FR : List Sl → Res) : Rho → Out := (seqS (ifS (tst (bop eqD (valO (caX lenD (consR (nmO 0) (pureM [])))) (valO (pureM (.int 1)))))
  (seqS (retS (tmD (bop getD (nmO 0) (valO (pureM (.int 0)))))) skipS)
  skipS) (seqS (setS 2 (tmD (bop fdivD (valO (caX lenD (consR (nmO 0) (pureM [])))) (valO (pureM (.int 2)))))) (seqS (setS 4 (callX FR 2 (consR (valO (slX (nmO 0) (pureM none) (ptM (nmX 2)))) (consR (valO (bop addD (nmO 1) (valO (pureM (.int 1))))) (pureM []))))) (seqS (setS 3 (callX FR 2 (consR (valO (slX (nmO 0) (ptM (nmX 2)) (pureM none))) (consR (valO (bop addD (nmO 1) (valO (pureM (.int 1))))) (pureM []))))) (seqS (ifS (andB (tst (bop eqD (nmO 4) (nmO 3))) (tst (bop eqD (valO (isiX "tuple" (nmO 4))) (valO (isiX "tuple" (nmO 3))))))
  (seqS (retS (nmT 4)) skipS)
  skipS) (seqS (retS (tmD (tupX (consM (nmX 1) (consM (nmX 4) (consM (nmX 3) (pureM []))))))) skipS))))))
def F_law_diagram : Nat → List Sl → Res
  | 0 => fun _ => .bad
  | n + 1 => runF 5 (B_law_diagram (F_law_diagram n))
theorem sc_law_diagram : FnScope ["bits", "i", "half", "high", "low"] ["bits", "i"] (defScope s_law_diagram) := ⟨rfl, rfl, rfl, by decide +kernel, rfl, by decide +kernel, by decide +kernel⟩
theorem ok_law_diagram {C : Cfg} {P : Program} {w : World} {base : Heap} {f : Addr} {fd : FuncData} (B : Blt C.mg) (F : Fun C.K "_law_diagram" "_law_diagram" s_law_diagram f fd) (c_self : Cal C.K C.mg "_law_diagram" f fd ["bits", "i"]) : ∀ n : Nat, FnOk P w C.K C.mg base (L2.CX P w) (1 + n) f fd ["bits", "i"] (spF C 2 (F_law_diagram n))
  | 0 => fnok_bad
  | n + 1 => ev_fn (k := 1 + n) F sc_law_diagram (by decide) fun cdv A outer s H E hr => by
    have ih := ok_law_diagram (P := P) (w := w) (base := base) B F c_self n
    have tk := takes_of (X := cxOf (L2.CX P w) P w C.K C.mg base ["bits", "i", "half", "high", "low"] "_law_diagram" (defScope s_law_diagram) f cdv A outer s H E) (E := E) rfl rfl rfl rfl
    exact (ss_cons (ss_if (pb_cmp (op_eqA hr.units) od_eq (po_of (px_callB call_len ca_len (by rfl) B.len PySem.boot_len (pao_cons (po_name (pv 0)) pao_nil))) (po_of px_int) (nomark _))
  (ss_cons (ss_ret (pc_of (px_ix rfl (po_name (pv 0)) (po_of px_int))))
  ss_nil)
  ss_nil)
  (ss_cons (ss_set (i := 2) sc_law_diagram.nd rfl (.inl rfl) (pc_of (px_op op_fdivW od_fdiv (po_of (px_callB call_len ca_len (by rfl) B.len PySem.boot_len (pao_cons (po_name (pv 0)) pao_nil))) (po_of px_int))))
  (ss_cons (ss_set (i := 4) sc_law_diagram.nd rfl (.inl rfl) (pc_call rfl ih (hr.mono (by omega)) (by rfl) c_self.m c_self.k c_self.b tk (pao_cons (po_of (px_sl rfl (po_name (pv 0)) pp_none (pp_some (px_name (pv 2))))) (pao_cons (po_of (px_op op_addD od_add (po_name (pv 1)) (po_of px_int))) pao_nil))))
  (ss_cons (ss_set (i := 3) sc_law_diagram.nd rfl (.inl rfl) (pc_call rfl ih (hr.mono (by omega)) (by rfl) c_self.m c_self.k c_self.b tk (pao_cons (po_of (px_sl rfl (po_name (pv 0)) (pp_some (px_name (pv 2))) pp_none)) (pao_cons (po_of (px_op op_addD od_add (po_name (pv 1)) (po_of px_int))) pao_nil))))
  (ss_cons (ss_if (pb_of (pwb_and (pb_cmp (op_eqA hr.units) od_eq (po_name (pv 4)) (po_name (pv 3)) (nomark _)) (pwb_and1 (pb_cmp (op_eqA hr.units) od_eq (po_of (px_isi rfl kit_tup (by rfl) B.isi (pe_bltn (v := .ty "tuple") (by rfl) B.tuple (by decide +kernel) rfl) (po_name (pv 4)))) (po_of (px_isi rfl kit_tup (by rfl) B.isi (pe_bltn (v := .ty "tuple") (by rfl) B.tuple (by decide +kernel) rfl) (po_name (pv 3)))) (nomark _)))))
  (ss_cons (ss_ret (pc_name (pv 4)))
  ss_nil)
  ss_nil)
  (ss_cons (ss_ret (pc_of (px_tup (pax_cons (px_name (pv 1)) (pax_cons (px_name (pv 4)) (pax_cons (px_name (pv 3)) pax_nil))))))
  ss_nil))))))
abbrev s_law_run_of : Stmt := top 22
def B_law_run_of : Rho → Out := (seqS (setS 3 (nmT 1)) (seqS (whileS (andB (tst (bop ltD (nmO 3) (valO (caX lenD (consR (nmO 0) (pureM [])))))) (tst (bop inD (valO (bop getD (nmO 0) (nmO 3))) (nmO 2)))) (seqS (setS 3 (tmD (bop addD (nmO 3) (valO (pureM (.int 1)))))) skipS) 1000) (seqS (retS (nmT 3)) skipS)))
def F_law_run_of : List Sl → Res := runF 4 B_law_run_of
theorem sc_law_run_of : FnScope ["text", "at", "signs", "over"] ["text", "at", "signs"] (defScope s_law_run_of) := ⟨rfl, rfl, rfl, by decide +kernel, rfl, by decide +kernel, by decide +kernel⟩
theorem ok_law_run_of {C : Cfg} {P : Program} {w : World} {base : Heap} {f : Addr} {fd : FuncData} (B : Blt C.mg) (F : Fun C.K "_law_run_of" "_law_run_of" s_law_run_of f fd) : FnOk P w C.K C.mg base (L2.CX P w) 1 f fd ["text", "at", "signs"] (spF C 3 F_law_run_of) :=
  ev_fn (k := 0) F sc_law_run_of (by decide) fun cdv A outer s H E hr => by
    have tk := takes_of (X := cxOf (L2.CX P w) P w C.K C.mg base ["text", "at", "signs", "over"] "_law_run_of" (defScope s_law_run_of) f cdv A outer s H E) (E := E) rfl rfl rfl rfl
    exact (ss_cons (ss_set (i := 3) sc_law_run_of.nd rfl (.inl rfl) (pc_name (pv 1)))
  (ss_cons (ss_while 1000 (passes_of rfl) (pb_of (pwb_and (pb_cmp op_ltA od_ord (po_name (pv 3)) (po_of (px_callB call_len ca_len (by rfl) B.len PySem.boot_len (pao_cons (po_name (pv 0)) pao_nil))) (nomark _)) (pwb_and1 (pb_cmp (op_inA (hu65 hr)) od_in (po_of (px_ix rfl (po_name (pv 0)) (po_name (pv 3)))) (po_name (pv 2)) (by rfl))))) (ss_cons (ss_set (i := 3) sc_law_run_of.nd rfl (.inl rfl) (pc_of (px_op op_addD od_add (po_name (pv 3)) (po_of px_int))))
  ss_nil))
  (ss_cons (ss_ret (pc_name (pv 3)))
  ss_nil)))
abbrev s_law_tokens : Stmt := top 23
def B_law_tokens : Rho → Out := (seqS (setS 7 (tmD (pureM (.str "abcdefghijklmnopqrstuvwxyzABCDEFGHIJKLMNOPQRSTUVWXYZ")))) (seqS (setS 3 (tmD (pureM (.str "0123456789")))) (seqS (setS 4 (ownX (pureM []))) (seqS (setS 2 (tmD (pureM (.int 0)))) (seqS (setS 6 (tmD (negX (pureM (.int 1))))) (seqS (forM (rngX rng1D (consM (caX lenD (consR (nmO 0) (pureM []))) (pureM []))) (nmG 9) (seqS (ifS (tst (bop geD (nmO 2) (valO (caX lenD (consR (nmO 0) (pureM []))))))
  (seqS .brk skipS)
  skipS) (seqS (ifS (tst (bop eqD (valO (bop getD (nmO 0) (nmO 2))) (valO (pureM (.str " ")))))
  (seqS (setS 2 (tmD (bop addD (nmO 2) (valO (pureM (.int 1)))))) (seqS .ct skipS))
  skipS) (seqS (setS 8 (tmD (bop addD (nmO 2) (valO (pureM (.int 1)))))) (seqS (setS 5 (tmD (pureM (.str "mark")))) (seqS (ifS (tst (bop inD (valO (bop getD (nmO 0) (nmO 2))) (nmO 7)))
  (seqS (setS 8 (callX F_law_run_of 3 (consR (valO (nmX 0)) (consR (valO (nmX 2)) (consR (valO (bop addD (nmO 7) (nmO 3))) (pureM [])))))) (seqS (setS 5 (tmD (pureM (.str "word")))) skipS))
  (seqS (ifS (tst (bop inD (valO (bop getD (nmO 0) (nmO 2))) (nmO 3)))
  (seqS (setS 8 (callX F_law_run_of 3 (consR (valO (nmX 0)) (consR (valO (nmX 2)) (consR (valO (nmX 3)) (pureM [])))))) (seqS (setS 5 (tmD (pureM (.str "number")))) skipS))
  skipS) skipS)) (seqS (dropS (tmD (mtX appD 4 (tupX (consM (nmX 5) (consM (slX (nmO 0) (ptM (nmX 2)) (ptM (nmX 8))) (consM (nmX 1) (consM (nmX 2) (consM (bop eqD (nmO 6) (nmO 2)) (pureM [])))))))))) (seqS (setS 2 (nmT 8)) (seqS (setS 6 (nmT 8)) skipS))))))))) (seqS (retS (nmT 4)) skipS)))))))
def F_law_tokens : List Sl → Res := runF 10 B_law_tokens
theorem sc_law_tokens : FnScope ["text", "row", "at", "digits", "found", "kind", "last", "letters", "over", "turn"] ["text", "row"] (defScope s_law_tokens) := ⟨rfl, rfl, rfl, by decide +kernel, rfl, by decide +kernel, by decide +kernel⟩
theorem ok_law_tokens {C : Cfg} {P : Program} {w : World} {base : Heap} {f : Addr} {fd : FuncData} (B : Blt C.mg) (F : Fun C.K "_law_tokens" "_law_tokens" s_law_tokens f fd) {f_law_run_of : Addr} {fd_law_run_of : FuncData} (c_law_run_of : Cal C.K C.mg "_law_run_of" f_law_run_of fd_law_run_of ["text", "at", "signs"]) (G_law_run_of : FnOk P w C.K C.mg base (L2.CX P w) 1 f_law_run_of fd_law_run_of ["text", "at", "signs"] (spF C 3 F_law_run_of)) : FnOk P w C.K C.mg base (L2.CX P w) 2 f fd ["text", "row"] (spF C 2 F_law_tokens) :=
  ev_fn (k := 1) F sc_law_tokens (by decide) fun cdv A outer s H E hr => by
    have tk := takes_of (X := cxOf (L2.CX P w) P w C.K C.mg base ["text", "row", "at", "digits", "found", "kind", "last", "letters", "over", "turn"] "_law_tokens" (defScope s_law_tokens) f cdv A outer s H E) (E := E) rfl rfl rfl rfl
    exact (ss_cons (ss_set (i := 7) sc_law_tokens.nd rfl (.inl rfl) (pc_of px_str))
  (ss_cons (ss_set (i := 3) sc_law_tokens.nd rfl (.inl rfl) (pc_of px_str))
  (ss_cons (ss_set (i := 4) sc_law_tokens.nd rfl (.inl rfl) (pc_lst pax_nil))
  (ss_cons (ss_set (i := 2) sc_law_tokens.nd rfl (.inl rfl) (pc_of px_int))
  (ss_cons (ss_set (i := 6) sc_law_tokens.nd rfl (.inl rfl) (pc_of (px_neg px_int)))
  (ss_cons (ss_for (passes_of rfl) (by rfl) (pix_rng1 (by rfl) B.range (pax_cons (px_callB call_len ca_len (by rfl) B.len PySem.boot_len (pao_cons (po_name (pv 0)) pao_nil)) pax_nil)) (tg_name (pg_name (i := 9) sc_law_tokens.nd rfl (.inl rfl))) (ss_cons (ss_if (pb_cmp op_geA od_ord (po_name (pv 2)) (po_of (px_callB call_len ca_len (by rfl) B.len PySem.boot_len (pao_cons (po_name (pv 0)) pao_nil))) (nomark _))
  (ss_cons ss_break
  ss_nil)
  ss_nil)
  (ss_cons (ss_if (pb_cmp (op_eqA hr.units) od_eq (po_of (px_ix rfl (po_name (pv 0)) (po_name (pv 2)))) (po_of px_str) (nomark _))
  (ss_cons (ss_set (i := 2) sc_law_tokens.nd rfl (.inl rfl) (pc_of (px_op op_addD od_add (po_name (pv 2)) (po_of px_int))))
  (ss_cons ss_continue
  ss_nil))
  ss_nil)
  (ss_cons (ss_set (i := 8) sc_law_tokens.nd rfl (.inl rfl) (pc_of (px_op op_addD od_add (po_name (pv 2)) (po_of px_int))))
  (ss_cons (ss_set (i := 5) sc_law_tokens.nd rfl (.inl rfl) (pc_of px_str))
  (ss_cons (ss_if (pb_cmp (op_inA (hu65 hr)) od_in (po_of (px_ix rfl (po_name (pv 0)) (po_name (pv 2)))) (po_name (pv 7)) (by rfl))
  (ss_cons (ss_set (i := 8) sc_law_tokens.nd rfl (.inl rfl) (pc_call rfl G_law_run_of (hr.mono (by first | decide | omega)) (by rfl) c_law_run_of.m c_law_run_of.k c_law_run_of.b tk (pao_cons (po_of (px_name (pv 0))) (pao_cons (po_of (px_name (pv 2))) (pao_cons (po_of (px_op op_addD od_add (po_name (pv 7)) (po_name (pv 3)))) pao_nil)))))
  (ss_cons (ss_set (i := 5) sc_law_tokens.nd rfl (.inl rfl) (pc_of px_str))
  ss_nil))
  (ss_cons (ss_if (pb_cmp (op_inA (hu65 hr)) od_in (po_of (px_ix rfl (po_name (pv 0)) (po_name (pv 2)))) (po_name (pv 3)) (by rfl))
  (ss_cons (ss_set (i := 8) sc_law_tokens.nd rfl (.inl rfl) (pc_call rfl G_law_run_of (hr.mono (by first | decide | omega)) (by rfl) c_law_run_of.m c_law_run_of.k c_law_run_of.b tk (pao_cons (po_of (px_name (pv 0))) (pao_cons (po_of (px_name (pv 2))) (pao_cons (po_of (px_name (pv 3))) pao_nil)))))
  (ss_cons (ss_set (i := 5) sc_law_tokens.nd rfl (.inl rfl) (pc_of px_str))
  ss_nil))
  ss_nil)
  ss_nil))
  (ss_cons (ss_expr (pc_of (px_append (pv 4) (px_tup (pax_cons (px_name (pv 5)) (pax_cons (px_sl rfl (po_name (pv 0)) (pp_some (px_name (pv 2))) (pp_some (px_name (pv 8)))) (pax_cons (px_name (pv 1)) (pax_cons (px_name (pv 2)) (pax_cons (px_cmp (op_eqA hr.units) od_eq (po_name (pv 6)) (po_name (pv 2)) (nomark _)) pax_nil)))))))))
  (ss_cons (ss_set (i := 2) sc_law_tokens.nd rfl (.inl rfl) (pc_name (pv 8)))
  (ss_cons (ss_set (i := 6) sc_law_tokens.nd rfl (.inl rfl) (pc_name (pv 8)))
  ss_nil)))))))))
  (ss_cons (ss_ret (pc_name (pv 4)))
  ss_nil)))))))
abbrev s_law_fold_tokens : Stmt := top 24
def B_law_fold_tokens : Rho → Out := (seqS (setS 1 (ownX (pureM []))) (seqS (forM (rngX rng1D (consM (caX lenD (consR (nmO 0) (pureM []))) (pureM []))) (nmG 2) (seqS (dropS (tmD (extX 1 (lcX (itX (frzM (callX F_law_tokens 2 (consR (valO (bop getD (valO (bop getD (nmO 0) (nmO 2))) (valO (pureM (.int 0))))) (consR (valO (nmX 2)) (pureM [])))))) (nmG 3) (pureM true) (tupX (consM (nmX 3) (consM (bop getD (valO (bop getD (nmO 0) (nmO 2))) (valO (pureM (.int 1)))) (pureM [])))) [3])))) skipS)) (seqS (retS (nmT 1)) skipS)))
def F_law_fold_tokens : List Sl → Res := runF 4 B_law_fold_tokens
theorem sc_law_fold_tokens : FnScope ["lines", "found", "row", "token"] ["lines"] (defScope s_law_fold_tokens) := ⟨rfl, rfl, rfl, by decide +kernel, rfl, by decide +kernel, by decide +kernel⟩
theorem ok_law_fold_tokens {C : Cfg} {P : Program} {w : World} {base : Heap} {f : Addr} {fd : FuncData} (B : Blt C.mg) (F : Fun C.K "_law_fold_tokens" "_law_fold_tokens" s_law_fold_tokens f fd) {f_law_tokens : Addr} {fd_law_tokens : FuncData} (c_law_tokens : Cal C.K C.mg "_law_tokens" f_law_tokens fd_law_tokens ["text", "row"]) (G_law_tokens : FnOk P w C.K C.mg base (L2.CX P w) 2 f_law_tokens fd_law_tokens ["text", "row"] (spF C 2 F_law_tokens)) : FnOk P w C.K C.mg base (L2.CX P w) 3 f fd ["lines"] (spF C 1 F_law_fold_tokens) :=
  ev_fn (k := 2) F sc_law_fold_tokens (by decide) fun cdv A outer s H E hr => by
    have tk := takes_of (X := cxOf (L2.CX P w) P w C.K C.mg base ["lines", "found", "row", "token"] "_law_fold_tokens" (defScope s_law_fold_tokens) f cdv A outer s H E) (E := E) rfl rfl rfl rfl
    exact (ss_cons (ss_set (i := 1) sc_law_fold_tokens.nd rfl (.inl rfl) (pc_lst pax_nil))
  (ss_cons (ss_for (passes_of rfl) (by rfl) (pix_rng1 (by rfl) B.range (pax_cons (px_callB call_len ca_len (by rfl) B.len PySem.boot_len (pao_cons (po_name (pv 0)) pao_nil)) pax_nil)) (tg_name (pg_name (i := 2) sc_law_fold_tokens.nd rfl (.inr rfl))) (ss_cons (ss_expr (pc_of (px_extend rfl (pv 1) (pc_lc (own := [("token", 3)]) (by rfl) sc_law_fold_tokens.nd (pix rfl (px_of (pc_call rfl G_law_tokens (hr.mono (by first | decide | omega)) (by rfl) c_law_tokens.m c_law_tokens.k c_law_tokens.b tk (pao_cons (po_of (px_ix rfl (po_of (px_ix rfl (po_name (pv 0)) (po_name (pv 2)))) (po_of px_int))) (pao_cons (po_of (px_name (pv 2))) pao_nil))))) (blkOk_by (own := [("token", 3)]) (N := ["lines", "found", "row", "token"]) (sc := defScope s_law_fold_tokens) (by decide +kernel)) (by decide) (fun _ _ _ _ _ => (tg_name (pg_name (i := 3) sc_law_fold_tokens.nd rfl (.inl rfl)))) (fun _ _ _ _ _ => pbs_nil) (fun _ _ _ _ _ => (px_tup (pax_cons (px_name (pv 3)) (pax_cons (px_ix rfl (po_of (px_ix rfl (po_name (pv 0)) (po_name (pv 2)))) (po_of px_int)) pax_nil))))))))
  ss_nil))
  (ss_cons (ss_ret (pc_name (pv 1)))
  ss_nil)))
abbrev s_law_text : Stmt := top 25
def B_law_text : Rho → Out := (seqS (setS 4 (ownX (consM (pureM (.str "x")) (consM (pureM (.str "a1B")) (consM (pureM (.str "Zed")) (consM (pureM (.str "7")) (consM (pureM (.str "0012")) (consM (pureM (.str "+")) (consM (pureM (.str "-")) (consM (pureM (.str "*")) (consM (pureM (.str "/")) (consM (pureM (.str "(")) (consM (pureM (.str ")")) (consM (pureM (.str "{")) (consM (pureM (.str "}")) (consM (pureM (.str ";")) (consM (pureM (.str ",")) (consM (pureM (.str "=")) (consM (pureM (.str "<")) (consM (pureM (.str ">")) (consM (pureM (.str "!")) (consM (pureM (.str ":")) (consM (pureM (.str ".")) (consM (pureM (.str "?")) (consM (pureM (.str "&")) (consM (pureM (.str "|")) (consM (pureM (.str " ")) (consM (pureM (.str "  ")) (pureM []))))))))))))))))))))))))))))) (seqS (setS 5 (tmD (pureM (.str "")))) (seqS (forM (rngX rng1D (consM (frzM (callX F_law_take 2 (consR (nmO 0) (consR (valO (pureM (.int 13))) (pureM []))))) (pureM []))) (nmG 3) (seqS (setS 5 (tmD (bop addD (nmO 5) (valO (bop getD (nmO 4) (valO (frzM (callX F_law_take 2 (consR (nmO 0) (consR (valO (pureM (.int 26))) (pureM []))))))))))) (seqS (ifS (tst (bop eqD (valO (frzM (callX F_law_take 2 (consR (nmO 0) (consR (valO (pureM (.int 3))) (pureM [])))))) (valO (pureM (.int 0)))))
  (seqS (setS 5 (tmD (bop addD (nmO 5) (valO (pureM (.str " ")))))) skipS)
  skipS) skipS))) (seqS (ifS (tru (nmO 1))
  (seqS (setS 2 (callX F_law_take 2 (consR (nmO 0) (consR (valO (bop addD (valO (caX lenD (consR (nmO 5) (pureM [])))) (valO (pureM (.int 1))))) (pureM []))))) (seqS (setS 5 (tmD (bop addD (valO (bop addD (valO (slX (nmO 5) (pureM none) (ptM (nmX 2)))) (valO (bop getD (valO (lstX (consM (pureM (.str "#")) (consM (pureM (.str "_")) (consM (pureM (.str "$")) (consM (pureM (.str "[")) (consM (pureM (.str "'")) (consM (pureM (.str "@")) (consM (pureM (.str "~")) (consM (pureM (.str "^")) (pureM []))))))))))) (valO (frzM (callX F_law_take 2 (consR (nmO 0) (consR (valO (pureM (.int 8))) (pureM [])))))))))) (valO (slX (nmO 5) (ptM (nmX 2)) (pureM none)))))) skipS))
  skipS) (seqS (retS (nmT 5)) skipS)))))
def F_law_text : List Sl → Res := runF 6 B_law_text
theorem sc_law_text : FnScope ["tape", "bad", "at", "k", "pieces", "text"] ["tape", "bad"] (defScope s_law_text) := ⟨rfl, rfl, rfl, by decide +kernel, rfl, by decide +kernel, by decide +kernel⟩
theorem ok_law_text {C : Cfg} {P : Program} {w : World} {base : Heap} {f : Addr} {fd : FuncData} (B : Blt C.mg) (F : Fun C.K "_law_text" "_law_text" s_law_text f fd) {f_law_take : Addr} {fd_law_take : FuncData} (c_law_take : Cal C.K C.mg "_law_take" f_law_take fd_law_take ["tape", "many"]) (G_law_take : FnOk P w C.K C.mg base (L2.CX P w) 2 f_law_take fd_law_take ["tape", "many"] (spF C 2 F_law_take)) : FnOk P w C.K C.mg base (L2.CX P w) 3 f fd ["tape", "bad"] (spF C 2 F_law_text) :=
  ev_fn (k := 2) F sc_law_text (by decide) fun cdv A outer s H E hr => by
    have tk := takes_of (X := cxOf (L2.CX P w) P w C.K C.mg base ["tape", "bad", "at", "k", "pieces", "text"] "_law_text" (defScope s_law_text) f cdv A outer s H E) (E := E) rfl rfl rfl rfl
    exact (ss_cons (ss_set (i := 4) sc_law_text.nd rfl (.inl rfl) (pc_lst (pax_cons px_str (pax_cons px_str (pax_cons px_str (pax_cons px_str (pax_cons px_str (pax_cons px_str (pax_cons px_str (pax_cons px_str (pax_cons px_str (pax_cons px_str (pax_cons px_str (pax_cons px_str (pax_cons px_str (pax_cons px_str (pax_cons px_str (pax_cons px_str (pax_cons px_str (pax_cons px_str (pax_cons px_str (pax_cons px_str (pax_cons px_str (pax_cons px_str (pax_cons px_str (pax_cons px_str (pax_cons px_str (pax_cons px_str pax_nil))))))))))))))))))))))))))))
  (ss_cons (ss_set (i := 5) sc_law_text.nd rfl (.inl rfl) (pc_of px_str))
  (ss_cons (ss_for (passes_of rfl) (by rfl) (pix_rng1 (by rfl) B.range (pax_cons (px_of (pc_call rfl G_law_take (hr.mono (by first | decide | omega)) (by rfl) c_law_take.m c_law_take.k c_law_take.b tk (pao_cons (po_name (pv 0)) (pao_cons (po_of px_int) pao_nil)))) pax_nil)) (tg_name (pg_name (i := 3) sc_law_text.nd rfl (.inl rfl))) (ss_cons (ss_set (i := 5) sc_law_text.nd rfl (.inl rfl) (pc_of (px_op op_addD od_add (po_name (pv 5)) (po_of (px_ix rfl (po_name (pv 4)) (po_of (px_of (pc_call rfl G_law_take (hr.mono (by first | decide | omega)) (by rfl) c_law_take.m c_law_take.k c_law_take.b tk (pao_cons (po_name (pv 0)) (pao_cons (po_of px_int) pao_nil))))))))))
  (ss_cons (ss_if (pb_cmp (op_eqA hr.units) od_eq (po_of (px_of (pc_call rfl G_law_take (hr.mono (by first | decide | omega)) (by rfl) c_law_take.m c_law_take.k c_law_take.b tk (pao_cons (po_name (pv 0)) (pao_cons (po_of px_int) pao_nil))))) (po_of px_int) (nomark _))
  (ss_cons (ss_set (i := 5) sc_law_text.nd rfl (.inl rfl) (pc_of (px_op op_addD od_add (po_name (pv 5)) (po_of px_str))))
  ss_nil)
  ss_nil)
  ss_nil)))
  (ss_cons (ss_if (pb_tru rfl (po_name (pv 1)))
  (ss_cons (ss_set (i := 2) sc_law_text.nd rfl (.inl rfl) (pc_call rfl G_law_take (hr.mono (by first | decide | omega)) (by rfl) c_law_take.m c_law_take.k c_law_take.b tk (pao_cons (po_name (pv 0)) (pao_cons (po_of (px_op op_addD od_add (po_of (px_callB call_len ca_len (by rfl) B.len PySem.boot_len (pao_cons (po_name (pv 5)) pao_nil))) (po_of px_int))) pao_nil))))
  (ss_cons (ss_set (i := 5) sc_law_text.nd rfl (.inl rfl) (pc_of (px_op op_addD od_add (po_of (px_op op_addD od_add (po_of (px_sl rfl (po_name (pv 5)) pp_none (pp_some (px_name (pv 2))))) (po_of (px_ix rfl (po_of (px_lst (pax_cons px_str (pax_cons px_str (pax_cons px_str (pax_cons px_str (pax_cons px_str (pax_cons px_str (pax_cons px_str (pax_cons px_str pax_nil)))))))))) (po_of (px_of (pc_call rfl G_law_take (hr.mono (by first | decide | omega)) (by rfl) c_law_take.m c_law_take.k c_law_take.b tk (pao_cons (po_name (pv 0)) (pao_cons (po_of px_int) pao_nil))))))))) (po_of (px_sl rfl (po_name (pv 5)) (pp_some (px_name (pv 2))) pp_none)))))
  ss_nil))
  ss_nil)
  (ss_cons (ss_ret (pc_name (pv 5)))
  ss_nil)))))
abbrev s_law_wrong : Stmt := top 26
def B_law_wrong : Rho → Out := (seqS (setS 2 (tmD (pureM (.str "abcdefghijklmnopqrstuvwxyzABCDEFGHIJKLMNOPQRSTUVWXYZ0123456789+-*/(){};,=<>!:.?&| ")))) (seqS (forM (rngX rng1D (consM (caX lenD (consR (nmO 0) (pureM []))) (pureM []))) (nmG 1) (seqS (ifS (tst (bop notInD (valO (bop getD (nmO 0) (nmO 1))) (nmO 2)))
  (seqS (retS (nmT 1)) skipS)
  skipS) skipS)) (seqS (retS (tmD (negX (pureM (.int 1))))) skipS)))
def F_law_wrong : List Sl → Res := runF 3 B_law_wrong
theorem sc_law_wrong : FnScope ["text", "at", "signs"] ["text"] (defScope s_law_wrong) := ⟨rfl, rfl, rfl, by decide +kernel, rfl, by decide +kernel, by decide +kernel⟩
theorem ok_law_wrong {C : Cfg} {P : Program} {w : World} {base : Heap} {f : Addr} {fd : FuncData} (B : Blt C.mg) (F : Fun C.K "_law_wrong" "_law_wrong" s_law_wrong f fd) : FnOk P w C.K C.mg base (L2.CX P w) 1 f fd ["text"] (spF C 1 F_law_wrong) :=
  ev_fn (k := 0) F sc_law_wrong (by decide) fun cdv A outer s H E hr => by
    have tk := takes_of (X := cxOf (L2.CX P w) P w C.K C.mg base ["text", "at", "signs"] "_law_wrong" (defScope s_law_wrong) f cdv A outer s H E) (E := E) rfl rfl rfl rfl
    exact (ss_cons (ss_set (i := 2) sc_law_wrong.nd rfl (.inl rfl) (pc_of px_str))
  (ss_cons (ss_for (passes_of rfl) (by rfl) (pix_rng1 (by rfl) B.range (pax_cons (px_callB call_len ca_len (by rfl) B.len PySem.boot_len (pao_cons (po_name (pv 0)) pao_nil)) pax_nil)) (tg_name (pg_name (i := 1) sc_law_wrong.nd rfl (.inl rfl))) (ss_cons (ss_if (pb_cmp (op_notInA (hu65 hr)) od_notIn (po_of (px_ix rfl (po_name (pv 0)) (po_name (pv 1)))) (po_name (pv 2)) (by rfl))
  (ss_cons (ss_ret (pc_name (pv 1)))
  ss_nil)
  ss_nil)
  ss_nil))
  (ss_cons (ss_ret (pc_of (px_neg px_int)))
  ss_nil)))
def S_law_cut_0 (a : Addr) (d : Option Addr) : Rho → Out := (seqS (retS (tmD (tupX (consM (pureM (.str "bad")) (consM (fldM a d 2 "row") (consM (fldM a d 2 "column") (consM (isEM a d 2 true) (pureM [])))))))) skipS)
theorem rS_law_cut_0 : ∀ e a d ρ, suiteO (some 2) S_law_cut_0 e a d ρ = gO (some 2) S_law_cut_0 e ρ := fun e a d ρ => by
  by_cases hi : 2 < ρ.length
  · rcases h0 : List.lookup ("column" : Str) e.fs with _ | v0 <;> rcases h1 : List.lookup ("row" : Str) e.fs with _ | v1 <;> simp [gO, suiteO, S_law_cut_0, seqS, skipS, retS, onM, tmD, tupX, consM, bindM, pureM, fldM, isEM, liftM, mapO, hi, h0, h1]
  · simp [gO, suiteO, S_law_cut_0, seqS, skipS, retS, onM, tmD, tupX, consM, bindM, pureM, fldM, isEM, liftM, mapO, hi]
abbrev s_law_cut : Stmt := top 27
def B_law_cut : Rho → Out := (seqS (tryS [((fun n => List.lookup n [("BadToken", true)]), gO (some 2) S_law_cut_0)] (seqS (retS (callX Ftokens_of 2 (consR (valO (nmX 0)) (consR (valO (nmX 1)) (pureM []))))) skipS)) skipS)
def F_law_cut : List Sl → Res := runF 3 B_law_cut
theorem sc_law_cut : FnScope ["text", "row", "why"] ["text", "row"] (defScope s_law_cut) := ⟨rfl, rfl, rfl, by decide +kernel, rfl, by decide +kernel, by decide +kernel⟩
theorem ok_law_cut {C : Cfg} {P : Program} {w : World} {base : Heap} {f : Addr} {fd : FuncData} (B : Blt C.mg) (F : Fun C.K "_law_cut" "_law_cut" s_law_cut f fd) {ftokens_of : Addr} {fdtokens_of : FuncData} (ctokens_of : Cal C.K C.mg "tokens_of" ftokens_of fdtokens_of ["text", "row"]) (Gtokens_of : FnOk P w C.K C.mg base (L2.CX P w) 3 ftokens_of fdtokens_of ["text", "row"] (spF C 2 Ftokens_of)) {Ca_BadToken : Addr} {Ca_FoldError : Addr} (g_BadToken : C.mg "BadToken" = some (.ref Ca_BadToken)) (K_BadToken : CatC C "BadToken" Ca_BadToken) (g_FoldError : C.mg "FoldError" = some (.ref Ca_FoldError)) (k_BadToken_FoldError : PySem.W.kitOne C.K (.ref Ca_BadToken) (.ref Ca_FoldError) = some true) (n_BadToken_column : PySem.W.findIn C.K (.ref Ca_BadToken) "column" = some none) (n_BadToken_row : PySem.W.findIn C.K (.ref Ca_BadToken) "row" = some none) (m_BadToken_BadToken : PySem.W.exmOne C.K (.ref Ca_BadToken) (.ref Ca_BadToken) = some true) : FnOk P w C.K C.mg base (L2.CX P w) 4 f fd ["text", "row"] (spF C 2 F_law_cut) :=
  ev_fn (k := 3) F sc_law_cut (by decide) fun cdv A outer s H E hr => by
    have tk := takes_of (X := cxOf (L2.CX P w) P w C.K C.mg base ["text", "row", "why"] "_law_cut" (defScope s_law_cut) f cdv A outer s H E) (E := E) rfl rfl rfl rfl
    exact (ss_cons (ss_try (L := [⟨.ref Ca_BadToken, (some 2), Ca_BadToken, S_law_cut_0, (fun n => List.lookup n [("BadToken", true)]), gO (some 2) S_law_cut_0⟩]) rfl rfl sc_law_cut.nd tk (fun W pn xe tkW hpW => (ss_cons (ss_ret (pc_call rfl Gtokens_of (hr.mono (by first | decide | omega)) (by rfl) ctokens_of.m ctokens_of.k ctokens_of.b tkW (pao_cons (po_of (px_name (pv 0))) (pao_cons (po_of (px_name (pv 1))) pao_nil))))
  ss_nil)) (HdsA.named rfl rfl ⟨by rfl, by decide, .inl g_BadToken⟩ (suite_ok fun a oe d pn hz hv => (ss_cons (ss_ret (pc_of (px_tup (pax_cons px_str (pax_cons (px_fld K_BadToken.f n_BadToken_row hz hv (pv 2)) (pax_cons (px_fld K_BadToken.f n_BadToken_column hz hv (pv 2)) (pax_cons (px_isE K_BadToken.e k_BadToken_FoldError hz hv (by rfl) B.isi (pv 2) (by rfl) g_FoldError) pax_nil)))))))
  ss_nil)) HdsA.nil) (List.forall_mem_cons.mpr ⟨⟨TestsOk.ok (.yes g_BadToken m_BadToken_BadToken .nil), rS_law_cut_0⟩, (fun _ h => by cases h)⟩))
  ss_nil)
def S_law_told_0 (a : Addr) (d : Option Addr) : Rho → Out := (seqS (retS (tmD (tupX (consM (pureM (.str "bad")) (consM (fldM a d 1 "row") (consM (fldM a d 1 "column") (consM (isEM a d 1 true) (pureM [])))))))) skipS)
theorem rS_law_told_0 : ∀ e a d ρ, suiteO (some 1) S_law_told_0 e a d ρ = gO (some 1) S_law_told_0 e ρ := fun e a d ρ => by
  by_cases hi : 1 < ρ.length
  · rcases h0 : List.lookup ("column" : Str) e.fs with _ | v0 <;> rcases h1 : List.lookup ("row" : Str) e.fs with _ | v1 <;> simp [gO, suiteO, S_law_told_0, seqS, skipS, retS, onM, tmD, tupX, consM, bindM, pureM, fldM, isEM, liftM, mapO, hi, h0, h1]
  · simp [gO, suiteO, S_law_told_0, seqS, skipS, retS, onM, tmD, tupX, consM, bindM, pureM, fldM, isEM, liftM, mapO, hi]
def S_law_told_1 (a : Addr) (d : Option Addr) : Rho → Out := (seqS (retS (tmD (tupX (consM (pureM (.str "many")) (consM (isEM a d 1 true) (pureM [])))))) skipS)
theorem rS_law_told_1 : ∀ e a d ρ, suiteO (some 1) S_law_told_1 e a d ρ = gO (some 1) S_law_told_1 e ρ := fun e a d ρ => by
  by_cases hi : 1 < ρ.length
  · simp [gO, suiteO, S_law_told_1, seqS, skipS, retS, onM, tmD, tupX, consM, bindM, pureM, fldM, isEM, liftM, mapO, hi]
  · simp [gO, suiteO, S_law_told_1, seqS, skipS, retS, onM, tmD, tupX, consM, bindM, pureM, fldM, isEM, liftM, mapO, hi]
abbrev s_law_told : Stmt := top 28
def B_law_told : Rho → Out := (seqS (tryS [((fun n => List.lookup n [("BadToken", true), ("TooMany", false)]), gO (some 1) S_law_told_0), ((fun n => List.lookup n [("TooMany", true)]), gO (some 1) S_law_told_1)] (seqS (retS (callX Ffold_tokens 1 (consR (valO (nmX 0)) (pureM [])))) skipS)) skipS)
def F_law_told : List Sl → Res := runF 2 B_law_told
theorem sc_law_told : FnScope ["lines", "why"] ["lines"] (defScope s_law_told) := ⟨rfl, rfl, rfl, by decide +kernel, rfl, by decide +kernel, by decide +kernel⟩
theorem ok_law_told {C : Cfg} {P : Program} {w : World} {base : Heap} {f : Addr} {fd : FuncData} (B : Blt C.mg) (F : Fun C.K "_law_told" "_law_told" s_law_told f fd) {ffold_tokens : Addr} {fdfold_tokens : FuncData} (cfold_tokens : Cal C.K C.mg "fold_tokens" ffold_tokens fdfold_tokens ["lines"]) (Gfold_tokens : FnOk P w C.K C.mg base (L2.CX P w) 4 ffold_tokens fdfold_tokens ["lines"] (spF C 1 Ffold_tokens)) {Ca_BadToken : Addr} {Ca_FoldError : Addr} {Ca_TooMany : Addr} (g_BadToken : C.mg "BadToken" = some (.ref Ca_BadToken)) (K_BadToken : CatC C "BadToken" Ca_BadToken) (g_FoldError : C.mg "FoldError" = some (.ref Ca_FoldError)) (k_BadToken_FoldError : PySem.W.kitOne C.K (.ref Ca_BadToken) (.ref Ca_FoldError) = some true) (n_BadToken_column : PySem.W.findIn C.K (.ref Ca_BadToken) "column" = some none) (n_BadToken_row : PySem.W.findIn C.K (.ref Ca_BadToken) "row" = some none) (g_TooMany : C.mg "TooMany" = some (.ref Ca_TooMany)) (m_TooMany_BadToken : PySem.W.exmOne C.K (.ref Ca_TooMany) (.ref Ca_BadToken) = some false) (m_BadToken_BadToken : PySem.W.exmOne C.K (.ref Ca_BadToken) (.ref Ca_BadToken) = some true) (K_TooMany : CatC C "TooMany" Ca_TooMany) (k_TooMany_FoldError : PySem.W.kitOne C.K (.ref Ca_TooMany) (.ref Ca_FoldError) = some true) (m_TooMany_TooMany : PySem.W.exmOne C.K (.ref Ca_TooMany) (.ref Ca_TooMany) = some true) : FnOk P w C.K C.mg base (L2.CX P w) 5 f fd ["lines"] (spF C 1 F_law_told) :=
  ev_fn (k := 4) F sc_law_told (by decide) fun cdv A outer s H E hr => by
    have tk := takes_of (X := cxOf (L2.CX P w) P w C.K C.mg base ["lines", "why"] "_law_told" (defScope s_law_told) f cdv A outer s H E) (E := E) rfl rfl rfl rfl
    exact (ss_cons (ss_try (L := [⟨.ref Ca_BadToken, (some 1), Ca_BadToken, S_law_told_0, (fun n => List.lookup n [("BadToken", true), ("TooMany", false)]), gO (some 1) S_law_told_0⟩, ⟨.ref Ca_TooMany, (some 1), Ca_TooMany, S_law_told_1, (fun n => List.lookup n [("TooMany", true)]), gO (some 1) S_law_told_1⟩]) rfl rfl sc_law_told.nd tk (fun W pn xe tkW hpW => (ss_cons (ss_ret (pc_call rfl Gfold_tokens (hr.mono (by first | decide | omega)) (by rfl) cfold_tokens.m cfold_tokens.k cfold_tokens.b tkW (pao_cons (po_of (px_name (pv 0))) pao_nil)))
  ss_nil)) (HdsA.named rfl rfl ⟨by rfl, by decide, .inl g_BadToken⟩ (suite_ok fun a oe d pn hz hv => (ss_cons (ss_ret (pc_of (px_tup (pax_cons px_str (pax_cons (px_fld K_BadToken.f n_BadToken_row hz hv (pv 1)) (pax_cons (px_fld K_BadToken.f n_BadToken_column hz hv (pv 1)) (pax_cons (px_isE K_BadToken.e k_BadToken_FoldError hz hv (by rfl) B.isi (pv 1) (by rfl) g_FoldError) pax_nil)))))))
  ss_nil)) (HdsA.named rfl rfl ⟨by rfl, by decide, .inl g_TooMany⟩ (suite_ok fun a oe d pn hz hv => (ss_cons (ss_ret (pc_of (px_tup (pax_cons px_str (pax_cons (px_isE K_TooMany.e k_TooMany_FoldError hz hv (by rfl) B.isi (pv 1) (by rfl) g_FoldError) pax_nil)))))
  ss_nil)) HdsA.nil)) (List.forall_mem_cons.mpr ⟨⟨TestsOk.ok (.yes g_BadToken m_BadToken_BadToken (.no g_TooMany m_TooMany_BadToken .nil)), rS_law_told_0⟩, (List.forall_mem_cons.mpr ⟨⟨TestsOk.ok (.yes g_TooMany m_TooMany_TooMany .nil), rS_law_told_1⟩, (fun _ h => by cases h)⟩)⟩))
  ss_nil)
abbrev s_law_due : Stmt := top 29
def B_law_due : Rho → Out := (seqS (setS 2 (ownX (pureM []))) (seqS (forM (rngX rng1D (consM (caX lenD (consR (nmO 0) (pureM []))) (pureM []))) (nmG 3) (seqS (setS 1 (callX F_law_wrong 1 (consR (valO (bop getD (valO (bop getD (nmO 0) (nmO 3))) (valO (pureM (.int 0))))) (pureM [])))) (seqS (ifS (tst (bop geD (nmO 1) (valO (pureM (.int 0)))))
  (seqS (retS (tmD (tupX (consM (pureM (.str "bad")) (consM (nmX 3) (consM (nmX 1) (consM (pureM (.bool true)) (pureM [])))))))) skipS)
  skipS) (seqS (dropS (tmD (extX 2 (lcX (itX (frzM (callX F_law_tokens 2 (consR (valO (bop getD (valO (bop getD (nmO 0) (nmO 3))) (valO (pureM (.int 0))))) (consR (valO (nmX 3)) (pureM [])))))) (nmG 4) (pureM true) (tupX (consM (nmX 4) (consM (bop getD (valO (bop getD (nmO 0) (nmO 3))) (valO (pureM (.int 3)))) (pureM [])))) [4])))) (seqS (ifS (tst (bop gtD (valO (caX lenD (consR (nmO 2) (pureM [])))) (valO (pureM (.int 24)))))
  (seqS (retS (tmD (tupX (consM (pureM (.str "many")) (consM (pureM (.bool true)) (pureM [])))))) skipS)
  skipS) skipS))))) (seqS (retS (nmT 2)) skipS)))
def F_law_due : List Sl → Res := runF 5 B_law_due
theorem sc_law_due : FnScope ["lines", "at", "found", "row", "token"] ["lines"] (defScope s_law_due) := ⟨rfl, rfl, rfl, by decide +kernel, rfl, by decide +kernel, by decide +kernel⟩
theorem ok_law_due {C : Cfg} {P : Program} {w : World} {base : Heap} {f : Addr} {fd : FuncData} (B : Blt C.mg) (F : Fun C.K "_law_due" "_law_due" s_law_due f fd) {f_law_tokens : Addr} {fd_law_tokens : FuncData} (c_law_tokens : Cal C.K C.mg "_law_tokens" f_law_tokens fd_law_tokens ["text", "row"]) (G_law_tokens : FnOk P w C.K C.mg base (L2.CX P w) 2 f_law_tokens fd_law_tokens ["text", "row"] (spF C 2 F_law_tokens)) {f_law_wrong : Addr} {fd_law_wrong : FuncData} (c_law_wrong : Cal C.K C.mg "_law_wrong" f_law_wrong fd_law_wrong ["text"]) (G_law_wrong : FnOk P w C.K C.mg base (L2.CX P w) 1 f_law_wrong fd_law_wrong ["text"] (spF C 1 F_law_wrong)) : FnOk P w C.K C.mg base (L2.CX P w) 3 f fd ["lines"] (spF C 1 F_law_due) :=
  ev_fn (k := 2) F sc_law_due (by decide) fun cdv A outer s H E hr => by
    have tk := takes_of (X := cxOf (L2.CX P w) P w C.K C.mg base ["lines", "at", "found", "row", "token"] "_law_due" (defScope s_law_due) f cdv A outer s H E) (E := E) rfl rfl rfl rfl
    exact (ss_cons (ss_set (i := 2) sc_law_due.nd rfl (.inl rfl) (pc_lst pax_nil))
  (ss_cons (ss_for (passes_of rfl) (by rfl) (pix_rng1 (by rfl) B.range (pax_cons (px_callB call_len ca_len (by rfl) B.len PySem.boot_len (pao_cons (po_name (pv 0)) pao_nil)) pax_nil)) (tg_name (pg_name (i := 3) sc_law_due.nd rfl (.inr rfl))) (ss_cons (ss_set (i := 1) sc_law_due.nd rfl (.inl rfl) (pc_call rfl G_law_wrong (hr.mono (by first | decide | omega)) (by rfl) c_law_wrong.m c_law_wrong.k c_law_wrong.b tk (pao_cons (po_of (px_ix rfl (po_of (px_ix rfl (po_name (pv 0)) (po_name (pv 3)))) (po_of px_int))) pao_nil)))
  (ss_cons (ss_if (pb_cmp op_geA od_ord (po_name (pv 1)) (po_of px_int) (nomark _))
  (ss_cons (ss_ret (pc_of (px_tup (pax_cons px_str (pax_cons (px_name (pv 3)) (pax_cons (px_name (pv 1)) (pax_cons px_bl pax_nil)))))))
  ss_nil)
  ss_nil)
  (ss_cons (ss_expr (pc_of (px_extend rfl (pv 2) (pc_lc (own := [("token", 4)]) (by rfl) sc_law_due.nd (pix rfl (px_of (pc_call rfl G_law_tokens (hr.mono (by first | decide | omega)) (by rfl) c_law_tokens.m c_law_tokens.k c_law_tokens.b tk (pao_cons (po_of (px_ix rfl (po_of (px_ix rfl (po_name (pv 0)) (po_name (pv 3)))) (po_of px_int))) (pao_cons (po_of (px_name (pv 3))) pao_nil))))) (blkOk_by (own := [("token", 4)]) (N := ["lines", "at", "found", "row", "token"]) (sc := defScope s_law_due) (by decide +kernel)) (by decide) (fun _ _ _ _ _ => (tg_name (pg_name (i := 4) sc_law_due.nd rfl (.inl rfl)))) (fun _ _ _ _ _ => pbs_nil) (fun _ _ _ _ _ => (px_tup (pax_cons (px_name (pv 4)) (pax_cons (px_ix rfl (po_of (px_ix rfl (po_name (pv 0)) (po_name (pv 3)))) (po_of px_int)) pax_nil))))))))
  (ss_cons (ss_if (pb_cmp op_gtA od_ord (po_of (px_callB call_len ca_len (by rfl) B.len PySem.boot_len (pao_cons (po_name (pv 2)) pao_nil))) (po_of px_int) (nomark _))
  (ss_cons (ss_ret (pc_of (px_tup (pax_cons px_str (pax_cons px_bl pax_nil)))))
  ss_nil)
  ss_nil)
  ss_nil)))))
  (ss_cons (ss_ret (pc_name (pv 2)))
  ss_nil)))
abbrev s_law_at : Stmt := top 30
def B_law_at : Rho → Out := (seqS (forM (rngX rng1D (consM (pureM (.int 9)) (pureM []))) (nmG 2) (seqS (ifS (tru (valO (isiX "tuple" (nmO 0))))
  (seqS (setS 0 (tmD (bop getD (nmO 0) (valO (bop addD (valO (pureM (.int 1))) (valO (bop getD (nmO 1) (valO (bop getD (nmO 0) (valO (pureM (.int 0)))))))))))) skipS)
  skipS) skipS)) (seqS (retS (nmT 0)) skipS))
def F_law_at : List Sl → Res := runF 3 B_law_at
theorem sc_law_at : FnScope ["d", "row", "turn"] ["d", "row"] (defScope s_law_at) := ⟨rfl, rfl, rfl, by decide +kernel, rfl, by decide +kernel, by decide +kernel⟩
theorem ok_law_at {C : Cfg} {P : Program} {w : World} {base : Heap} {f : Addr} {fd : FuncData} (B : Blt C.mg) (F : Fun C.K "_law_at" "_law_at" s_law_at f fd) : FnOk P w C.K C.mg base (L2.CX P w) 1 f fd ["d", "row"] (spF C 2 F_law_at) :=
  ev_fn (k := 0) F sc_law_at (by decide) fun cdv A outer s H E hr => by
    have tk := takes_of (X := cxOf (L2.CX P w) P w C.K C.mg base ["d", "row", "turn"] "_law_at" (defScope s_law_at) f cdv A outer s H E) (E := E) rfl rfl rfl rfl
    exact (ss_cons (ss_for (passes_of rfl) (by rfl) (pix_rng1 (by rfl) B.range (pax_cons px_int pax_nil)) (tg_name (pg_name (i := 2) sc_law_at.nd rfl (.inl rfl))) (ss_cons (ss_if (pb_tru rfl (po_of (px_isi rfl kit_tup (by rfl) B.isi (pe_bltn (v := .ty "tuple") (by rfl) B.tuple (by decide +kernel) rfl) (po_name (pv 0)))))
  (ss_cons (ss_set (i := 0) sc_law_at.nd rfl (.inl rfl) (pc_of (px_ix rfl (po_name (pv 0)) (po_of (px_op op_addD od_add (po_of px_int) (po_of (px_ix rfl (po_name (pv 1)) (po_of (px_ix rfl (po_name (pv 0)) (po_of px_int))))))))))
  ss_nil)
  ss_nil)
  ss_nil))
  (ss_cons (ss_ret (pc_name (pv 0)))
  ss_nil))
abbrev slaw : Stmt := top 31
def Blaw : Rho → Out := (seqS (setS 11 (callX F_law_tape 2 (consR (valO (nmX 0)) (consR (valO (pureM (.int 0))) (pureM []))))) (seqS (ifS (orB (tst (bop neD (valO (pureM (.str "+-*/(){};,=<>!:.?&|"))) (valO (pureM (.str "+-*/(){};,=<>!:.?&|"))))) (tst (bop neD (valO (pureM (.int 24))) (valO (pureM (.int 24))))))
  (seqS (retS (tmD (pureM (.bool false)))) skipS)
  skipS) (seqS (setS 12 (callX F_law_text 2 (consR (nmO 11) (consR (valO (bop eqD (valO (frzM (callX F_law_take 2 (consR (nmO 11) (consR (valO (pureM (.int 3))) (pureM [])))))) (valO (pureM (.int 0))))) (pureM []))))) (seqS (setS 9 (callX F_law_take 2 (consR (nmO 11) (consR (valO (pureM (.int 50))) (pureM []))))) (seqS (setS 1 (callX F_law_wrong 1 (consR (valO (nmX 12)) (pureM [])))) (seqS (setS 5 (tmD (ifX (tst (bop geD (nmO 1) (valO (pureM (.int 0))))) (tupX (consM (pureM (.str "bad")) (consM (nmX 9) (consM (nmX 1) (consM (pureM (.bool true)) (pureM [])))))) (frzM (callX F_law_tokens 2 (consR (valO (nmX 12)) (consR (valO (nmX 9)) (pureM [])))))))) (seqS (ifS (tst (bop neD (valO (frzM (callX F_law_cut 2 (consR (valO (nmX 12)) (consR (valO (nmX 9)) (pureM [])))))) (nmO 5)))
  (seqS (retS (tmD (pureM (.bool false)))) skipS)
  skipS) (seqS (setS 7 (ownX (pureM []))) (seqS (forM (rngX rng1D (consM (frzM (callX F_law_take 2 (consR (nmO 11) (consR (valO (pureM (.int 8))) (pureM []))))) (pureM []))) (nmG 6) (seqS (setS 4 (callX (F_law_diagram 4) 2 (consR (valO (frzM (lcX (rngX rng1D (consM (pureM (.int 4)) (pureM []))) (nmG 2) (pureM true) (bop eqD (valO (frzM (callX F_law_take 2 (consR (nmO 11) (consR (valO (pureM (.int 2))) (pureM [])))))) (valO (pureM (.int 0)))) [2]))) (consR (valO (pureM (.int 0))) (pureM []))))) (seqS (ifS (tst (bop isNotD (nmO 4) (valO (pureM (.bool false)))))
  (seqS (dropS (tmD (mtX appD 7 (tupX (consM (frzM (callX F_law_text 2 (consR (nmO 11) (consR (valO (bop eqD (valO (frzM (callX F_law_take 2 (consR (nmO 11) (consR (valO (pureM (.int 30))) (pureM [])))))) (valO (pureM (.int 0))))) (pureM []))))) (consM (pureM (.str "main")) (consM (bop addD (nmO 6) (valO (pureM (.int 1)))) (consM (nmX 4) (pureM []))))))))) skipS)
  skipS) skipS))) (seqS (setS 13 (callX F_law_told 1 (consR (valO (frzM (lstOf (nmO 7)))) (pureM [])))) (seqS (ifS (tst (bop neD (nmO 13) (valO (frzM (callX F_law_due 1 (consR (valO (nmX 7)) (pureM [])))))))
  (seqS (retS (tmD (pureM (.bool false)))) skipS)
  skipS) (seqS (ifS (notB (tru (valO (isiX "list" (nmO 13)))))
  (seqS (retS (tmD (pureM (.bool true)))) skipS)
  skipS) (seqS (forM (itX (tupX (consM (pureM (.int 0)) (consM (pureM (.int 1)) (pureM []))))) (nmG 8) (seqS (forM (itX (tupX (consM (pureM (.int 0)) (consM (pureM (.int 1)) (pureM []))))) (nmG 14) (seqS (setS 10 (ownX (pureM []))) (seqS (forM (rngX rng1D (consM (caX lenD (consR (nmO 13) (pureM []))) (pureM []))) (nmG 6) (seqS (setS 3 (callX F_law_at 2 (consR (valO (bop getD (valO (bop getD (nmO 13) (nmO 6))) (valO (pureM (.int 1))))) (consR (valO (tupX (consM (nmX 8) (consM (nmX 14) (pureM []))))) (pureM []))))) (seqS (ifS (tru (nmO 3))
  (seqS (dropS (tmD (mtX appD 10 (nmX 6)))) skipS)
  skipS) skipS))) (seqS (ifS (tst (bop neD (valO (frzM (callX Fpresent 2 (consR (valO (nmX 13)) (consR (valO (tupX (consM (nmX 8) (consM (nmX 14) (pureM []))))) (pureM [])))))) (nmO 10)))
  (seqS (retS (tmD (pureM (.bool false)))) skipS)
  skipS) skipS)))) skipS)) (seqS (retS (tmD (pureM (.bool true)))) skipS))))))))))))))
def Flaw : List Sl → Res := runF 15 Blaw
theorem sclaw : FnScope ["script", "at", "bit", "d", "diagram", "due", "k", "lines", "one", "row", "shown", "tape", "text", "told", "two"] ["script"] (defScope slaw) := ⟨rfl, rfl, rfl, by decide +kernel, rfl, by decide +kernel, by decide +kernel⟩
theorem oklaw {C : Cfg} {P : Program} {w : World} {base : Heap} {f : Addr} {fd : FuncData} (B : Blt C.mg) (F : Fun C.K "law" "law" slaw f fd) (g_MARKS : ∃ t, C.mg "MARKS" = some (.str "+-*/(){};,=<>!:.?&|" t)) (g_MAX_TOKENS : ∃ t, C.mg "MAX_TOKENS" = some (.int 24 t)) {fpresent : Addr} {fdpresent : FuncData} (cpresent : Cal C.K C.mg "present" fpresent fdpresent ["folded", "configuration"]) (Gpresent : FnOk P w C.K C.mg base (L2.CX P w) 2 fpresent fdpresent ["folded", "configuration"] (spF C 2 Fpresent)) {f_law_at : Addr} {fd_law_at : FuncData} (c_law_at : Cal C.K C.mg "_law_at" f_law_at fd_law_at ["d", "row"]) (G_law_at : FnOk P w C.K C.mg base (L2.CX P w) 1 f_law_at fd_law_at ["d", "row"] (spF C 2 F_law_at)) {f_law_due : Addr} {fd_law_due : FuncData} (c_law_due : Cal C.K C.mg "_law_due" f_law_due fd_law_due ["lines"]) (G_law_due : FnOk P w C.K C.mg base (L2.CX P w) 3 f_law_due fd_law_due ["lines"] (spF C 1 F_law_due)) {f_law_told : Addr} {fd_law_told : FuncData} (c_law_told : Cal C.K C.mg "_law_told" f_law_told fd_law_told ["lines"]) (G_law_told : FnOk P w C.K C.mg base (L2.CX P w) 5 f_law_told fd_law_told ["lines"] (spF C 1 F_law_told)) {f_law_take : Addr} {fd_law_take : FuncData} (c_law_take : Cal C.K C.mg "_law_take" f_law_take fd_law_take ["tape", "many"]) (G_law_take : FnOk P w C.K C.mg base (L2.CX P w) 2 f_law_take fd_law_take ["tape", "many"] (spF C 2 F_law_take)) {f_law_text : Addr} {fd_law_text : FuncData} (c_law_text : Cal C.K C.mg "_law_text" f_law_text fd_law_text ["tape", "bad"]) (G_law_text : FnOk P w C.K C.mg base (L2.CX P w) 3 f_law_text fd_law_text ["tape", "bad"] (spF C 2 F_law_text)) {f_law_diagram : Addr} {fd_law_diagram : FuncData} (c_law_diagram : Cal C.K C.mg "_law_diagram" f_law_diagram fd_law_diagram ["bits", "i"]) (G_law_diagram : FnOk P w C.K C.mg base (L2.CX P w) 5 f_law_diagram fd_law_diagram ["bits", "i"] (spF C 2 (F_law_diagram 4))) {f_law_cut : Addr} {fd_law_cut : FuncData} (c_law_cut : Cal C.K C.mg "_law_cut" f_law_cut fd_law_cut ["text", "row"]) (G_law_cut : FnOk P w C.K C.mg base (L2.CX P w) 4 f_law_cut fd_law_cut ["text", "row"] (spF C 2 F_law_cut)) {f_law_tokens : Addr} {fd_law_tokens : FuncData} (c_law_tokens : Cal C.K C.mg "_law_tokens" f_law_tokens fd_law_tokens ["text", "row"]) (G_law_tokens : FnOk P w C.K C.mg base (L2.CX P w) 2 f_law_tokens fd_law_tokens ["text", "row"] (spF C 2 F_law_tokens)) {f_law_wrong : Addr} {fd_law_wrong : FuncData} (c_law_wrong : Cal C.K C.mg "_law_wrong" f_law_wrong fd_law_wrong ["text"]) (G_law_wrong : FnOk P w C.K C.mg base (L2.CX P w) 1 f_law_wrong fd_law_wrong ["text"] (spF C 1 F_law_wrong)) {f_law_tape : Addr} {fd_law_tape : FuncData} (c_law_tape : Cal C.K C.mg "_law_tape" f_law_tape fd_law_tape ["script", "budget"]) (G_law_tape : FnOk P w C.K C.mg base (L2.CX P w) 1 f_law_tape fd_law_tape ["script", "budget"] (spF C 2 F_law_tape)) : FnOk P w C.K C.mg base (L2.CX P w) 6 f fd ["script"] (spF C 1 Flaw) :=
  ev_fn (k := 5) F sclaw (by decide) fun cdv A outer s H E hr => by
    have tk := takes_of (X := cxOf (L2.CX P w) P w C.K C.mg base ["script", "at", "bit", "d", "diagram", "due", "k", "lines", "one", "row", "shown", "tape", "text", "told", "two"] "law" (defScope slaw) f cdv A outer s H E) (E := E) rfl rfl rfl rfl
    exact (ss_cons (ss_set (i := 11) sclaw.nd rfl (.inr rfl) (pc_call rfl G_law_tape (hr.mono (by first | decide | omega)) (by rfl) c_law_tape.m c_law_tape.k c_law_tape.b tk (pao_cons (po_of (px_name (pv 0))) (pao_cons (po_of px_int) pao_nil))))
  (ss_cons (ss_if (pb_of (pwb_or (pb_cmp (op_neA hr.units) od_ne (po_of (px_gstr (by rfl) g_MARKS)) (po_of px_str) (nomark _)) (pwb_or1 (pb_cmp (op_neA hr.units) od_ne (po_of (px_gint (by rfl) g_MAX_TOKENS)) (po_of px_int) (nomark _)))))
  (ss_cons (ss_ret (pc_of px_bl))
  ss_nil)
  ss_nil)
  (ss_cons (ss_set (i := 12) sclaw.nd rfl (.inl rfl) (pc_call rfl G_law_text (hr.mono (by first | decide | omega)) (by rfl) c_law_text.m c_law_text.k c_law_text.b tk (pao_cons (po_name (pv 11)) (pao_cons (po_of (px_cmp (op_eqA hr.units) od_eq (po_of (px_of (pc_call rfl G_law_take (hr.mono (by first | decide | omega)) (by rfl) c_law_take.m c_law_take.k c_law_take.b tk (pao_cons (po_name (pv 11)) (pao_cons (po_of px_int) pao_nil))))) (po_of px_int) (nomark _))) pao_nil))))
  (ss_cons (ss_set (i := 9) sclaw.nd rfl (.inl rfl) (pc_call rfl G_law_take (hr.mono (by first | decide | omega)) (by rfl) c_law_take.m c_law_take.k c_law_take.b tk (pao_cons (po_name (pv 11)) (pao_cons (po_of px_int) pao_nil))))
  (ss_cons (ss_set (i := 1) sclaw.nd rfl (.inl rfl) (pc_call rfl G_law_wrong (hr.mono (by first | decide | omega)) (by rfl) c_law_wrong.m c_law_wrong.k c_law_wrong.b tk (pao_cons (po_of (px_name (pv 12))) pao_nil)))
  (ss_cons (ss_set (i := 5) sclaw.nd rfl (.inl rfl) (pc_of (px_if (pb_cmp op_geA od_ord (po_name (pv 1)) (po_of px_int) (nomark _)) (px_tup (pax_cons px_str (pax_cons (px_name (pv 9)) (pax_cons (px_name (pv 1)) (pax_cons px_bl pax_nil))))) (px_of (pc_call rfl G_law_tokens (hr.mono (by first | decide | omega)) (by rfl) c_law_tokens.m c_law_tokens.k c_law_tokens.b tk (pao_cons (po_of (px_name (pv 12))) (pao_cons (po_of (px_name (pv 9))) pao_nil)))))))
  (ss_cons (ss_if (pb_cmp (op_neA hr.units) od_ne (po_of (px_of (pc_call rfl G_law_cut (hr.mono (by first | decide | omega)) (by rfl) c_law_cut.m c_law_cut.k c_law_cut.b tk (pao_cons (po_of (px_name (pv 12))) (pao_cons (po_of (px_name (pv 9))) pao_nil))))) (po_name (pv 5)) (nomark _))
  (ss_cons (ss_ret (pc_of px_bl))
  ss_nil)
  ss_nil)
  (ss_cons (ss_set (i := 7) sclaw.nd rfl (.inl rfl) (pc_lst pax_nil))
  (ss_cons (ss_for (passes_of rfl) (by rfl) (pix_rng1 (by rfl) B.range (pax_cons (px_of (pc_call rfl G_law_take (hr.mono (by first | decide | omega)) (by rfl) c_law_take.m c_law_take.k c_law_take.b tk (pao_cons (po_name (pv 11)) (pao_cons (po_of px_int) pao_nil)))) pax_nil)) (tg_name (pg_name (i := 6) sclaw.nd rfl (.inl rfl))) (ss_cons (ss_set (i := 4) sclaw.nd rfl (.inl rfl) (pc_call rfl G_law_diagram (hr.mono (by first | decide | omega)) (by rfl) c_law_diagram.m c_law_diagram.k c_law_diagram.b tk (pao_cons (po_of (px_of (pc_lc (own := [("bit", 2)]) (by rfl) sclaw.nd (pix_rng1 (by rfl) B.range (pax_cons px_int pax_nil)) (blkOk_by (own := [("bit", 2)]) (N := ["script", "at", "bit", "d", "diagram", "due", "k", "lines", "one", "row", "shown", "tape", "text", "told", "two"]) (sc := defScope slaw) (by decide +kernel)) (by decide) (fun _ _ _ _ _ => (tg_name (pg_name (i := 2) sclaw.nd rfl (.inl rfl)))) (fun _ _ _ _ _ => pbs_nil) (fun _ _ _ _ _ => (px_cmp (op_eqA hr.units) od_eq (po_of (px_of (pc_call rfl G_law_take (hr.mono (by first | decide | omega)) (by rfl) c_law_take.m c_law_take.k c_law_take.b takes_no (pao_cons (po_name (pv 11)) (pao_cons (po_of px_int) pao_nil))))) (po_of px_int) (nomark _)))))) (pao_cons (po_of px_int) pao_nil))))
  (ss_cons (ss_if (pb_cmp op_isNotA od_isNot (po_name (pv 4)) (po_of px_bl) (nomark _))
  (ss_cons (ss_expr (pc_of (px_append (pv 7) (px_tup (pax_cons (px_of (pc_call rfl G_law_text (hr.mono (by first | decide | omega)) (by rfl) c_law_text.m c_law_text.k c_law_text.b tk (pao_cons (po_name (pv 11)) (pao_cons (po_of (px_cmp (op_eqA hr.units) od_eq (po_of (px_of (pc_call rfl G_law_take (hr.mono (by first | decide | omega)) (by rfl) c_law_take.m c_law_take.k c_law_take.b tk (pao_cons (po_name (pv 11)) (pao_cons (po_of px_int) pao_nil))))) (po_of px_int) (nomark _))) pao_nil)))) (pax_cons px_str (pax_cons (px_op op_addD od_add (po_name (pv 6)) (po_of px_int)) (pax_cons (px_name (pv 4)) pax_nil))))))))
  ss_nil)
  ss_nil)
  ss_nil)))
  (ss_cons (ss_set (i := 13) sclaw.nd rfl (.inl rfl) (pc_call rfl G_law_told (hr.mono (by first | decide | omega)) (by rfl) c_law_told.m c_law_told.k c_law_told.b tk (pao_cons (po_of (px_of (pc_list rfl (by rfl) B.list (po_name (pv 7))))) pao_nil)))
  (ss_cons (ss_if (pb_cmp (op_neA hr.units) od_ne (po_name (pv 13)) (po_of (px_of (pc_call rfl G_law_due (hr.mono (by first | decide | omega)) (by rfl) c_law_due.m c_law_due.k c_law_due.b tk (pao_cons (po_of (px_name (pv 7))) pao_nil)))) (nomark _))
  (ss_cons (ss_ret (pc_of px_bl))
  ss_nil)
  ss_nil)
  (ss_cons (ss_if (pb_not (pb_tru rfl (po_of (px_isi rfl kit_lst (by rfl) B.isi (pe_bltn (v := .ty "list") (by rfl) B.list (by decide +kernel) rfl) (po_name (pv 13))))))
  (ss_cons (ss_ret (pc_of px_bl))
  ss_nil)
  ss_nil)
  (ss_cons (ss_for (passes_of rfl) (by rfl) (pix rfl (px_tup (pax_cons px_int (pax_cons px_int pax_nil)))) (tg_name (pg_name (i := 8) sclaw.nd rfl (.inl rfl))) (ss_cons (ss_for (passes_of rfl) (by rfl) (pix rfl (px_tup (pax_cons px_int (pax_cons px_int pax_nil)))) (tg_name (pg_name (i := 14) sclaw.nd rfl (.inl rfl))) (ss_cons (ss_set (i := 10) sclaw.nd rfl (.inl rfl) (pc_lst pax_nil))
  (ss_cons (ss_for (passes_of rfl) (by rfl) (pix_rng1 (by rfl) B.range (pax_cons (px_callB call_len ca_len (by rfl) B.len PySem.boot_len (pao_cons (po_name (pv 13)) pao_nil)) pax_nil)) (tg_name (pg_name (i := 6) sclaw.nd rfl (.inl rfl))) (ss_cons (ss_set (i := 3) sclaw.nd rfl (.inl rfl) (pc_call rfl G_law_at (hr.mono (by first | decide | omega)) (by rfl) c_law_at.m c_law_at.k c_law_at.b tk (pao_cons (po_of (px_ix rfl (po_of (px_ix rfl (po_name (pv 13)) (po_name (pv 6)))) (po_of px_int))) (pao_cons (po_of (px_tup (pax_cons (px_name (pv 8)) (pax_cons (px_name (pv 14)) pax_nil)))) pao_nil))))
  (ss_cons (ss_if (pb_tru rfl (po_name (pv 3)))
  (ss_cons (ss_expr (pc_of (px_append (pv 10) (px_name (pv 6)))))
  ss_nil)
  ss_nil)
  ss_nil)))
  (ss_cons (ss_if (pb_cmp (op_neA hr.units) od_ne (po_of (px_of (pc_call rfl Gpresent (hr.mono (by first | decide | omega)) (by rfl) cpresent.m cpresent.k cpresent.b tk (pao_cons (po_of (px_name (pv 13))) (pao_cons (po_of (px_tup (pax_cons (px_name (pv 8)) (pax_cons (px_name (pv 14)) pax_nil)))) pao_nil))))) (po_name (pv 10)) (nomark _))
  (ss_cons (ss_ret (pc_of px_bl))
  ss_nil)
  ss_nil)
  ss_nil))))
  ss_nil))
  (ss_cons (ss_ret (pc_of px_bl))
  ss_nil))))))))))))))
end EV
/-! ## k05: the mathematics over the functions -/
namespace EV
open PySem PySem.Spec PyProof.Rows L2 Ver
theorem at0 {α : Type} {a : α} {l : List α} : atI (a :: l) 0 = some a := by
  simp only [atI, ixN, List.length_cons]
  rw [if_pos (by omega), if_pos (by omega)]
  rfl
theorem at1 {α : Type} {a b : α} {l : List α} : atI (a :: b :: l) 1 = some b := by
  simp only [atI, ixN, List.length_cons]
  rw [if_pos (by omega), if_pos (by omega)]
  rfl
theorem at2 {α : Type} {a b c : α} {l : List α} : atI (a :: b :: c :: l) 2 = some c := by
  simp only [atI, ixN, List.length_cons]
  rw [if_pos (by omega), if_pos (by omega)]
  rfl
theorem at3 {α : Type} {a b c d : α} {l : List α} : atI (a :: b :: c :: d :: l) 3 = some d := by
  simp only [atI, ixN, List.length_cons]
  rw [if_pos (by omega), if_pos (by omega)]
  rfl
theorem at4 {α : Type} {a b c d e : α} {l : List α} : atI (a :: b :: c :: d :: e :: l) 4 = some e := by
  simp only [atI, ixN, List.length_cons]
  rw [if_pos (by omega), if_pos (by omega)]
  rfl
theorem at_nat {α : Type} {l : List α} {k : Nat} (h : k < l.length) : atI l (k : Int) = some l[k] := by
  simp only [atI, ixN]
  rw [if_pos (by omega), if_pos (by omega)]
  show l[(k : Int).toNat]? = _
  rw [Int.toNat_natCast]
  exact List.getElem?_eq_getElem h
end EV

namespace EV
open PySem PySem.Spec PyProof.Rows L2 Ver
theorem mix_spec (n : Int) : ∃ r : Int, 0 ≤ r ∧ F_law_mix [.d (.int n)] = .val (.d (.int r)) [.d (.int n)] := by
  have c1 : -18446744073709551616 < (n * 6364136223846793005 + 1442695040888963407) % 18446744073709551616 := by omega
  have c2 : (n * 6364136223846793005 + 1442695040888963407) % 18446744073709551616 < 18446744073709551616 := by omega
  simp [F_law_mix, B_law_mix, runF, seqS, skipS, setS, asgS, asgIx, setIx, augS, ifS, whileS, forM, forS, loopS, retS, dropS, raiseS, tryS, catchS, pick, noEx, onM, tmD, frzM, frzT, bindM, pureM, liftM, badM, bop, opM, rd, slotD, valO, nmO, nmX, nmT, nmG, nilG, consG, tupG, mtX, ownM, appD, extX, extM, popX, popD, ownX, lcX, lcL, endL, wipeR, backR, keepD, isOwn, lstOf, lstM, tupOf, tupM, seqOf, caX, caM, rds, consR, consM, tupX, lstX, lenD, intF, isiX, isiM, tyIs, Ver.isTup, Ver.isBool, Ver.isInt, Ver.isStr, EV.isLst, negX, notX, andX, orX, ifX, andB, orB, notB, tst, tru, truM, truD, boolD, intD, strD, i2, addD, subD, mulD, fdivD, modD, powD, mulC, divC, powC, iaddD, ltD, leD, gtD, geD, ordD, getD, slX, slM, ptM, putS, canSet, slOf, rho0, pinS, endR, finR, backs, callX, callM, endC, okC, argSl, argO, lends, lendL, putL, setL, rngX, rng1D, rng2D, itX, itD, own1X, iniX, iniM, c1, c2]
  omega
def TapeOk (ds : List D) : Prop := ∃ (ns : List Int) (p v s b : Int), ds = [.list (ns.map .int), .int p, .int v, .int s, .int b] ∧ 0 ≤ p
theorem take_spec {ds : List D} {m : Int} {q : Bool} (h : TapeOk ds) (m0 : 0 < m) (m1 : m < 18446744073709551616) :
    ∃ (d : Int) (ds' : List D), 0 ≤ d ∧ d < m ∧ TapeOk ds' ∧ F_law_take [.l q ds, .d (.int m)] = .val (.d (.int d)) [.l q ds', .d (.int m)] := by
  obtain ⟨ns, p, v, s, b, rfl, p0⟩ := h
  have r0 : ∀ x : Int, 0 ≤ x % m ∧ x % m < m := fun x => ⟨Int.emod_nonneg _ (by omega), Int.emod_lt_of_pos _ m0⟩
  have tk : ∀ (p' v' s' : Int), 0 ≤ p' → TapeOk [.list (ns.map .int), .int p', .int v', .int s', .int b] := fun p' v' s' h => ⟨ns, p', v', s', b, rfl, h⟩
  by_cases c1 : v < m
  · by_cases c2 : p < ns.length
    · obtain ⟨k, rfl⟩ : ∃ k : Nat, p = k := ⟨p.toNat, by omega⟩
      have hk : k < (ns.map PyData.int).length := by rw [List.length_map]; omega
      have e0 := at_nat hk
      rw [List.getElem_map] at e0
      generalize ns[k]'(by simpa using hk) = c at e0
      by_cases c3 : 0 ≤ c
      · have e3 : (c : Int) ≥ 0 := c3
        obtain ⟨r1, h1, e1⟩ := mix_spec (s + 2 * c)
        by_cases c4 : (1000000000000000000 : Int) ≤ 2 * c
        · refine ⟨2 * c % m, [.list (ns.map .int), .int (k + 1), .int (2 * c / m), .int r1, .int b], (r0 _).1, (r0 _).2, tk _ _ _ (by omega), ?_⟩
          simp [F_law_take, B_law_take, runF, seqS, skipS, setS, asgS, asgIx, setIx, augS, ifS, whileS, forM, forS, loopS, retS, dropS, raiseS, tryS, catchS, pick, noEx, onM, tmD, frzM, frzT, bindM, pureM, liftM, badM, bop, opM, rd, slotD, valO, nmO, nmX, nmT, nmG, nilG, consG, tupG, mtX, ownM, appD, extX, extM, popX, popD, ownX, lcX, lcL, endL, wipeR, backR, keepD, isOwn, lstOf, lstM, tupOf, tupM, seqOf, caX, caM, rds, consR, consM, tupX, lstX, lenD, intF, isiX, isiM, tyIs, Ver.isTup, Ver.isBool, Ver.isInt, Ver.isStr, EV.isLst, negX, notX, andX, orX, ifX, andB, orB, notB, tst, tru, truM, truD, boolD, intD, strD, i2, addD, subD, mulD, fdivD, modD, powD, mulC, divC, powC, iaddD, ltD, leD, gtD, geD, ordD, getD, slX, slM, ptM, putS, canSet, slOf, rho0, pinS, endR, finR, backs, callX, callM, endC, okC, argSl, argO, lends, lendL, putL, setL, rngX, rng1D, rng2D, itX, itD, own1X, iniX, iniM, at0, at1, at2, at3, at4, ixN, c1, c2, c3, c4, e0, e1, m0, m1]
        · obtain ⟨r2, h2, e2⟩ := mix_spec (2 * c)
          obtain ⟨r3, h3, e3⟩ := mix_spec r2
          refine ⟨r3 % m, [.list (ns.map .int), .int (k + 1), .int (r3 / m), .int r1, .int b], (r0 _).1, (r0 _).2, tk _ _ _ (by omega), ?_⟩
          simp [F_law_take, B_law_take, runF, seqS, skipS, setS, asgS, asgIx, setIx, augS, ifS, whileS, forM, forS, loopS, retS, dropS, raiseS, tryS, catchS, pick, noEx, onM, tmD, frzM, frzT, bindM, pureM, liftM, badM, bop, opM, rd, slotD, valO, nmO, nmX, nmT, nmG, nilG, consG, tupG, mtX, ownM, appD, extX, extM, popX, popD, ownX, lcX, lcL, endL, wipeR, backR, keepD, isOwn, lstOf, lstM, tupOf, tupM, seqOf, caX, caM, rds, consR, consM, tupX, lstX, lenD, intF, isiX, isiM, tyIs, Ver.isTup, Ver.isBool, Ver.isInt, Ver.isStr, EV.isLst, negX, notX, andX, orX, ifX, andB, orB, notB, tst, tru, truM, truD, boolD, intD, strD, i2, addD, subD, mulD, fdivD, modD, powD, mulC, divC, powC, iaddD, ltD, leD, gtD, geD, ordD, getD, slX, slM, ptM, putS, canSet, slOf, rho0, pinS, endR, finR, backs, callX, callM, endC, okC, argSl, argO, lends, lendL, putL, setL, rngX, rng1D, rng2D, itX, itD, own1X, iniX, iniM, at0, at1, at2, at3, at4, ixN, c1, c2, c3, c4, e0, e1, e2, e3, m0, m1]
      · obtain ⟨r1, h1, e1⟩ := mix_spec (s + (-2 * c - 1))
        by_cases c4 : (1000000000000000000 : Int) ≤ -2 * c - 1
        · refine ⟨(-2 * c - 1) % m, [.list (ns.map .int), .int (k + 1), .int ((-2 * c - 1) / m), .int r1, .int b], (r0 _).1, (r0 _).2, tk _ _ _ (by omega), ?_⟩
          simp [F_law_take, B_law_take, runF, seqS, skipS, setS, asgS, asgIx, setIx, augS, ifS, whileS, forM, forS, loopS, retS, dropS, raiseS, tryS, catchS, pick, noEx, onM, tmD, frzM, frzT, bindM, pureM, liftM, badM, bop, opM, rd, slotD, valO, nmO, nmX, nmT, nmG, nilG, consG, tupG, mtX, ownM, appD, extX, extM, popX, popD, ownX, lcX, lcL, endL, wipeR, backR, keepD, isOwn, lstOf, lstM, tupOf, tupM, seqOf, caX, caM, rds, consR, consM, tupX, lstX, lenD, intF, isiX, isiM, tyIs, Ver.isTup, Ver.isBool, Ver.isInt, Ver.isStr, EV.isLst, negX, notX, andX, orX, ifX, andB, orB, notB, tst, tru, truM, truD, boolD, intD, strD, i2, addD, subD, mulD, fdivD, modD, powD, mulC, divC, powC, iaddD, ltD, leD, gtD, geD, ordD, getD, slX, slM, ptM, putS, canSet, slOf, rho0, pinS, endR, finR, backs, callX, callM, endC, okC, argSl, argO, lends, lendL, putL, setL, rngX, rng1D, rng2D, itX, itD, own1X, iniX, iniM, at0, at1, at2, at3, at4, ixN, c1, c2, c3, c4, e0, e1, m0, m1]
        · obtain ⟨r2, h2, e2⟩ := mix_spec (-2 * c - 1)
          obtain ⟨r3, h3, e3⟩ := mix_spec r2
          refine ⟨r3 % m, [.list (ns.map .int), .int (k + 1), .int (r3 / m), .int r1, .int b], (r0 _).1, (r0 _).2, tk _ _ _ (by omega), ?_⟩
          simp [F_law_take, B_law_take, runF, seqS, skipS, setS, asgS, asgIx, setIx, augS, ifS, whileS, forM, forS, loopS, retS, dropS, raiseS, tryS, catchS, pick, noEx, onM, tmD, frzM, frzT, bindM, pureM, liftM, badM, bop, opM, rd, slotD, valO, nmO, nmX, nmT, nmG, nilG, consG, tupG, mtX, ownM, appD, extX, extM, popX, popD, ownX, lcX, lcL, endL, wipeR, backR, keepD, isOwn, lstOf, lstM, tupOf, tupM, seqOf, caX, caM, rds, consR, consM, tupX, lstX, lenD, intF, isiX, isiM, tyIs, Ver.isTup, Ver.isBool, Ver.isInt, Ver.isStr, EV.isLst, negX, notX, andX, orX, ifX, andB, orB, notB, tst, tru, truM, truD, boolD, intD, strD, i2, addD, subD, mulD, fdivD, modD, powD, mulC, divC, powC, iaddD, ltD, leD, gtD, geD, ordD, getD, slX, slM, ptM, putS, canSet, slOf, rho0, pinS, endR, finR, backs, callX, callM, endC, okC, argSl, argO, lends, lendL, putL, setL, rngX, rng1D, rng2D, itX, itD, own1X, iniX, iniM, at0, at1, at2, at3, at4, ixN, c1, c2, c3, c4, e0, e1, e2, e3, m0, m1]
    · obtain ⟨r, hr, e⟩ := mix_spec (s + 1)
      refine ⟨r % m, [.list (ns.map .int), .int p, .int (r / m), .int r, .int b], (r0 _).1, (r0 _).2, tk _ _ _ p0, ?_⟩
      simp [F_law_take, B_law_take, runF, seqS, skipS, setS, asgS, asgIx, setIx, augS, ifS, whileS, forM, forS, loopS, retS, dropS, raiseS, tryS, catchS, pick, noEx, onM, tmD, frzM, frzT, bindM, pureM, liftM, badM, bop, opM, rd, slotD, valO, nmO, nmX, nmT, nmG, nilG, consG, tupG, mtX, ownM, appD, extX, extM, popX, popD, ownX, lcX, lcL, endL, wipeR, backR, keepD, isOwn, lstOf, lstM, tupOf, tupM, seqOf, caX, caM, rds, consR, consM, tupX, lstX, lenD, intF, isiX, isiM, tyIs, Ver.isTup, Ver.isBool, Ver.isInt, Ver.isStr, EV.isLst, negX, notX, andX, orX, ifX, andB, orB, notB, tst, tru, truM, truD, boolD, intD, strD, i2, addD, subD, mulD, fdivD, modD, powD, mulC, divC, powC, iaddD, ltD, leD, gtD, geD, ordD, getD, slX, slM, ptM, putS, canSet, slOf, rho0, pinS, endR, finR, backs, callX, callM, endC, okC, argSl, argO, lends, lendL, putL, setL, rngX, rng1D, rng2D, itX, itD, own1X, iniX, iniM, at0, at1, at2, at3, at4, ixN, c1, c2, e, m0, m1]
  · refine ⟨v % m, [.list (ns.map .int), .int p, .int (v / m), .int s, .int b], (r0 _).1, (r0 _).2, tk _ _ _ p0, ?_⟩
    simp [F_law_take, B_law_take, runF, seqS, skipS, setS, asgS, asgIx, setIx, augS, ifS, whileS, forM, forS, loopS, retS, dropS, raiseS, tryS, catchS, pick, noEx, onM, tmD, frzM, frzT, bindM, pureM, liftM, badM, bop, opM, rd, slotD, valO, nmO, nmX, nmT, nmG, nilG, consG, tupG, mtX, ownM, appD, extX, extM, popX, popD, ownX, lcX, lcL, endL, wipeR, backR, keepD, isOwn, lstOf, lstM, tupOf, tupM, seqOf, caX, caM, rds, consR, consM, tupX, lstX, lenD, intF, isiX, isiM, tyIs, Ver.isTup, Ver.isBool, Ver.isInt, Ver.isStr, EV.isLst, negX, notX, andX, orX, ifX, andB, orB, notB, tst, tru, truM, truD, boolD, intD, strD, i2, addD, subD, mulD, fdivD, modD, powD, mulC, divC, powC, iaddD, ltD, leD, gtD, geD, ordD, getD, slX, slM, ptM, putS, canSet, slOf, rho0, pinS, endR, finR, backs, callX, callM, endC, okC, argSl, argO, lends, lendL, putL, setL, rngX, rng1D, rng2D, itX, itD, own1X, iniX, iniM, at0, at1, at2, at3, at4, ixN, c1, m0, m1]
end EV

/-! ## k05: texts and their runs -/
namespace EV
open PySem PySem.Spec PyProof.Rows L2 Ver
def cs (t : Str) : List Nat := t.cps.toList
theorem cs_len (t : Str) : (cs t).length = t.length := Array.length_toList
def chr (c : Nat) : Str := ⟨#[c]⟩
theorem get_str {t : Str} {k : Nat} (ht : t.length ≤ 1000000) (h : k < (cs t).length) : getD (.str t) (.int (k : Int)) = some (.str (chr (cs t)[k])) := by
  show (if t.length ≤ 1000000 then (atI (cs t) (k : Int)).map fun c => PyData.str ⟨#[c]⟩ else none) = _
  rw [if_pos ht, at_nat h]
  rfl
theorem in_str (c : Nat) (s : Str) : inD (.str (chr c)) (.str s) = some (.bool (decide (c ∈ cs s))) := by
  show ((if (chr c).length = 1 then some (decide ((chr c).cps.getD 0 0 ∈ s.cps.toList)) else some (!(Builtin.Str.occurrences s (chr c) 0 s.length 1).isEmpty)).map PyData.bool) = _
  rw [if_pos (show (chr c).length = 1 from rfl)]
  rfl
theorem notIn_str (c : Nat) (s : Str) : notInD (.str (chr c)) (.str s) = some (.bool (!decide (c ∈ cs s))) := by
  show ((if (chr c).length = 1 then some (decide ((chr c).cps.getD 0 0 ∈ s.cps.toList)) else some (!(Builtin.Str.occurrences s (chr c) 0 s.length 1).isEmpty)).map fun c => PyData.bool (!c)) = _
  rw [if_pos (show (chr c).length = 1 from rfl)]
  rfl
theorem len_str' {t : Str} (ht : t.length ≤ 1000000) : lenD [.str t] = some (.int (cs t).length) := by
  show (if t.length ≤ 1000000 then some (PyData.int t.length) else none) = _
  rw [if_pos ht, cs_len]
/-- where a run ends -/
def runTo (P : Nat → Bool) (l : List Nat) (k : Nat) : Nat := k + ((l.drop k).takeWhile P).length
theorem runTo_step {P : Nat → Bool} {l : List Nat} {k : Nat} (h : k < l.length) (p : P l[k] = true) : runTo P l k = runTo P l (k + 1) := by
  unfold runTo
  rw [List.drop_eq_getElem_cons h, List.takeWhile_cons_of_pos p, List.length_cons]
  omega
theorem runTo_stop {P : Nat → Bool} {l : List Nat} {k : Nat} (h : k < l.length) (p : ¬ P l[k] = true) : runTo P l k = k := by
  unfold runTo
  rw [List.drop_eq_getElem_cons h, List.takeWhile_cons_of_neg p]
  rfl
theorem runTo_end {P : Nat → Bool} {l : List Nat} {k : Nat} (h : l.length ≤ k) : runTo P l k = k := by
  unfold runTo
  rw [List.drop_eq_nil_of_le h]
  rfl
theorem run_of {t sg : Str} (ht : t.length ≤ 900) : ∀ (n k : Nat) (a : D), (cs t).length < k + n → k ≤ (cs t).length →
    whileS (andB (tst (bop ltD (nmO 3) (valO (caX lenD (consR (nmO 0) (pureM [])))))) (tst (bop inD (valO (bop getD (nmO 0) (nmO 3))) (nmO 2)))) (seqS (setS 3 (tmD (bop addD (nmO 3) (valO (pureM (.int 1)))))) skipS) n
      [some (.d (.str t)), some (.d a), some (.d (.str sg)), some (.d (.int k))] = .nx [some (.d (.str t)), some (.d a), some (.d (.str sg)), some (.d (.int (runTo (fun c => decide (c ∈ cs sg)) (cs t) k)))] := by
  have ht' : t.length ≤ 1000000 := by omega
  intro n
  induction n with
  | zero => intro k a h1 h2; omega
  | succ n ih =>
    intro k a h1 h2
    by_cases hk : k < (cs t).length
    · have g := get_str ht' hk
      by_cases p : (cs t)[k] ∈ cs sg
      · rw [runTo_step hk (by simpa using p)]
        rw [← ih (k + 1) a (by omega) (by omega)]
        simp [whileS, runF, seqS, skipS, setS, asgS, asgIx, setIx, augS, ifS, forM, loopS, retS, dropS, raiseS, tryS, catchS, pick, noEx, onM, tmD, frzM, frzT, bindM, pureM, liftM, badM, bop, opM, rd, slotD, valO, nmO, nmX, nmT, nmG, nilG, consG, tupG, mtX, ownM, appD, extX, extM, popX, popD, ownX, lcX, endL, wipeR, backR, keepD, isOwn, lstOf, lstM, tupOf, tupM, seqOf, caX, caM, rds, consR, consM, tupX, lstX, intF, isiX, isiM, tyIs, Ver.isTup, Ver.isBool, Ver.isInt, Ver.isStr, EV.isLst, negX, notX, andX, orX, ifX, andB, orB, notB, tst, tru, truM, truD, boolD, intD, strD, i2, addD, subD, mulD, fdivD, modD, powD, mulC, divC, powC, iaddD, ltD, leD, gtD, geD, ordD, slX, slM, ptM, putS, canSet, slOf, rho0, pinS, endR, finR, backs, callX, callM, endC, okC, argSl, argO, lends, lendL, putL, setL, rngX, rng1D, rng2D, itX, itD, own1X, iniX, iniM, len_str' ht', g, in_str, hk, p]
      · rw [runTo_stop hk (by simpa using p)]
        simp [whileS, runF, seqS, skipS, setS, asgS, asgIx, setIx, augS, ifS, forM, loopS, retS, dropS, raiseS, tryS, catchS, pick, noEx, onM, tmD, frzM, frzT, bindM, pureM, liftM, badM, bop, opM, rd, slotD, valO, nmO, nmX, nmT, nmG, nilG, consG, tupG, mtX, ownM, appD, extX, extM, popX, popD, ownX, lcX, endL, wipeR, backR, keepD, isOwn, lstOf, lstM, tupOf, tupM, seqOf, caX, caM, rds, consR, consM, tupX, lstX, intF, isiX, isiM, tyIs, Ver.isTup, Ver.isBool, Ver.isInt, Ver.isStr, EV.isLst, negX, notX, andX, orX, ifX, andB, orB, notB, tst, tru, truM, truD, boolD, intD, strD, i2, addD, subD, mulD, fdivD, modD, powD, mulC, divC, powC, iaddD, ltD, leD, gtD, geD, ordD, slX, slM, ptM, putS, canSet, slOf, rho0, pinS, endR, finR, backs, callX, callM, endC, okC, argSl, argO, lends, lendL, putL, setL, rngX, rng1D, rng2D, itX, itD, own1X, iniX, iniM, len_str' ht', g, in_str, hk, p]
    · rw [runTo_end (by omega)]
      simp [whileS, runF, seqS, skipS, setS, asgS, asgIx, setIx, augS, ifS, forM, loopS, retS, dropS, raiseS, tryS, catchS, pick, noEx, onM, tmD, frzM, frzT, bindM, pureM, liftM, badM, bop, opM, rd, slotD, valO, nmO, nmX, nmT, nmG, nilG, consG, tupG, mtX, ownM, appD, extX, extM, popX, popD, ownX, lcX, endL, wipeR, backR, keepD, isOwn, lstOf, lstM, tupOf, tupM, seqOf, caX, caM, rds, consR, consM, tupX, lstX, intF, isiX, isiM, tyIs, Ver.isTup, Ver.isBool, Ver.isInt, Ver.isStr, EV.isLst, negX, notX, andX, orX, ifX, andB, orB, notB, tst, tru, truM, truD, boolD, intD, strD, i2, addD, subD, mulD, fdivD, modD, powD, mulC, divC, powC, iaddD, ltD, leD, gtD, geD, ordD, slX, slM, ptM, putS, canSet, slOf, rho0, pinS, endR, finR, backs, callX, callM, endC, okC, argSl, argO, lends, lendL, putL, setL, rngX, rng1D, rng2D, itX, itD, own1X, iniX, iniM, len_str' ht', hk]
theorem run_spec {t sg : Str} {k : Nat} (ht : t.length ≤ 900) (h : k ≤ (cs t).length) :
    F_law_run_of [.d (.str t), .d (.int k), .d (.str sg)] = .val (.d (.int (runTo (fun c => decide (c ∈ cs sg)) (cs t) k))) [.d (.str t), .d (.int k), .d (.str sg)] := by
  have e := run_of (sg := sg) ht 1000 k (.int k) (by rw [cs_len]; omega) h
  unfold F_law_run_of B_law_run_of
  generalize whileS _ _ 1000 = W at e ⊢
  simp [runF, seqS, skipS, setS, asgS, asgIx, setIx, augS, ifS, forM, loopS, retS, dropS, raiseS, tryS, catchS, pick, noEx, onM, tmD, frzM, frzT, bindM, pureM, liftM, badM, bop, opM, rd, slotD, valO, nmO, nmX, nmT, nmG, nilG, consG, tupG, mtX, ownM, appD, extX, extM, popX, popD, ownX, lcX, endL, wipeR, backR, keepD, isOwn, lstOf, lstM, tupOf, tupM, seqOf, caX, caM, rds, consR, consM, tupX, lstX, intF, isiX, isiM, tyIs, Ver.isTup, Ver.isBool, Ver.isInt, Ver.isStr, EV.isLst, negX, notX, andX, orX, ifX, andB, orB, notB, tst, tru, truM, truD, boolD, intD, strD, i2, addD, subD, mulD, fdivD, modD, powD, mulC, divC, powC, iaddD, ltD, leD, gtD, geD, ordD, slX, slM, ptM, putS, canSet, slOf, rho0, pinS, endR, finR, backs, callX, callM, endC, okC, argSl, argO, lends, lendL, putL, setL, rngX, rng1D, rng2D, itX, itD, own1X, iniX, iniM, e]
end EV

/-! ## k05: _law_wrong -/
namespace EV
open PySem PySem.Spec PyProof.Rows L2 Ver
theorem intsD_zero (lo : Int) : intsD lo 0 = [] := rfl
theorem intsD_succ (lo : Int) (n : Nat) : intsD lo (n + 1) = .int lo :: intsD (lo + 1) n := by
  unfold intsD
  rw [List.range_succ_eq_map, List.map_cons, List.map_map]
  congr 1
  · simp
  · apply List.map_congr_left
    intro k _
    simp only [Function.comp]
    congr 1
    omega
def LEG : Str := "abcdefghijklmnopqrstuvwxyzABCDEFGHIJKLMNOPQRSTUVWXYZ0123456789+-*/(){};,=<>!:.?&| "
def legal (c : Nat) : Bool := decide (c ∈ cs LEG)
theorem leg_eq : (Str.ofString "abcdefghijklmnopqrstuvwxyzABCDEFGHIJKLMNOPQRSTUVWXYZ0123456789+-*/(){};,=<>!:.?&| ") = LEG := rfl
/-- where the first wrong sign stands -/
abbrev bad1 (l : List Nat) : Nat := runTo legal l 0
theorem wrong_loop {t : Str} (ht : t.length ≤ 900) : ∀ (n k : Nat) (o : Option Sl), canSet (some o) = true → k + n = (cs t).length →
    ∃ o', canSet (some o') = true ∧ forS (nmG 1) (seqS (ifS (tst (bop notInD (valO (bop getD (nmO 0) (nmO 1))) (nmO 2))) (seqS (retS (nmT 1)) skipS) skipS) skipS) (intsD k n) [some (.d (.str t)), o, some (.d (.str LEG))] =
      if runTo legal (cs t) k < (cs t).length then .ret (.d (.int (runTo legal (cs t) k))) [some (.d (.str t)), some (.d (.int (runTo legal (cs t) k))), some (.d (.str LEG))] else .nx [some (.d (.str t)), o', some (.d (.str LEG))] := by
  have ht' : t.length ≤ 1000000 := by omega
  intro n
  induction n with
  | zero =>
    intro k o ho hk
    refine ⟨o, ho, ?_⟩
    rw [intsD_zero, runTo_end (by omega), if_neg (by omega)]
    rfl
  | succ n ih =>
    intro k o ho hk
    have hk' : k < (cs t).length := by omega
    have g := get_str ht' hk'
    have st : nmG 1 (.int (k : Int)) [some (.d (.str t)), o, some (.d (.str LEG))] = some [some (.d (.str t)), some (.d (.int k)), some (.d (.str LEG))] := by
      show (if canSet (some o) = true then some _ else none) = _
      rw [if_pos ho]
      rfl
    rw [intsD_succ]
    unfold forS
    rw [st]
    by_cases p : (cs t)[k] ∈ cs LEG
    · obtain ⟨o', ho', e⟩ := ih (k + 1) (some (.d (.int k))) rfl (by omega)
      refine ⟨o', ho', ?_⟩
      rw [runTo_step hk' (by simpa [legal] using p), ← e]
      have : ((k : Int) + 1) = ((k + 1 : Nat) : Int) := by omega
      rw [this]
      generalize forS _ _ (intsD ((k + 1 : Nat) : Int) n) = W
      simp [runF, seqS, skipS, setS, asgS, asgIx, setIx, augS, ifS, forM, loopS, retS, dropS, raiseS, tryS, catchS, pick, noEx, onM, tmD, frzM, frzT, bindM, pureM, liftM, badM, bop, opM, rd, slotD, valO, nmO, nmX, nmT, nmG, nilG, consG, tupG, mtX, ownM, appD, extX, extM, popX, popD, ownX, lcX, endL, wipeR, backR, keepD, isOwn, lstOf, lstM, tupOf, tupM, seqOf, caX, caM, rds, consR, consM, tupX, lstX, intF, isiX, isiM, tyIs, Ver.isTup, Ver.isBool, Ver.isInt, Ver.isStr, EV.isLst, negX, notX, andX, orX, ifX, andB, orB, notB, tst, tru, truM, truD, boolD, intD, strD, i2, addD, subD, mulD, fdivD, modD, powD, mulC, divC, powC, iaddD, ltD, leD, gtD, geD, ordD, slX, slM, ptM, putS, canSet, slOf, rho0, pinS, endR, finR, backs, callX, callM, endC, okC, argSl, argO, lends, lendL, putL, setL, rngX, rng1D, rng2D, itX, itD, own1X, iniX, iniM, g, notIn_str, p]
    · refine ⟨o, ho, ?_⟩
      rw [runTo_stop hk' (by simpa [legal] using p), if_pos hk']
      simp [runF, seqS, skipS, setS, asgS, asgIx, setIx, augS, ifS, forM, loopS, retS, dropS, raiseS, tryS, catchS, pick, noEx, onM, tmD, frzM, frzT, bindM, pureM, liftM, badM, bop, opM, rd, slotD, valO, nmO, nmX, nmT, nmG, nilG, consG, tupG, mtX, ownM, appD, extX, extM, popX, popD, ownX, lcX, endL, wipeR, backR, keepD, isOwn, lstOf, lstM, tupOf, tupM, seqOf, caX, caM, rds, consR, consM, tupX, lstX, intF, isiX, isiM, tyIs, Ver.isTup, Ver.isBool, Ver.isInt, Ver.isStr, EV.isLst, negX, notX, andX, orX, ifX, andB, orB, notB, tst, tru, truM, truD, boolD, intD, strD, i2, addD, subD, mulD, fdivD, modD, powD, mulC, divC, powC, iaddD, ltD, leD, gtD, geD, ordD, slX, slM, ptM, putS, canSet, slOf, rho0, pinS, endR, finR, backs, callX, callM, endC, okC, argSl, argO, lends, lendL, putL, setL, rngX, rng1D, rng2D, itX, itD, own1X, iniX, iniM, g, notIn_str, p]
theorem forM_eq (f : M (List D)) (g : D → Rho → Option Rho) (b : Rho → Out) : forM f g b = onM f (forS g b) := rfl
theorem len_l {t : Str} {r : Rho} (ht' : t.length ≤ 1000000) : consM (caX lenD (consR (nmO 0) (pureM []))) (pureM []) (some (.d (.str t)) :: r) = .ok [.int (cs t).length] (some (.d (.str t)) :: r) := by
  simp [bindM, consM, caX, consR, nmO, pureM, caM, rds, rd, liftM, len_str' ht']
theorem rng_n {n : Nat} (hl : small62 (n : Int) = true) : rng1D [.int n] = some (intsD 0 n) := by
  show (if small62 (n : Int) = true then some (intsD 0 ((n : Int).toNat)) else none) = _
  rw [if_pos hl, Int.toNat_natCast]
theorem onM_ok {α : Type} {f : M α} {k : α → Rho → Out} {ρ ρ' : Rho} {x : α} (e : f ρ = .ok x ρ') : onM f k ρ = k x ρ' := by
  unfold onM
  rw [e]
theorem rngX_ok {g : List D → Option (List D)} {f : M (List D)} {ρ ρ' : Rho} {ds es : List D} (e : f ρ = .ok ds ρ') (eg : g ds = some es) : rngX g f ρ = .ok es ρ' := by
  unfold rngX bindM
  rw [e]
  show liftM (g ds) ρ' = _
  rw [eg]
  rfl
theorem on_len {t : Str} {r : Rho} {W : List D → Rho → Out} (ht' : t.length ≤ 1000000) (hl : small62 ((cs t).length : Int) = true) : onM (rngX rng1D (consM (caX lenD (consR (nmO 0) (pureM []))) (pureM []))) W (some (.d (.str t)) :: r) = W (intsD 0 (cs t).length) (some (.d (.str t)) :: r) :=
  onM_ok (rngX_ok (len_l ht') (rng_n hl))
theorem wrong_spec {t : Str} (ht : t.length ≤ 900) : F_law_wrong [.d (.str t)] = .val (.d (.int (if bad1 (cs t) < (cs t).length then (bad1 (cs t) : Int) else -1))) [.d (.str t)] := by
  have ht' : t.length ≤ 1000000 := by omega
  obtain ⟨o', ho', e⟩ := wrong_loop ht (cs t).length 0 none rfl (by omega)
  rw [show ((0 : Nat) : Int) = 0 from rfl] at e
  have hl : small62 ((cs t).length : Int) = true := by
    have := cs_len t
    simp [small62]
    omega
  have ol := fun r W => on_len (r := r) (W := W) ht' hl
  unfold F_law_wrong B_law_wrong
  rw [forM_eq, leg_eq]
  generalize forS _ _ = W at e ⊢
  generalize onM (rngX rng1D (consM (caX lenD (consR (nmO 0) (pureM []))) (pureM []))) = OM at ol ⊢
  generalize LEG = sg at e ⊢
  have st : setS 2 (tmD (pureM (.str sg))) [some (.d (.str t)), none, none] = .nx [some (.d (.str t)), none, some (.d (.str sg))] := rfl
  show endR [.d (.str t)] (seqS (setS 2 (tmD (pureM (.str sg)))) _ [some (.d (.str t)), none, none]) = _
  unfold seqS
  rw [st]
  by_cases c : bad1 (cs t) < (cs t).length
  · rw [if_pos c] at e ⊢
    simp only [seqS, ol, e, endR, finR, backs, Option.map]
  · rw [if_neg c] at e ⊢
    simp only [seqS, ol, e, retS, negX, tmD, bindM, pureM, liftM, intD, onM, endR, finR, backs, Option.map]
end EV

/-! ## k05: _kind_of, _continues -/
namespace EV
open PySem PySem.Spec PyProof.Rows L2 Ver
def LET : Str := "abcdefghijklmnopqrstuvwxyzABCDEFGHIJKLMNOPQRSTUVWXYZ"
def DIG : Str := "0123456789"
def MRK : Str := "+-*/(){};,=<>!:.?&|"
theorem let_eq : (Str.ofString "abcdefghijklmnopqrstuvwxyzABCDEFGHIJKLMNOPQRSTUVWXYZ") = LET := rfl
theorem dig_eq : (Str.ofString "0123456789") = DIG := rfl
theorem mrk_eq : (Str.ofString "+-*/(){};,=<>!:.?&|") = MRK := rfl
def kind (c : Nat) : Str := if c ∈ cs LET then "word" else if c ∈ cs DIG then "number" else if c ∈ cs MRK then "mark" else ""
theorem kind_spec (c : Nat) : F_kind_of [.d (.str (chr c))] = .val (.d (.str (kind c))) [.d (.str (chr c))] := by
  unfold F_kind_of B_kind_of kind
  rw [let_eq, dig_eq, mrk_eq]
  generalize LET = a
  generalize DIG = b
  generalize MRK = m
  by_cases h1 : c ∈ cs a
  · simp [runF, seqS, skipS, setS, asgS, asgIx, setIx, augS, ifS, forM, loopS, retS, dropS, raiseS, tryS, catchS, pick, noEx, onM, tmD, frzM, frzT, bindM, pureM, liftM, badM, bop, opM, rd, slotD, valO, nmO, nmX, nmT, nmG, nilG, consG, tupG, mtX, ownM, appD, extX, extM, popX, popD, ownX, lcX, endL, wipeR, backR, keepD, isOwn, lstOf, lstM, tupOf, tupM, seqOf, caX, caM, rds, consR, consM, tupX, lstX, intF, isiX, isiM, tyIs, Ver.isTup, Ver.isBool, Ver.isInt, Ver.isStr, EV.isLst, negX, notX, andX, orX, ifX, andB, orB, notB, tst, tru, truM, truD, boolD, intD, strD, i2, addD, subD, mulD, fdivD, modD, powD, mulC, divC, powC, iaddD, ltD, leD, gtD, geD, ordD, slX, slM, ptM, putS, canSet, slOf, rho0, pinS, endR, finR, backs, callX, callM, endC, okC, argSl, argO, lends, lendL, putL, setL, rngX, rng1D, rng2D, itX, itD, own1X, iniX, iniM, in_str, h1]
  · by_cases h2 : c ∈ cs b
    · simp [runF, seqS, skipS, setS, asgS, asgIx, setIx, augS, ifS, forM, loopS, retS, dropS, raiseS, tryS, catchS, pick, noEx, onM, tmD, frzM, frzT, bindM, pureM, liftM, badM, bop, opM, rd, slotD, valO, nmO, nmX, nmT, nmG, nilG, consG, tupG, mtX, ownM, appD, extX, extM, popX, popD, ownX, lcX, endL, wipeR, backR, keepD, isOwn, lstOf, lstM, tupOf, tupM, seqOf, caX, caM, rds, consR, consM, tupX, lstX, intF, isiX, isiM, tyIs, Ver.isTup, Ver.isBool, Ver.isInt, Ver.isStr, EV.isLst, negX, notX, andX, orX, ifX, andB, orB, notB, tst, tru, truM, truD, boolD, intD, strD, i2, addD, subD, mulD, fdivD, modD, powD, mulC, divC, powC, iaddD, ltD, leD, gtD, geD, ordD, slX, slM, ptM, putS, canSet, slOf, rho0, pinS, endR, finR, backs, callX, callM, endC, okC, argSl, argO, lends, lendL, putL, setL, rngX, rng1D, rng2D, itX, itD, own1X, iniX, iniM, in_str, h1, h2]
    · by_cases h3 : c ∈ cs m
      · simp [runF, seqS, skipS, setS, asgS, asgIx, setIx, augS, ifS, forM, loopS, retS, dropS, raiseS, tryS, catchS, pick, noEx, onM, tmD, frzM, frzT, bindM, pureM, liftM, badM, bop, opM, rd, slotD, valO, nmO, nmX, nmT, nmG, nilG, consG, tupG, mtX, ownM, appD, extX, extM, popX, popD, ownX, lcX, endL, wipeR, backR, keepD, isOwn, lstOf, lstM, tupOf, tupM, seqOf, caX, caM, rds, consR, consM, tupX, lstX, intF, isiX, isiM, tyIs, Ver.isTup, Ver.isBool, Ver.isInt, Ver.isStr, EV.isLst, negX, notX, andX, orX, ifX, andB, orB, notB, tst, tru, truM, truD, boolD, intD, strD, i2, addD, subD, mulD, fdivD, modD, powD, mulC, divC, powC, iaddD, ltD, leD, gtD, geD, ordD, slX, slM, ptM, putS, canSet, slOf, rho0, pinS, endR, finR, backs, callX, callM, endC, okC, argSl, argO, lends, lendL, putL, setL, rngX, rng1D, rng2D, itX, itD, own1X, iniX, iniM, in_str, h1, h2, h3]
      · simp [runF, seqS, skipS, setS, asgS, asgIx, setIx, augS, ifS, forM, loopS, retS, dropS, raiseS, tryS, catchS, pick, noEx, onM, tmD, frzM, frzT, bindM, pureM, liftM, badM, bop, opM, rd, slotD, valO, nmO, nmX, nmT, nmG, nilG, consG, tupG, mtX, ownM, appD, extX, extM, popX, popD, ownX, lcX, endL, wipeR, backR, keepD, isOwn, lstOf, lstM, tupOf, tupM, seqOf, caX, caM, rds, consR, consM, tupX, lstX, intF, isiX, isiM, tyIs, Ver.isTup, Ver.isBool, Ver.isInt, Ver.isStr, EV.isLst, negX, notX, andX, orX, ifX, andB, orB, notB, tst, tru, truM, truD, boolD, intD, strD, i2, addD, subD, mulD, fdivD, modD, powD, mulC, divC, powC, iaddD, ltD, leD, gtD, geD, ordD, slX, slM, ptM, putS, canSet, slOf, rho0, pinS, endR, finR, backs, callX, callM, endC, okC, argSl, argO, lends, lendL, putL, setL, rngX, rng1D, rng2D, itX, itD, own1X, iniX, iniM, in_str, h1, h2, h3]
end EV
namespace EV
open PySem PySem.Spec PyProof.Rows L2 Ver
theorem eq_str (a b : Str) : eqD (.str a) (.str b) = some (.bool (decide (a = b))) := by
  show (if flat2 (.str a) (.str b) = true then some (PyData.bool (PyData.eqv (.str a) (.str b))) else _) = _
  rw [if_pos (show flat2 (.str a) (.str b) = true from rfl)]
  congr 2
theorem ne_str (a b : Str) : neD (.str a) (.str b) = some (.bool (!decide (a = b))) := by
  show (if flat2 (.str a) (.str b) = true then some (PyData.bool (!PyData.eqv (.str a) (.str b))) else _) = _
  rw [if_pos (show flat2 (.str a) (.str b) = true from rfl)]
  congr 2
theorem ne_wm : neD (.str "word") (.str "mark") = some (.bool true) := by rw [ne_str]; rfl
theorem ne_nm : neD (.str "number") (.str "mark") = some (.bool true) := by rw [ne_str]; rfl
theorem ne_mm : neD (.str "mark") (.str "mark") = some (.bool false) := by rw [ne_str]; rfl
theorem eq_ww : eqD (.str "word") (.str "word") = some (.bool true) := by rw [eq_str]; rfl
theorem eq_nw : eqD (.str "number") (.str "word") = some (.bool false) := by rw [eq_str]; rfl
theorem cont_word (x : Nat) : F_continues [.d (.str "word"), .d (.str (chr x))] = .val (.d (.bool (decide (x ∈ cs DIG) || decide (x ∈ cs LET)))) [.d (.str "word"), .d (.str (chr x))] := by
  unfold F_continues B_continues
  rw [let_eq, dig_eq]
  generalize LET = a
  generalize DIG = b
  have n1 := ne_wm
  have n2 := eq_ww
  generalize neD = ne at n1 ⊢
  generalize eqD = eq at n2 ⊢
  generalize ("word" : Str) = wd at n1 n2 ⊢
  by_cases h1 : x ∈ cs b
  · simp [runF, seqS, skipS, setS, asgS, asgIx, setIx, augS, ifS, forM, loopS, retS, dropS, raiseS, tryS, catchS, pick, noEx, onM, tmD, frzM, frzT, bindM, pureM, liftM, badM, bop, opM, rd, slotD, valO, nmO, nmX, nmT, nmG, nilG, consG, tupG, mtX, ownM, appD, extX, extM, popX, popD, ownX, lcX, endL, wipeR, backR, keepD, isOwn, lstOf, lstM, tupOf, tupM, seqOf, caX, caM, rds, consR, consM, tupX, lstX, intF, isiX, isiM, tyIs, Ver.isTup, Ver.isBool, Ver.isInt, Ver.isStr, EV.isLst, negX, notX, andX, orX, ifX, andB, orB, notB, tst, tru, truM, truD, boolD, intD, strD, i2, addD, subD, mulD, fdivD, modD, powD, mulC, divC, powC, iaddD, ltD, leD, gtD, geD, ordD, slX, slM, ptM, putS, canSet, slOf, rho0, pinS, endR, finR, backs, callX, callM, endC, okC, argSl, argO, lends, lendL, putL, setL, rngX, rng1D, rng2D, itX, itD, own1X, iniX, iniM, in_str, n1, n2, h1]
  · by_cases h2 : x ∈ cs a
    · simp [runF, seqS, skipS, setS, asgS, asgIx, setIx, augS, ifS, forM, loopS, retS, dropS, raiseS, tryS, catchS, pick, noEx, onM, tmD, frzM, frzT, bindM, pureM, liftM, badM, bop, opM, rd, slotD, valO, nmO, nmX, nmT, nmG, nilG, consG, tupG, mtX, ownM, appD, extX, extM, popX, popD, ownX, lcX, endL, wipeR, backR, keepD, isOwn, lstOf, lstM, tupOf, tupM, seqOf, caX, caM, rds, consR, consM, tupX, lstX, intF, isiX, isiM, tyIs, Ver.isTup, Ver.isBool, Ver.isInt, Ver.isStr, EV.isLst, negX, notX, andX, orX, ifX, andB, orB, notB, tst, tru, truM, truD, boolD, intD, strD, i2, addD, subD, mulD, fdivD, modD, powD, mulC, divC, powC, iaddD, ltD, leD, gtD, geD, ordD, slX, slM, ptM, putS, canSet, slOf, rho0, pinS, endR, finR, backs, callX, callM, endC, okC, argSl, argO, lends, lendL, putL, setL, rngX, rng1D, rng2D, itX, itD, own1X, iniX, iniM, in_str, n1, n2, h1, h2]
    · simp [runF, seqS, skipS, setS, asgS, asgIx, setIx, augS, ifS, forM, loopS, retS, dropS, raiseS, tryS, catchS, pick, noEx, onM, tmD, frzM, frzT, bindM, pureM, liftM, badM, bop, opM, rd, slotD, valO, nmO, nmX, nmT, nmG, nilG, consG, tupG, mtX, ownM, appD, extX, extM, popX, popD, ownX, lcX, endL, wipeR, backR, keepD, isOwn, lstOf, lstM, tupOf, tupM, seqOf, caX, caM, rds, consR, consM, tupX, lstX, intF, isiX, isiM, tyIs, Ver.isTup, Ver.isBool, Ver.isInt, Ver.isStr, EV.isLst, negX, notX, andX, orX, ifX, andB, orB, notB, tst, tru, truM, truD, boolD, intD, strD, i2, addD, subD, mulD, fdivD, modD, powD, mulC, divC, powC, iaddD, ltD, leD, gtD, geD, ordD, slX, slM, ptM, putS, canSet, slOf, rho0, pinS, endR, finR, backs, callX, callM, endC, okC, argSl, argO, lends, lendL, putL, setL, rngX, rng1D, rng2D, itX, itD, own1X, iniX, iniM, in_str, n1, n2, h1, h2]
end EV

namespace EV
open PySem PySem.Spec PyProof.Rows L2 Ver
def contK (kd : Str) (x : Nat) : Bool := (!decide (kd = "mark")) && (decide (x ∈ cs DIG) || (decide (kd = "word") && decide (x ∈ cs LET)))
theorem cont_spec (kd : Str) (x : Nat) : F_continues [.d (.str kd), .d (.str (chr x))] = .val (.d (.bool (contK kd x))) [.d (.str kd), .d (.str (chr x))] := by
  suffices h : okF (fun t as => t = .d (.bool (contK kd x)) ∧ as = [.d (.str kd), .d (.str (chr x))]) noF (F_continues [.d (.str kd), .d (.str (chr x))]) by
    obtain ⟨t, as, e, rfl, rfl⟩ := okF_val h
    exact e
  unfold F_continues B_continues contK
  rw [w_run, let_eq, dig_eq]
  have nm : ¬ (Str.ofString "word" = Str.ofString "mark") := by decide
  generalize LET = a
  generalize DIG = b
  simp only [w_ok, w_ex, w_bad, w_pure, w_lsome, w_lnone, w_lite, w_ite, w_iteR, w_bind, w_kB, a_nmX, a_nmO, a_nmT, a_valO, a_bop, a_opM, a_rdv, a_rds, a_sd, a_sl, a_tst, a_boolD, a_tru, a_truM, a_andB, a_orB, a_notB, a_andX, a_orX, a_notX, a_ifX, a_caX, a_caM, a_rdsn, a_rdsc, a_consR, a_consM, a_tupX, a_lstX, a_ownX, a_badM, a_tmD, a_frzM, a_frzd, a_frzl, a_isiX, a_isiM, a_negX, a_intD, a_ptM, a_slX, a_slM, a_own, a_mtX, a_extX, a_popX, a_isOwn, a_isOwnd, a_isOwnn, a_ext, a_lstOf, a_lstM, a_tupOf, a_tupM, a_sq1, a_sq2, a_itX, a_it1, a_it2, a_it3, a_rngX, a_fmtX, a_fmtM, a_js0, a_js1, a_strD, a_own1, a_iniX, a_iniM, a_fldM, a_isEM, a_lcX, a_callX, w_call, w_okC, w_fval, w_fex, w_qE, w_qL, a_as0, a_asv, a_ass, a_argd, a_argl, a_ln0, a_lnv, a_lns, a_ll0, a_lld, a_lls, a_pl0, a_pl1, a_setL, a_omap, w_pSnx, w_pSrt, w_pSbk, w_pSct, w_pSex, w_skip, w_seq, w_onx, w_ort, w_obk, w_oct, w_oex, w_obad, w_oite, w_oite, w_on, w_set, w_kSet, a_csn, a_csd, a_csl, a_csx, a_slOd, a_slOl, w_kAs, w_kAsg, w_asg, w_kIf, w_if, w_ret, w_kDr, w_drop, w_raise, w_kFor, w_for, w_for0, w_pLnx, w_pLct, w_pLbk, w_pLrt, w_pLex, w_loop, w_kWt, w_kWf, w_kWd, w_kTt, w_kTf, w_try, w_pTnx, w_pTrt, w_pTbk, w_pTct, w_pTex, w_pk0, w_pk1, w_noEx, w_pNnx, w_pNrt, w_pNex, w_map, w_pMnx, w_pMrt, w_gO, w_gN, w_qB, w_pEnx, w_pErt, w_pEex, w_run, a_bk0, a_bkd, a_bkl, a_rho0, a_pind, a_pinl, a_nmG, a_nilG, a_consG, a_tupG, a_asgIx, a_setIx, a_augS, a_wp0, a_wp1, a_bR0, a_bR1, a_kd1, a_kd0, a_kdl, List.getElem?_cons_zero, List.getElem?_cons_succ, List.getElem?_nil, List.set_cons_zero, List.set_cons_succ, List.length_cons, List.length_nil, List.map_cons, List.map_nil, List.nil_append, List.cons_append, List.replicate_succ, List.replicate_zero, if_true, if_false, eq_self, decide_eq_true_eq, Bool.false_eq_true, and_true, true_and, Option.map_some, Option.map_none, not_true_eq_false, not_false_eq_true, forall_const, false_implies, true_implies, Nat.reduceAdd, Nat.reduceSub, Nat.reduceLeDiff, Nat.reduceLT, List.nodup_nil, List.nodup_cons, List.not_mem_nil, Bool.not_eq_true, decide_true, decide_false, Bool.not_true, Bool.not_false, reduceIte, reduceCtorEq, Nat.zero_add, ne_str, eq_str, in_str]
  by_cases h1 : kd = "mark"
  · simp [h1]
  · by_cases h2 : x ∈ cs b
    · simp [h1, h2]
    · by_cases h3 : kd = "word" 
      · simp [h1, h2, h3, nm]
      · simp [h1, h2, h3, nm]
end EV
namespace EV
open PySem PySem.Spec PyProof.Rows L2 Ver
/-- where the token at k ends -/
def nxt (l : List Nat) (k : Nat) : Nat := runTo (contK (kind (l.getD k 0))) l (k + 1)
theorem runTo_ge {P : Nat → Bool} {l : List Nat} {k : Nat} : k ≤ runTo P l k := Nat.le_add_right _ _
theorem runTo_le {P : Nat → Bool} {l : List Nat} {k : Nat} (h : k ≤ l.length) : runTo P l k ≤ l.length := by
  unfold runTo
  have := (List.takeWhile_prefix P (l := l.drop k)).length_le
  rw [List.length_drop] at this
  omega
theorem nxt_gt {l : List Nat} {k : Nat} : k < nxt l k := runTo_ge
def gl (l : List Nat) (k : Nat) : Bool := decide (0 < k) && !decide (l.getD (k - 1) 0 = 32)
def tokD (t : Str) (row : D) (k : Nat) : D := .tuple [.str (kind ((cs t).getD k 0)), .str (cutS t (some (k : Int)) (some (nxt (cs t) k : Int))), row, .int k, .bool (gl (cs t) k)]
def tksF (t : Str) (row : D) (k : Nat) : List D :=
  if k < (cs t).length then (if (cs t).getD k 0 = 32 then tksF t row (k + 1) else tokD t row k :: tksF t row (nxt (cs t) k)) else []
termination_by (cs t).length - k
decreasing_by
  · omega
  · have := @nxt_gt (cs t) k
    omega
theorem tks_sp {t : Str} {row : D} {k : Nat} (h : k < (cs t).length) (e : (cs t)[k] = 32) : tksF t row k = tksF t row (k + 1) := by
  rw [tksF, if_pos h, if_pos (by rw [List.getD_eq_getElem?_getD, List.getElem?_eq_getElem h]; exact e)]
theorem tks_tok {t : Str} {row : D} {k : Nat} (h : k < (cs t).length) (e : ¬ (cs t)[k] = 32) : tksF t row k = tokD t row k :: tksF t row (nxt (cs t) k) := by
  rw [tksF, if_pos h, if_neg (by rw [List.getD_eq_getElem?_getD, List.getElem?_eq_getElem h]; exact e)]
theorem tks_end {t : Str} {row : D} {k : Nat} (h : (cs t).length ≤ k) : tksF t row k = [] := by
  rw [tksF, if_neg (by omega)]
theorem sp_eq : (Str.ofString " ") = chr 32 := rfl
theorem chr_eq {a b : Nat} : chr a = chr b ↔ a = b := ⟨fun e => by have := congrArg cs e; simpa [cs, chr] using this, fun e => by rw [e]⟩
theorem addD_int (i j : Int) : addD (.int i) (.int j) = some (.int (i + j)) := rfl
theorem subD_int (i j : Int) : subD (.int i) (.int j) = some (.int (i - j)) := rfl
theorem ltD_int (i j : Int) : ltD (.int i) (.int j) = some (.bool (decide (i < j))) := rfl
theorem gtD_int (i j : Int) : gtD (.int i) (.int j) = some (.bool (decide (j < i))) := rfl
theorem geD_int (i j : Int) : geD (.int i) (.int j) = some (.bool (decide (j ≤ i))) := rfl
theorem iaddD_int (i j : Int) : iaddD (.int i) (.int j) = some (.int (i + j)) := rfl
theorem tru_bool (b : Bool) : truD (.bool b) = some b := rfl
theorem slD_str (t : Str) (lo hi : Option Int) : slD (.str t) lo hi = if t.length ≤ 1000000 then some (.str (cutS t lo hi)) else none := rfl
theorem appD_eq (ds : List D) (d : D) : appD ds d = if ds.length < 1000000 then some (ds ++ [d], .none) else none := rfl
theorem free_of {e : Option Sl} {p : Bool} (h : canSet (some e) = p) : canSet (some e) = p := h
theorem inner_run {t : Str} {r : D} (ht : t.length ≤ 900) {kd : Str} {k : Int} {fnd : List D} {e5 : Option Sl} {P : Post} {j : Nat} (hj : j ≤ (cs t).length)
    (h : P.nx [some (.d (.str t)), some (.d r), some (.d (.int k)), some (.d (.int (runTo (contK kd) (cs t) j))), some (.l false fnd), e5, some (.d (.str kd))]) :
    okO P (whileS (andB (tst (bop ltD (nmO 3) (valO (caX lenD (consR (nmO 0) (pureM [])))))) (tru (valO (frzM (callX F_continues 2 (consR (valO (nmX 6)) (consR (valO (bop getD (nmO 0) (nmO 3))) (pureM [])))))))) (seqS (augS 3 iaddD (valO (pureM (.int 1)))) skipS) 1000
      [some (.d (.str t)), some (.d r), some (.d (.int k)), some (.d (.int j)), some (.l false fnd), e5, some (.d (.str kd))]) := by
  have ht' : t.length ≤ 1000000 := by omega
  have hl := cs_len t
  refine while_inv (fun m ρ => ∃ i : Nat, i ≤ (cs t).length ∧ m = (cs t).length - i ∧ runTo (contK kd) (cs t) i = runTo (contK kd) (cs t) j ∧ ρ = [some (.d (.str t)), some (.d r), some (.d (.int k)), some (.d (.int i)), some (.l false fnd), e5, some (.d (.str kd))]) ?_ (m := (cs t).length - j) (by omega) ⟨j, hj, rfl, rfl, rfl⟩
  rintro m ρ ⟨i, hi, rfl, he, rfl⟩
  have lt : ((i : Int) < ((cs t).length : Int)) ↔ i < (cs t).length := by omega
  by_cases c : i < (cs t).length
  · have g := get_str ht' c
    simp only [w_ok, w_ex, w_bad, w_pure, w_lsome, w_lnone, w_lite, w_ite, w_iteR, w_bind, w_kB, a_nmX, a_nmO, a_nmT, a_valO, a_bop, a_opM, a_rdv, a_rds, a_sd, a_sl, a_tst, a_boolD, a_tru, a_truM, a_andB, a_orB, a_notB, a_andX, a_orX, a_notX, a_ifX, a_caX, a_caM, a_rdsn, a_rdsc, a_consR, a_consM, a_tupX, a_lstX, a_ownX, a_badM, a_tmD, a_frzM, a_frzd, a_frzl, a_isiX, a_isiM, a_negX, a_intD, a_ptM, a_slX, a_slM, a_own, a_mtX, a_extX, a_popX, a_isOwn, a_isOwnd, a_isOwnn, a_ext, a_lstOf, a_lstM, a_tupOf, a_tupM, a_sq1, a_sq2, a_itX, a_it1, a_it2, a_it3, a_rngX, a_fmtX, a_fmtM, a_js0, a_js1, a_strD, a_own1, a_iniX, a_iniM, a_fldM, a_isEM, a_lcX, a_callX, w_call, w_okC, w_fval, w_fex, w_qE, w_qL, a_as0, a_asv, a_ass, a_argd, a_argl, a_ln0, a_lnv, a_lns, a_ll0, a_lld, a_lls, a_pl0, a_pl1, a_setL, a_omap, w_pSnx, w_pSrt, w_pSbk, w_pSct, w_pSex, w_skip, w_seq, w_onx, w_ort, w_obk, w_oct, w_oex, w_obad, w_oite, w_oite, w_on, w_set, w_kSet, a_csn, a_csd, a_csl, a_csx, a_slOd, a_slOl, w_kAs, w_kAsg, w_asg, w_kIf, w_if, w_ret, w_kDr, w_drop, w_raise, w_kFor, w_for, w_for0, w_pLnx, w_pLct, w_pLbk, w_pLrt, w_pLex, w_loop, w_kWt, w_kWf, w_kWd, w_kTt, w_kTf, w_try, w_pTnx, w_pTrt, w_pTbk, w_pTct, w_pTex, w_pk0, w_pk1, w_noEx, w_pNnx, w_pNrt, w_pNex, w_map, w_pMnx, w_pMrt, w_gO, w_gN, w_qB, w_pEnx, w_pErt, w_pEex, w_run, a_bk0, a_bkd, a_bkl, a_rho0, a_pind, a_pinl, a_nmG, a_nilG, a_consG, a_tupG, a_asgIx, a_setIx, a_augS, a_wp0, a_wp1, a_bR0, a_bR1, a_kd1, a_kd0, a_kdl, List.getElem?_cons_zero, List.getElem?_cons_succ, List.getElem?_nil, List.set_cons_zero, List.set_cons_succ, List.length_cons, List.length_nil, List.map_cons, List.map_nil, List.nil_append, List.cons_append, List.replicate_succ, List.replicate_zero, if_true, if_false, eq_self, decide_eq_true_eq, Bool.false_eq_true, and_true, true_and, Option.map_some, Option.map_none, not_true_eq_false, not_false_eq_true, forall_const, false_implies, true_implies, Nat.reduceAdd, Nat.reduceSub, Nat.reduceLeDiff, Nat.reduceLT, List.nodup_nil, List.nodup_cons, List.not_mem_nil, Bool.not_eq_true, decide_true, decide_false, Bool.not_true, Bool.not_false, reduceIte, reduceCtorEq, Nat.zero_add, len_str' ht', ltD_int, lt, c, g, cont_spec, tru_bool, iaddD_int]
    cases q : contK kd (cs t)[i] with
    | true => 
      simp only [w_ok, w_ex, w_bad, w_pure, w_lsome, w_lnone, w_lite, w_ite, w_iteR, w_bind, w_kB, a_nmX, a_nmO, a_nmT, a_valO, a_bop, a_opM, a_rdv, a_rds, a_sd, a_sl, a_tst, a_boolD, a_tru, a_truM, a_andB, a_orB, a_notB, a_andX, a_orX, a_notX, a_ifX, a_caX, a_caM, a_rdsn, a_rdsc, a_consR, a_consM, a_tupX, a_lstX, a_ownX, a_badM, a_tmD, a_frzM, a_frzd, a_frzl, a_isiX, a_isiM, a_negX, a_intD, a_ptM, a_slX, a_slM, a_own, a_mtX, a_extX, a_popX, a_isOwn, a_isOwnd, a_isOwnn, a_ext, a_lstOf, a_lstM, a_tupOf, a_tupM, a_sq1, a_sq2, a_itX, a_it1, a_it2, a_it3, a_rngX, a_fmtX, a_fmtM, a_js0, a_js1, a_strD, a_own1, a_iniX, a_iniM, a_fldM, a_isEM, a_lcX, a_callX, w_call, w_okC, w_fval, w_fex, w_qE, w_qL, a_as0, a_asv, a_ass, a_argd, a_argl, a_ln0, a_lnv, a_lns, a_ll0, a_lld, a_lls, a_pl0, a_pl1, a_setL, a_omap, w_pSnx, w_pSrt, w_pSbk, w_pSct, w_pSex, w_skip, w_seq, w_onx, w_ort, w_obk, w_oct, w_oex, w_obad, w_oite, w_oite, w_on, w_set, w_kSet, a_csn, a_csd, a_csl, a_csx, a_slOd, a_slOl, w_kAs, w_kAsg, w_asg, w_kIf, w_if, w_ret, w_kDr, w_drop, w_raise, w_kFor, w_for, w_for0, w_pLnx, w_pLct, w_pLbk, w_pLrt, w_pLex, w_loop, w_kWt, w_kWf, w_kWd, w_kTt, w_kTf, w_try, w_pTnx, w_pTrt, w_pTbk, w_pTct, w_pTex, w_pk0, w_pk1, w_noEx, w_pNnx, w_pNrt, w_pNex, w_map, w_pMnx, w_pMrt, w_gO, w_gN, w_qB, w_pEnx, w_pErt, w_pEex, w_run, a_bk0, a_bkd, a_bkl, a_rho0, a_pind, a_pinl, a_nmG, a_nilG, a_consG, a_tupG, a_asgIx, a_setIx, a_augS, a_wp0, a_wp1, a_bR0, a_bR1, a_kd1, a_kd0, a_kdl, List.getElem?_cons_zero, List.getElem?_cons_succ, List.getElem?_nil, List.set_cons_zero, List.set_cons_succ, List.length_cons, List.length_nil, List.map_cons, List.map_nil, List.nil_append, List.cons_append, List.replicate_succ, List.replicate_zero, if_true, if_false, eq_self, decide_eq_true_eq, Bool.false_eq_true, and_true, true_and, Option.map_some, Option.map_none, not_true_eq_false, not_false_eq_true, forall_const, false_implies, true_implies, Nat.reduceAdd, Nat.reduceSub, Nat.reduceLeDiff, Nat.reduceLT, List.nodup_nil, List.nodup_cons, List.not_mem_nil, Bool.not_eq_true, decide_true, decide_false, Bool.not_true, Bool.not_false, reduceIte, reduceCtorEq, Nat.zero_add, iaddD_int, a_augS, w_on]
      exact ⟨_, by omega, i + 1, by omega, rfl, by rw [← he, runTo_step c q], by simp⟩
    | false =>
      simp only [w_ok, w_ex, w_bad, w_pure, w_lsome, w_lnone, w_lite, w_ite, w_iteR, w_bind, w_kB, a_nmX, a_nmO, a_nmT, a_valO, a_bop, a_opM, a_rdv, a_rds, a_sd, a_sl, a_tst, a_boolD, a_tru, a_truM, a_andB, a_orB, a_notB, a_andX, a_orX, a_notX, a_ifX, a_caX, a_caM, a_rdsn, a_rdsc, a_consR, a_consM, a_tupX, a_lstX, a_ownX, a_badM, a_tmD, a_frzM, a_frzd, a_frzl, a_isiX, a_isiM, a_negX, a_intD, a_ptM, a_slX, a_slM, a_own, a_mtX, a_extX, a_popX, a_isOwn, a_isOwnd, a_isOwnn, a_ext, a_lstOf, a_lstM, a_tupOf, a_tupM, a_sq1, a_sq2, a_itX, a_it1, a_it2, a_it3, a_rngX, a_fmtX, a_fmtM, a_js0, a_js1, a_strD, a_own1, a_iniX, a_iniM, a_fldM, a_isEM, a_lcX, a_callX, w_call, w_okC, w_fval, w_fex, w_qE, w_qL, a_as0, a_asv, a_ass, a_argd, a_argl, a_ln0, a_lnv, a_lns, a_ll0, a_lld, a_lls, a_pl0, a_pl1, a_setL, a_omap, w_pSnx, w_pSrt, w_pSbk, w_pSct, w_pSex, w_skip, w_seq, w_onx, w_ort, w_obk, w_oct, w_oex, w_obad, w_oite, w_oite, w_on, w_set, w_kSet, a_csn, a_csd, a_csl, a_csx, a_slOd, a_slOl, w_kAs, w_kAsg, w_asg, w_kIf, w_if, w_ret, w_kDr, w_drop, w_raise, w_kFor, w_for, w_for0, w_pLnx, w_pLct, w_pLbk, w_pLrt, w_pLex, w_loop, w_kWt, w_kWf, w_kWd, w_kTt, w_kTf, w_try, w_pTnx, w_pTrt, w_pTbk, w_pTct, w_pTex, w_pk0, w_pk1, w_noEx, w_pNnx, w_pNrt, w_pNex, w_map, w_pMnx, w_pMrt, w_gO, w_gN, w_qB, w_pEnx, w_pErt, w_pEex, w_run, a_bk0, a_bkd, a_bkl, a_rho0, a_pind, a_pinl, a_nmG, a_nilG, a_consG, a_tupG, a_asgIx, a_setIx, a_augS, a_wp0, a_wp1, a_bR0, a_bR1, a_kd1, a_kd0, a_kdl, List.getElem?_cons_zero, List.getElem?_cons_succ, List.getElem?_nil, List.set_cons_zero, List.set_cons_succ, List.length_cons, List.length_nil, List.map_cons, List.map_nil, List.nil_append, List.cons_append, List.replicate_succ, List.replicate_zero, if_true, if_false, eq_self, decide_eq_true_eq, Bool.false_eq_true, and_true, true_and, Option.map_some, Option.map_none, not_true_eq_false, not_false_eq_true, forall_const, false_implies, true_implies, Nat.reduceAdd, Nat.reduceSub, Nat.reduceLeDiff, Nat.reduceLT, List.nodup_nil, List.nodup_cons, List.not_mem_nil, Bool.not_eq_true, decide_true, decide_false, Bool.not_true, Bool.not_false, reduceIte, reduceCtorEq, Nat.zero_add]
      rw [← he, runTo_stop c (by simp [q])] at h
      exact h
  · simp only [w_ok, w_ex, w_bad, w_pure, w_lsome, w_lnone, w_lite, w_ite, w_iteR, w_bind, w_kB, a_nmX, a_nmO, a_nmT, a_valO, a_bop, a_opM, a_rdv, a_rds, a_sd, a_sl, a_tst, a_boolD, a_tru, a_truM, a_andB, a_orB, a_notB, a_andX, a_orX, a_notX, a_ifX, a_caX, a_caM, a_rdsn, a_rdsc, a_consR, a_consM, a_tupX, a_lstX, a_ownX, a_badM, a_tmD, a_frzM, a_frzd, a_frzl, a_isiX, a_isiM, a_negX, a_intD, a_ptM, a_slX, a_slM, a_own, a_mtX, a_extX, a_popX, a_isOwn, a_isOwnd, a_isOwnn, a_ext, a_lstOf, a_lstM, a_tupOf, a_tupM, a_sq1, a_sq2, a_itX, a_it1, a_it2, a_it3, a_rngX, a_fmtX, a_fmtM, a_js0, a_js1, a_strD, a_own1, a_iniX, a_iniM, a_fldM, a_isEM, a_lcX, a_callX, w_call, w_okC, w_fval, w_fex, w_qE, w_qL, a_as0, a_asv, a_ass, a_argd, a_argl, a_ln0, a_lnv, a_lns, a_ll0, a_lld, a_lls, a_pl0, a_pl1, a_setL, a_omap, w_pSnx, w_pSrt, w_pSbk, w_pSct, w_pSex, w_skip, w_seq, w_onx, w_ort, w_obk, w_oct, w_oex, w_obad, w_oite, w_oite, w_on, w_set, w_kSet, a_csn, a_csd, a_csl, a_csx, a_slOd, a_slOl, w_kAs, w_kAsg, w_asg, w_kIf, w_if, w_ret, w_kDr, w_drop, w_raise, w_kFor, w_for, w_for0, w_pLnx, w_pLct, w_pLbk, w_pLrt, w_pLex, w_loop, w_kWt, w_kWf, w_kWd, w_kTt, w_kTf, w_try, w_pTnx, w_pTrt, w_pTbk, w_pTct, w_pTex, w_pk0, w_pk1, w_noEx, w_pNnx, w_pNrt, w_pNex, w_map, w_pMnx, w_pMrt, w_gO, w_gN, w_qB, w_pEnx, w_pErt, w_pEex, w_run, a_bk0, a_bkd, a_bkl, a_rho0, a_pind, a_pinl, a_nmG, a_nilG, a_consG, a_tupG, a_asgIx, a_setIx, a_augS, a_wp0, a_wp1, a_bR0, a_bR1, a_kd1, a_kd0, a_kdl, List.getElem?_cons_zero, List.getElem?_cons_succ, List.getElem?_nil, List.set_cons_zero, List.set_cons_succ, List.length_cons, List.length_nil, List.map_cons, List.map_nil, List.nil_append, List.cons_append, List.replicate_succ, List.replicate_zero, if_true, if_false, eq_self, decide_eq_true_eq, Bool.false_eq_true, and_true, true_and, Option.map_some, Option.map_none, not_true_eq_false, not_false_eq_true, forall_const, false_implies, true_implies, Nat.reduceAdd, Nat.reduceSub, Nat.reduceLeDiff, Nat.reduceLT, List.nodup_nil, List.nodup_cons, List.not_mem_nil, Bool.not_eq_true, decide_true, decide_false, Bool.not_true, Bool.not_false, reduceIte, reduceCtorEq, Nat.zero_add, len_str' ht', ltD_int, lt, c]
    rw [← he, runTo_end (by omega)] at h
    exact h
end EV

namespace EV
open PySem PySem.Spec PyProof.Rows L2 Ver
theorem legal_iff (c : Nat) : legal c = true ↔ c = 32 ∨ kind c ≠ "" := by
  have h1 : ∀ x ∈ cs LET, legal x = true := by decide +kernel
  have h2 : ∀ x ∈ cs DIG, legal x = true := by decide +kernel
  have h3 : ∀ x ∈ cs MRK, legal x = true := by decide +kernel
  have h4 : legal 32 = true := by decide +kernel
  have h5 : ∀ x ∈ cs LEG, x = 32 ∨ x ∈ cs LET ∨ x ∈ cs DIG ∨ x ∈ cs MRK := by decide +kernel
  have w : ¬ (("word" : Str) = "") := by decide
  have n : ¬ (("number" : Str) = "") := by decide
  have m : ¬ (("mark" : Str) = "") := by decide
  unfold kind
  constructor
  · intro h
    have := h5 c (by simpa [legal] using h)
    rcases this with h | h | h | h
    · exact .inl h
    · right; rw [if_pos h]; exact w
    · right; split
      · exact w
      · first | exact n | (rw [if_pos h]; exact n)
    · right; split
      · exact w
      · split
        · exact n
        · first | exact m | (rw [if_pos h]; exact m)
  · rintro (h | h)
    · subst h; exact h4
    · by_cases a : c ∈ cs LET
      · exact h1 c a
      · by_cases b : c ∈ cs DIG
        · exact h2 c b
        · by_cases d : c ∈ cs MRK
          · exact h3 c d
          · rw [if_neg a, if_neg b, if_neg d] at h
            exact absurd rfl h
theorem cont_legal {kd : Str} {x : Nat} (h : contK kd x = true) : legal x = true := by
  have h1 : ∀ x ∈ cs LET, legal x = true := by decide +kernel
  have h2 : ∀ x ∈ cs DIG, legal x = true := by decide +kernel
  unfold contK at h
  simp only [Bool.and_eq_true, Bool.or_eq_true, decide_eq_true_eq] at h
  rcases h.2 with h | h
  · exact h2 x h
  · exact h1 x h.2
theorem runTo_all {P : Nat → Bool} {l : List Nat} : ∀ {n k : Nat}, n = l.length - k → k ≤ l.length → ∀ i (h : i < l.length), k ≤ i → i < runTo P l k → P l[i] = true := by
  intro n
  induction n with
  | zero =>
    intro k e hk i h1 h2 h3
    rw [runTo_end (by omega)] at h3
    omega
  | succ n ih =>
    intro k e hk i h1 h2 h3
    have hk' : k < l.length := by omega
    by_cases p : P l[k] = true
    · rw [runTo_step hk' p] at h3
      by_cases z : i = k
      · subst z; exact p
      · exact ih (k := k + 1) (by omega) (by omega) i h1 (by omega) h3
    · rw [runTo_stop hk' p] at h3
      omega
theorem bad_step {l : List Nat} {k : Nat} (h : bad1 l = runTo legal l k) {e : Nat} (hk : k ≤ l.length) (he : k ≤ e) (hl : e ≤ l.length) (q : ∀ i (h : i < l.length), k ≤ i → i < e → legal l[i] = true) : bad1 l = runTo legal l e := by
  rw [h]
  obtain ⟨n, rfl⟩ : ∃ n, e = k + n := ⟨e - k, by omega⟩
  clear h he
  induction n generalizing k with
  | zero => rfl
  | succ n ih =>
    have hk' : k < l.length := by omega
    rw [runTo_step hk' (q k hk' (Nat.le_refl _) (by omega)), ih (by omega) (by omega) fun i h1 h2 h3 => q i h1 (by omega) (by omega)]
    congr 1
    omega
theorem getD_of {l : List Nat} {k : Nat} (h : k < l.length) : l.getD k 0 = l[k] := by
  rw [List.getD_eq_getElem?_getD, List.getElem?_eq_getElem h]
  rfl
theorem fit_int {r : Int} (h : 0 ≤ r ∧ r < 1000) : fitD (.int r) = true := by
  unfold fitD
  simp [h.1, h.2]
theorem toks_len {t : Str} {row : D} : ∀ {n k : Nat}, n = (cs t).length - k → (tksF t row k).length ≤ (cs t).length - k := by
  intro n
  induction n using Nat.strongRecOn with
  | _ n ih =>
    intro k e
    by_cases h : k < (cs t).length
    · by_cases s : (cs t)[k] = 32
      · rw [tks_sp h s]
        have := ih ((cs t).length - (k + 1)) (by omega) rfl
        omega
      · rw [tks_tok h s, List.length_cons]
        have g := @nxt_gt (cs t) k
        have := ih ((cs t).length - nxt (cs t) k) (by omega) rfl
        omega
    · rw [tks_end (by omega)]
      simp
theorem tokens_ok {t : Str} {r : Int} (ht : t.length ≤ 900) (hr : 0 ≤ r ∧ r < 1000) :
    okF (fun x as => ¬ bad1 (cs t) < (cs t).length ∧ x = .l (tksF t (.int r) 0) ∧ as = [.d (.str t), .d (.int r)])
      (fun e as => bad1 (cs t) < (cs t).length ∧ e = ⟨"BadToken", [("column", .int (bad1 (cs t))), ("row", .int r)]⟩ ∧ as = [.d (.str t), .d (.int r)]) (Ftokens_of [.d (.str t), .d (.int r)]) := by
  have ht' : t.length ≤ 1000000 := by omega
  have hl := cs_len t
  have tl := fun k => toks_len (t := t) (row := .int r) (k := k) rfl
  unfold Ftokens_of
  rw [w_run]
  unfold Btokens_of
  rw [sp_eq]
  simp only [w_ok, w_ex, w_bad, w_pure, w_lsome, w_lnone, w_lite, w_ite, w_iteR, w_bind, w_kB, a_nmX, a_nmO, a_nmT, a_valO, a_bop, a_opM, a_rdv, a_rds, a_sd, a_sl, a_tst, a_boolD, a_tru, a_truM, a_andB, a_orB, a_notB, a_andX, a_orX, a_notX, a_ifX, a_caX, a_caM, a_rdsn, a_rdsc, a_consR, a_consM, a_tupX, a_lstX, a_ownX, a_badM, a_tmD, a_frzM, a_frzd, a_frzl, a_isiX, a_isiM, a_negX, a_intD, a_ptM, a_slX, a_slM, a_own, a_mtX, a_extX, a_popX, a_isOwn, a_isOwnd, a_isOwnn, a_ext, a_lstOf, a_lstM, a_tupOf, a_tupM, a_sq1, a_sq2, a_itX, a_it1, a_it2, a_it3, a_rngX, a_fmtX, a_fmtM, a_js0, a_js1, a_strD, a_own1, a_iniX, a_iniM, a_fldM, a_isEM, a_lcX, a_callX, w_call, w_okC, w_fval, w_fex, w_qE, w_qL, a_as0, a_asv, a_ass, a_argd, a_argl, a_ln0, a_lnv, a_lns, a_ll0, a_lld, a_lls, a_pl0, a_pl1, a_setL, a_omap, w_pSnx, w_pSrt, w_pSbk, w_pSct, w_pSex, w_skip, w_seq, w_onx, w_ort, w_obk, w_oct, w_oex, w_obad, w_oite, w_oite, w_on, w_set, w_kSet, a_csn, a_csd, a_csl, a_csx, a_slOd, a_slOl, w_kAs, w_kAsg, w_asg, w_kIf, w_if, w_ret, w_kDr, w_drop, w_raise, w_kFor, w_for, w_for0, w_pLnx, w_pLct, w_pLbk, w_pLrt, w_pLex, w_loop, w_kWt, w_kWf, w_kWd, w_kTt, w_kTf, w_try, w_pTnx, w_pTrt, w_pTbk, w_pTct, w_pTex, w_pk0, w_pk1, w_noEx, w_pNnx, w_pNrt, w_pNex, w_map, w_pMnx, w_pMrt, w_gO, w_gN, w_qB, w_pEnx, w_pErt, w_pEex, w_run, a_bk0, a_bkd, a_bkl, a_rho0, a_pind, a_pinl, a_nmG, a_nilG, a_consG, a_tupG, a_asgIx, a_setIx, a_augS, a_wp0, a_wp1, a_bR0, a_bR1, a_kd1, a_kd0, a_kdl, List.getElem?_cons_zero, List.getElem?_cons_succ, List.getElem?_nil, List.set_cons_zero, List.set_cons_succ, List.length_cons, List.length_nil, List.map_cons, List.map_nil, List.nil_append, List.cons_append, List.replicate_succ, List.replicate_zero, if_true, if_false, eq_self, decide_eq_true_eq, Bool.false_eq_true, and_true, true_and, Option.map_some, Option.map_none, not_true_eq_false, not_false_eq_true, forall_const, false_implies, true_implies, Nat.reduceAdd, Nat.reduceSub, Nat.reduceLeDiff, Nat.reduceLT, List.nodup_nil, List.nodup_cons, List.not_mem_nil, Bool.not_eq_true, decide_true, decide_false, Bool.not_true, Bool.not_false, reduceIte, reduceCtorEq, Nat.zero_add]
  refine while_inv (fun m ρ => ∃ (k : Nat) (fnd : List D) (e3 e5 e6 : Option Sl), k ≤ (cs t).length ∧ m = (cs t).length - k ∧ fnd ++ tksF t (.int r) k = tksF t (.int r) 0 ∧ bad1 (cs t) = runTo legal (cs t) k ∧ canSet (some e3) = true ∧ canSet (some e5) = true ∧ canSet (some e6) = true ∧
      ρ = [some (.d (.str t)), some (.d (.int r)), some (.d (.int k)), e3, some (.l false fnd), e5, e6]) ?_ (m := (cs t).length) (by omega) ⟨0, [], none, none, none, by omega, rfl, rfl, rfl, rfl, rfl, rfl, rfl⟩
  rintro m ρ ⟨k, fnd, e3, e5, e6, hk, rfl, hf, hb, f3, f5, f6, rfl⟩
  have lt : ((k : Int) < ((cs t).length : Int)) ↔ k < (cs t).length := by omega
  by_cases c : k < (cs t).length
  · have g := get_str ht' c
    by_cases s : (cs t)[k] = 32
    · simp only [w_ok, w_ex, w_bad, w_pure, w_lsome, w_lnone, w_lite, w_ite, w_iteR, w_bind, w_kB, a_nmX, a_nmO, a_nmT, a_valO, a_bop, a_opM, a_rdv, a_rds, a_sd, a_sl, a_tst, a_boolD, a_tru, a_truM, a_andB, a_orB, a_notB, a_andX, a_orX, a_notX, a_ifX, a_caX, a_caM, a_rdsn, a_rdsc, a_consR, a_consM, a_tupX, a_lstX, a_ownX, a_badM, a_tmD, a_frzM, a_frzd, a_frzl, a_isiX, a_isiM, a_negX, a_intD, a_ptM, a_slX, a_slM, a_own, a_mtX, a_extX, a_popX, a_isOwn, a_isOwnd, a_isOwnn, a_ext, a_lstOf, a_lstM, a_tupOf, a_tupM, a_sq1, a_sq2, a_itX, a_it1, a_it2, a_it3, a_rngX, a_fmtX, a_fmtM, a_js0, a_js1, a_strD, a_own1, a_iniX, a_iniM, a_fldM, a_isEM, a_lcX, a_callX, w_call, w_okC, w_fval, w_fex, w_qE, w_qL, a_as0, a_asv, a_ass, a_argd, a_argl, a_ln0, a_lnv, a_lns, a_ll0, a_lld, a_lls, a_pl0, a_pl1, a_setL, a_omap, w_pSnx, w_pSrt, w_pSbk, w_pSct, w_pSex, w_skip, w_seq, w_onx, w_ort, w_obk, w_oct, w_oex, w_obad, w_oite, w_oite, w_on, w_set, w_kSet, a_csn, a_csd, a_csl, a_csx, a_slOd, a_slOl, w_kAs, w_kAsg, w_asg, w_kIf, w_if, w_ret, w_kDr, w_drop, w_raise, w_kFor, w_for, w_for0, w_pLnx, w_pLct, w_pLbk, w_pLrt, w_pLex, w_loop, w_kWt, w_kWf, w_kWd, w_kTt, w_kTf, w_try, w_pTnx, w_pTrt, w_pTbk, w_pTct, w_pTex, w_pk0, w_pk1, w_noEx, w_pNnx, w_pNrt, w_pNex, w_map, w_pMnx, w_pMrt, w_gO, w_gN, w_qB, w_pEnx, w_pErt, w_pEex, w_run, a_bk0, a_bkd, a_bkl, a_rho0, a_pind, a_pinl, a_nmG, a_nilG, a_consG, a_tupG, a_asgIx, a_setIx, a_augS, a_wp0, a_wp1, a_bR0, a_bR1, a_kd1, a_kd0, a_kdl, List.getElem?_cons_zero, List.getElem?_cons_succ, List.getElem?_nil, List.set_cons_zero, List.set_cons_succ, List.length_cons, List.length_nil, List.map_cons, List.map_nil, List.nil_append, List.cons_append, List.replicate_succ, List.replicate_zero, if_true, if_false, eq_self, decide_eq_true_eq, Bool.false_eq_true, and_true, true_and, Option.map_some, Option.map_none, not_true_eq_false, not_false_eq_true, forall_const, false_implies, true_implies, Nat.reduceAdd, Nat.reduceSub, Nat.reduceLeDiff, Nat.reduceLT, List.nodup_nil, List.nodup_cons, List.not_mem_nil, Bool.not_eq_true, decide_true, decide_false, Bool.not_true, Bool.not_false, reduceIte, reduceCtorEq, Nat.zero_add, len_str' ht', ltD_int, addD_int, lt, c, f3, g, ne_str, chr_eq, s]
      refine ⟨_, by omega, k + 1, fnd, some (.d (.int ((k : Int) + 1))), e5, e6, by omega, rfl, ?_, ?_, rfl, f5, f6, by simp⟩
      · rw [← tks_sp c s]; exact hf
      · rw [hb, runTo_step c ((legal_iff _).mpr (.inl s))]
    · by_cases q : kind (cs t)[k] = ""
      · have nl : ¬ legal (cs t)[k] = true := fun z => by
          rcases (legal_iff _).mp z with z | z
          · exact s z
          · exact z q
        have hbk : bad1 (cs t) = k := by rw [hb, runTo_stop c nl]
        have fk := fit_int (r := (k : Int)) ⟨by omega, by omega⟩
        simp only [w_ok, w_ex, w_bad, w_pure, w_lsome, w_lnone, w_lite, w_ite, w_iteR, w_bind, w_kB, a_nmX, a_nmO, a_nmT, a_valO, a_bop, a_opM, a_rdv, a_rds, a_sd, a_sl, a_tst, a_boolD, a_tru, a_truM, a_andB, a_orB, a_notB, a_andX, a_orX, a_notX, a_ifX, a_caX, a_caM, a_rdsn, a_rdsc, a_consR, a_consM, a_tupX, a_lstX, a_ownX, a_badM, a_tmD, a_frzM, a_frzd, a_frzl, a_isiX, a_isiM, a_negX, a_intD, a_ptM, a_slX, a_slM, a_own, a_mtX, a_extX, a_popX, a_isOwn, a_isOwnd, a_isOwnn, a_ext, a_lstOf, a_lstM, a_tupOf, a_tupM, a_sq1, a_sq2, a_itX, a_it1, a_it2, a_it3, a_rngX, a_fmtX, a_fmtM, a_js0, a_js1, a_strD, a_own1, a_iniX, a_iniM, a_fldM, a_isEM, a_lcX, a_callX, w_call, w_okC, w_fval, w_fex, w_qE, w_qL, a_as0, a_asv, a_ass, a_argd, a_argl, a_ln0, a_lnv, a_lns, a_ll0, a_lld, a_lls, a_pl0, a_pl1, a_setL, a_omap, w_pSnx, w_pSrt, w_pSbk, w_pSct, w_pSex, w_skip, w_seq, w_onx, w_ort, w_obk, w_oct, w_oex, w_obad, w_oite, w_oite, w_on, w_set, w_kSet, a_csn, a_csd, a_csl, a_csx, a_slOd, a_slOl, w_kAs, w_kAsg, w_asg, w_kIf, w_if, w_ret, w_kDr, w_drop, w_raise, w_kFor, w_for, w_for0, w_pLnx, w_pLct, w_pLbk, w_pLrt, w_pLex, w_loop, w_kWt, w_kWf, w_kWd, w_kTt, w_kTf, w_try, w_pTnx, w_pTrt, w_pTbk, w_pTct, w_pTex, w_pk0, w_pk1, w_noEx, w_pNnx, w_pNrt, w_pNex, w_map, w_pMnx, w_pMrt, w_gO, w_gN, w_qB, w_pEnx, w_pErt, w_pEex, w_run, a_bk0, a_bkd, a_bkl, a_rho0, a_pind, a_pinl, a_nmG, a_nilG, a_consG, a_tupG, a_asgIx, a_setIx, a_augS, a_wp0, a_wp1, a_bR0, a_bR1, a_kd1, a_kd0, a_kdl, List.getElem?_cons_zero, List.getElem?_cons_succ, List.getElem?_nil, List.set_cons_zero, List.set_cons_succ, List.length_cons, List.length_nil, List.map_cons, List.map_nil, List.nil_append, List.cons_append, List.replicate_succ, List.replicate_zero, if_true, if_false, eq_self, decide_eq_true_eq, Bool.false_eq_true, and_true, true_and, Option.map_some, Option.map_none, not_true_eq_false, not_false_eq_true, forall_const, false_implies, true_implies, Nat.reduceAdd, Nat.reduceSub, Nat.reduceLeDiff, Nat.reduceLT, List.nodup_nil, List.nodup_cons, List.not_mem_nil, Bool.not_eq_true, decide_true, decide_false, Bool.not_true, Bool.not_false, reduceIte, reduceCtorEq, Nat.zero_add, len_str' ht', ltD_int, addD_int, lt, c, f3, f6, g, ne_str, eq_str, chr_eq, s, kind_spec, q, List.all_cons, List.all_nil, Bool.and_true, fit_int hr, fk]
        rw [hbk]
        exact ⟨c, rfl⟩
      · simp only [w_ok, w_ex, w_bad, w_pure, w_lsome, w_lnone, w_lite, w_ite, w_iteR, w_bind, w_kB, a_nmX, a_nmO, a_nmT, a_valO, a_bop, a_opM, a_rdv, a_rds, a_sd, a_sl, a_tst, a_boolD, a_tru, a_truM, a_andB, a_orB, a_notB, a_andX, a_orX, a_notX, a_ifX, a_caX, a_caM, a_rdsn, a_rdsc, a_consR, a_consM, a_tupX, a_lstX, a_ownX, a_badM, a_tmD, a_frzM, a_frzd, a_frzl, a_isiX, a_isiM, a_negX, a_intD, a_ptM, a_slX, a_slM, a_own, a_mtX, a_extX, a_popX, a_isOwn, a_isOwnd, a_isOwnn, a_ext, a_lstOf, a_lstM, a_tupOf, a_tupM, a_sq1, a_sq2, a_itX, a_it1, a_it2, a_it3, a_rngX, a_fmtX, a_fmtM, a_js0, a_js1, a_strD, a_own1, a_iniX, a_iniM, a_fldM, a_isEM, a_lcX, a_callX, w_call, w_okC, w_fval, w_fex, w_qE, w_qL, a_as0, a_asv, a_ass, a_argd, a_argl, a_ln0, a_lnv, a_lns, a_ll0, a_lld, a_lls, a_pl0, a_pl1, a_setL, a_omap, w_pSnx, w_pSrt, w_pSbk, w_pSct, w_pSex, w_skip, w_seq, w_onx, w_ort, w_obk, w_oct, w_oex, w_obad, w_oite, w_oite, w_on, w_set, w_kSet, a_csn, a_csd, a_csl, a_csx, a_slOd, a_slOl, w_kAs, w_kAsg, w_asg, w_kIf, w_if, w_ret, w_kDr, w_drop, w_raise, w_kFor, w_for, w_for0, w_pLnx, w_pLct, w_pLbk, w_pLrt, w_pLex, w_loop, w_kWt, w_kWf, w_kWd, w_kTt, w_kTf, w_try, w_pTnx, w_pTrt, w_pTbk, w_pTct, w_pTex, w_pk0, w_pk1, w_noEx, w_pNnx, w_pNrt, w_pNex, w_map, w_pMnx, w_pMrt, w_gO, w_gN, w_qB, w_pEnx, w_pErt, w_pEex, w_run, a_bk0, a_bkd, a_bkl, a_rho0, a_pind, a_pinl, a_nmG, a_nilG, a_consG, a_tupG, a_asgIx, a_setIx, a_augS, a_wp0, a_wp1, a_bR0, a_bR1, a_kd1, a_kd0, a_kdl, List.getElem?_cons_zero, List.getElem?_cons_succ, List.getElem?_nil, List.set_cons_zero, List.set_cons_succ, List.length_cons, List.length_nil, List.map_cons, List.map_nil, List.nil_append, List.cons_append, List.replicate_succ, List.replicate_zero, if_true, if_false, eq_self, decide_eq_true_eq, Bool.false_eq_true, and_true, true_and, Option.map_some, Option.map_none, not_true_eq_false, not_false_eq_true, forall_const, false_implies, true_implies, Nat.reduceAdd, Nat.reduceSub, Nat.reduceLeDiff, Nat.reduceLT, List.nodup_nil, List.nodup_cons, List.not_mem_nil, Bool.not_eq_true, decide_true, decide_false, Bool.not_true, Bool.not_false, reduceIte, reduceCtorEq, Nat.zero_add, len_str' ht', ltD_int, addD_int, lt, c, f3, f6, g, ne_str, eq_str, chr_eq, s, kind_spec, q]
        have lg : legal (cs t)[k] = true := (legal_iff _).mpr (.inr q)
        rw [show ((k : Int) + 1) = ((k + 1 : Nat) : Int) by omega]
        refine inner_run (r := .int r) ht (by omega) ?_
        have nx : nxt (cs t) k = runTo (contK (kind (cs t)[k])) (cs t) (k + 1) := by unfold nxt; rw [getD_of c]
        rw [← nx]
        have n1 := @nxt_gt (cs t) k
        have n2 : nxt (cs t) k ≤ (cs t).length := by rw [nx]; exact runTo_le (by omega)
        have fl : fnd.length < 1000000 := by
          have e1 := congrArg List.length hf
          have e2 := tl 0
          rw [List.length_append] at e1
          omega
        have fin : ∀ e6', canSet (some e6') = true → ∃ m' < (cs t).length - k, ∃ (k' : Nat) (fnd' : List D) (e3 e5 e6 : Option Sl), k' ≤ (cs t).length ∧ m' = (cs t).length - k' ∧ fnd' ++ tksF t (.int r) k' = tksF t (.int r) 0 ∧ bad1 (cs t) = runTo legal (cs t) k' ∧ canSet (some e3) = true ∧ canSet (some e5) = true ∧ canSet (some e6) = true ∧
            [some (Sl.d (.str t)), some (.d (.int r)), some (.d (.int (nxt (cs t) k : Int))), some (.d (.int (nxt (cs t) k : Int))), some (.l false (fnd ++ [tokD t (.int r) k])), some (.d (.bool (gl (cs t) k))), e6'] = [some (.d (.str t)), some (.d (.int r)), some (.d (.int k')), e3, some (.l false fnd'), e5, e6] := fun e6' z =>
          ⟨_, by omega, nxt (cs t) k, _, _, _, _, n2, rfl, by rw [List.append_assoc, List.singleton_append, ← tks_tok c s]; exact hf, bad_step hb (by omega) (by omega) n2 (fun i h1 h2 h3 => by
            by_cases z : i = k
            · subst z; exact lg
            · exact cont_legal (runTo_all (P := contK (kind (cs t)[k])) (k := k + 1) rfl (by omega) i h1 (by omega) (by rw [← nx]; exact h3))), rfl, rfl, z, rfl⟩
        by_cases k0 : 0 < k
        · have c1 : k - 1 < (cs t).length := by omega
          have g1 := get_str ht' c1
          have ek : (k : Int) - 1 = ((k - 1 : Nat) : Int) := by omega
          have k0' : (0 : Int) < (k : Int) := by omega
          have eg : (!decide ((cs t)[k - 1] = 32)) = gl (cs t) k := by
            unfold gl
            rw [getD_of c1]
            simp [k0]
          simp only [w_ok, w_ex, w_bad, w_pure, w_lsome, w_lnone, w_lite, w_ite, w_iteR, w_bind, w_kB, a_nmX, a_nmO, a_nmT, a_valO, a_bop, a_opM, a_rdv, a_rds, a_sd, a_sl, a_tst, a_boolD, a_tru, a_truM, a_andB, a_orB, a_notB, a_andX, a_orX, a_notX, a_ifX, a_caX, a_caM, a_rdsn, a_rdsc, a_consR, a_consM, a_tupX, a_lstX, a_ownX, a_badM, a_tmD, a_frzM, a_frzd, a_frzl, a_isiX, a_isiM, a_negX, a_intD, a_ptM, a_slX, a_slM, a_own, a_mtX, a_extX, a_popX, a_isOwn, a_isOwnd, a_isOwnn, a_ext, a_lstOf, a_lstM, a_tupOf, a_tupM, a_sq1, a_sq2, a_itX, a_it1, a_it2, a_it3, a_rngX, a_fmtX, a_fmtM, a_js0, a_js1, a_strD, a_own1, a_iniX, a_iniM, a_fldM, a_isEM, a_lcX, a_callX, w_call, w_okC, w_fval, w_fex, w_qE, w_qL, a_as0, a_asv, a_ass, a_argd, a_argl, a_ln0, a_lnv, a_lns, a_ll0, a_lld, a_lls, a_pl0, a_pl1, a_setL, a_omap, w_pSnx, w_pSrt, w_pSbk, w_pSct, w_pSex, w_skip, w_seq, w_onx, w_ort, w_obk, w_oct, w_oex, w_obad, w_oite, w_oite, w_on, w_set, w_kSet, a_csn, a_csd, a_csl, a_csx, a_slOd, a_slOl, w_kAs, w_kAsg, w_asg, w_kIf, w_if, w_ret, w_kDr, w_drop, w_raise, w_kFor, w_for, w_for0, w_pLnx, w_pLct, w_pLbk, w_pLrt, w_pLex, w_loop, w_kWt, w_kWf, w_kWd, w_kTt, w_kTf, w_try, w_pTnx, w_pTrt, w_pTbk, w_pTct, w_pTex, w_pk0, w_pk1, w_noEx, w_pNnx, w_pNrt, w_pNex, w_map, w_pMnx, w_pMrt, w_gO, w_gN, w_qB, w_pEnx, w_pErt, w_pEex, w_run, a_bk0, a_bkd, a_bkl, a_rho0, a_pind, a_pinl, a_nmG, a_nilG, a_consG, a_tupG, a_asgIx, a_setIx, a_augS, a_wp0, a_wp1, a_bR0, a_bR1, a_kd1, a_kd0, a_kdl, List.getElem?_cons_zero, List.getElem?_cons_succ, List.getElem?_nil, List.set_cons_zero, List.set_cons_succ, List.length_cons, List.length_nil, List.map_cons, List.map_nil, List.nil_append, List.cons_append, List.replicate_succ, List.replicate_zero, if_true, if_false, eq_self, decide_eq_true_eq, Bool.false_eq_true, and_true, true_and, Option.map_some, Option.map_none, not_true_eq_false, not_false_eq_true, forall_const, false_implies, true_implies, Nat.reduceAdd, Nat.reduceSub, Nat.reduceLeDiff, Nat.reduceLT, List.nodup_nil, List.nodup_cons, List.not_mem_nil, Bool.not_eq_true, decide_true, decide_false, Bool.not_true, Bool.not_false, reduceIte, reduceCtorEq, Nat.zero_add, gtD_int, subD_int, ek, k0', g1, f5, ne_str, chr_eq, slD_str, appD_eq, ht', fl]
          rw [eg]
          have := fin (some (.d (.str (kind (cs t)[k])))) rfl
          unfold tokD at this
          rw [getD_of c] at this
          exact this
        · have k0' : ¬ (0 : Int) < (k : Int) := by omega
          have eg : PyData.bool false = .bool (gl (cs t) k) := by
            unfold gl
            simp [k0]
          simp only [w_ok, w_ex, w_bad, w_pure, w_lsome, w_lnone, w_lite, w_ite, w_iteR, w_bind, w_kB, a_nmX, a_nmO, a_nmT, a_valO, a_bop, a_opM, a_rdv, a_rds, a_sd, a_sl, a_tst, a_boolD, a_tru, a_truM, a_andB, a_orB, a_notB, a_andX, a_orX, a_notX, a_ifX, a_caX, a_caM, a_rdsn, a_rdsc, a_consR, a_consM, a_tupX, a_lstX, a_ownX, a_badM, a_tmD, a_frzM, a_frzd, a_frzl, a_isiX, a_isiM, a_negX, a_intD, a_ptM, a_slX, a_slM, a_own, a_mtX, a_extX, a_popX, a_isOwn, a_isOwnd, a_isOwnn, a_ext, a_lstOf, a_lstM, a_tupOf, a_tupM, a_sq1, a_sq2, a_itX, a_it1, a_it2, a_it3, a_rngX, a_fmtX, a_fmtM, a_js0, a_js1, a_strD, a_own1, a_iniX, a_iniM, a_fldM, a_isEM, a_lcX, a_callX, w_call, w_okC, w_fval, w_fex, w_qE, w_qL, a_as0, a_asv, a_ass, a_argd, a_argl, a_ln0, a_lnv, a_lns, a_ll0, a_lld, a_lls, a_pl0, a_pl1, a_setL, a_omap, w_pSnx, w_pSrt, w_pSbk, w_pSct, w_pSex, w_skip, w_seq, w_onx, w_ort, w_obk, w_oct, w_oex, w_obad, w_oite, w_oite, w_on, w_set, w_kSet, a_csn, a_csd, a_csl, a_csx, a_slOd, a_slOl, w_kAs, w_kAsg, w_asg, w_kIf, w_if, w_ret, w_kDr, w_drop, w_raise, w_kFor, w_for, w_for0, w_pLnx, w_pLct, w_pLbk, w_pLrt, w_pLex, w_loop, w_kWt, w_kWf, w_kWd, w_kTt, w_kTf, w_try, w_pTnx, w_pTrt, w_pTbk, w_pTct, w_pTex, w_pk0, w_pk1, w_noEx, w_pNnx, w_pNrt, w_pNex, w_map, w_pMnx, w_pMrt, w_gO, w_gN, w_qB, w_pEnx, w_pErt, w_pEex, w_run, a_bk0, a_bkd, a_bkl, a_rho0, a_pind, a_pinl, a_nmG, a_nilG, a_consG, a_tupG, a_asgIx, a_setIx, a_augS, a_wp0, a_wp1, a_bR0, a_bR1, a_kd1, a_kd0, a_kdl, List.getElem?_cons_zero, List.getElem?_cons_succ, List.getElem?_nil, List.set_cons_zero, List.set_cons_succ, List.length_cons, List.length_nil, List.map_cons, List.map_nil, List.nil_append, List.cons_append, List.replicate_succ, List.replicate_zero, if_true, if_false, eq_self, decide_eq_true_eq, Bool.false_eq_true, and_true, true_and, Option.map_some, Option.map_none, not_true_eq_false, not_false_eq_true, forall_const, false_implies, true_implies, Nat.reduceAdd, Nat.reduceSub, Nat.reduceLeDiff, Nat.reduceLT, List.nodup_nil, List.nodup_cons, List.not_mem_nil, Bool.not_eq_true, decide_true, decide_false, Bool.not_true, Bool.not_false, reduceIte, reduceCtorEq, Nat.zero_add, gtD_int, k0', f5, slD_str, appD_eq, ht', fl]
          rw [eg]
          have := fin (some (.d (.str (kind (cs t)[k])))) rfl
          unfold tokD at this
          rw [getD_of c] at this
          exact this
  · simp only [w_ok, w_ex, w_bad, w_pure, w_lsome, w_lnone, w_lite, w_ite, w_iteR, w_bind, w_kB, a_nmX, a_nmO, a_nmT, a_valO, a_bop, a_opM, a_rdv, a_rds, a_sd, a_sl, a_tst, a_boolD, a_tru, a_truM, a_andB, a_orB, a_notB, a_andX, a_orX, a_notX, a_ifX, a_caX, a_caM, a_rdsn, a_rdsc, a_consR, a_consM, a_tupX, a_lstX, a_ownX, a_badM, a_tmD, a_frzM, a_frzd, a_frzl, a_isiX, a_isiM, a_negX, a_intD, a_ptM, a_slX, a_slM, a_own, a_mtX, a_extX, a_popX, a_isOwn, a_isOwnd, a_isOwnn, a_ext, a_lstOf, a_lstM, a_tupOf, a_tupM, a_sq1, a_sq2, a_itX, a_it1, a_it2, a_it3, a_rngX, a_fmtX, a_fmtM, a_js0, a_js1, a_strD, a_own1, a_iniX, a_iniM, a_fldM, a_isEM, a_lcX, a_callX, w_call, w_okC, w_fval, w_fex, w_qE, w_qL, a_as0, a_asv, a_ass, a_argd, a_argl, a_ln0, a_lnv, a_lns, a_ll0, a_lld, a_lls, a_pl0, a_pl1, a_setL, a_omap, w_pSnx, w_pSrt, w_pSbk, w_pSct, w_pSex, w_skip, w_seq, w_onx, w_ort, w_obk, w_oct, w_oex, w_obad, w_oite, w_oite, w_on, w_set, w_kSet, a_csn, a_csd, a_csl, a_csx, a_slOd, a_slOl, w_kAs, w_kAsg, w_asg, w_kIf, w_if, w_ret, w_kDr, w_drop, w_raise, w_kFor, w_for, w_for0, w_pLnx, w_pLct, w_pLbk, w_pLrt, w_pLex, w_loop, w_kWt, w_kWf, w_kWd, w_kTt, w_kTf, w_try, w_pTnx, w_pTrt, w_pTbk, w_pTct, w_pTex, w_pk0, w_pk1, w_noEx, w_pNnx, w_pNrt, w_pNex, w_map, w_pMnx, w_pMrt, w_gO, w_gN, w_qB, w_pEnx, w_pErt, w_pEex, w_run, a_bk0, a_bkd, a_bkl, a_rho0, a_pind, a_pinl, a_nmG, a_nilG, a_consG, a_tupG, a_asgIx, a_setIx, a_augS, a_wp0, a_wp1, a_bR0, a_bR1, a_kd1, a_kd0, a_kdl, List.getElem?_cons_zero, List.getElem?_cons_succ, List.getElem?_nil, List.set_cons_zero, List.set_cons_succ, List.length_cons, List.length_nil, List.map_cons, List.map_nil, List.nil_append, List.cons_append, List.replicate_succ, List.replicate_zero, if_true, if_false, eq_self, decide_eq_true_eq, Bool.false_eq_true, and_true, true_and, Option.map_some, Option.map_none, not_true_eq_false, not_false_eq_true, forall_const, false_implies, true_implies, Nat.reduceAdd, Nat.reduceSub, Nat.reduceLeDiff, Nat.reduceLT, List.nodup_nil, List.nodup_cons, List.not_mem_nil, Bool.not_eq_true, decide_true, decide_false, Bool.not_true, Bool.not_false, reduceIte, reduceCtorEq, Nat.zero_add, len_str' ht', ltD_int, lt, c]
    rw [tks_end (by omega), List.append_nil] at hf
    rw [hb, runTo_end (by omega), hf]
    exact ⟨by omega, rfl⟩
end EV

namespace EV
open PySem PySem.Spec PyProof.Rows L2 Ver
theorem okF_eq {r : Res} {t0 : Tm} {as0 : List Sl} (h : okF (fun t as => t = t0 ∧ as = as0) noF r) : r = .val t0 as0 := by
  obtain ⟨t, as, e, rfl, rfl⟩ := okF_val h
  exact e
theorem runTo_congr {P Q : Nat → Bool} {l : List Nat} {k : Nat} (h : ∀ x, P x = Q x) : runTo P l k = runTo Q l k := by
  have : P = Q := funext h
  rw [this]
theorem runTo_no {P : Nat → Bool} {l : List Nat} {k : Nat} (h : ∀ x, P x = false) : runTo P l k = k := by
  by_cases c : k < l.length
  · exact runTo_stop c (by simp [h])
  · exact runTo_end (by omega)
theorem cs_app (a b : Str) : cs (a ++ b) = cs a ++ cs b := by
  show (a.cps ++ b.cps).toList = _
  rw [Array.toList_append]
  rfl
theorem addD_str (a b : Str) : addD (.str a) (.str b) = if a.length + b.length ≤ 1000000 then some (.str (a ++ b)) else none := rfl
theorem contK_word (x : Nat) : contK "word" x = decide (x ∈ cs (LET ++ DIG)) := by
  unfold contK
  rw [cs_app]
  have nm : ¬ (("word" : Str) = "mark") := by decide
  by_cases h1 : x ∈ cs DIG <;> by_cases h2 : x ∈ cs LET <;> simp [h1, h2, nm]
theorem contK_num (x : Nat) : contK "number" x = decide (x ∈ cs DIG) := by
  unfold contK
  have nm : ¬ (("number" : Str) = "mark") := by decide
  have nw : ¬ (("number" : Str) = "word") := by decide
  by_cases h1 : x ∈ cs DIG <;> simp [h1, nm, nw]
theorem contK_mark (x : Nat) : contK "mark" x = false := by
  unfold contK
  simp
theorem all_legal {l : List Nat} (h : ¬ bad1 l < l.length) {i : Nat} (hi : i < l.length) : legal l[i] = true :=
  runTo_all (P := legal) (k := 0) rfl (by omega) i hi (by omega) (by have : runTo legal l 0 = bad1 l := rfl; omega)
theorem eqD_int (i j : Int) : eqD (.int i) (.int j) = some (.bool (decide (i = j))) := by
  show some (PyData.bool (i == j)) = _
  congr 2
theorem gl_succ {l : List Nat} {k : Nat} (h : k < l.length) : gl l (k + 1) = !decide (l[k] = 32) := by
  unfold gl
  rw [Nat.add_sub_cancel, getD_of h]
  simp
theorem kind_cases {c : Nat} (s : ¬ c = 32) (h : legal c = true) : (c ∈ cs LET ∧ kind c = "word") ∨ (¬ c ∈ cs LET ∧ c ∈ cs DIG ∧ kind c = "number") ∨ (¬ c ∈ cs LET ∧ ¬ c ∈ cs DIG ∧ kind c = "mark") := by
  have h' : kind c ≠ "" := by
    rcases (legal_iff c).mp h with z | z
    · exact absurd z s
    · exact z
  unfold kind at h' ⊢
  by_cases a : c ∈ cs LET
  · exact .inl ⟨a, by rw [if_pos a]⟩
  · by_cases b : c ∈ cs DIG
    · exact .inr (.inl ⟨a, b, by rw [if_neg a, if_pos b]⟩)
    · by_cases d : c ∈ cs MRK
      · exact .inr (.inr ⟨a, b, by rw [if_neg a, if_neg b, if_pos d]⟩)
      · rw [if_neg a, if_neg b, if_neg d] at h'
        exact absurd rfl h'
theorem no_sp {kd : Str} {x : Nat} (h : contK kd x = true) : ¬ x = 32 := by
  have h1 : ¬ 32 ∈ cs LET := by decide +kernel
  have h2 : ¬ 32 ∈ cs DIG := by decide +kernel
  unfold contK at h
  simp only [Bool.and_eq_true, Bool.or_eq_true, decide_eq_true_eq] at h
  rintro rfl
  rcases h.2 with h | h
  · exact h2 h
  · exact h1 h.2
theorem gl_nxt {l : List Nat} {k : Nat} (h : k < l.length) (s : ¬ l[k] = 32) (n2 : nxt l k ≤ l.length) : gl l (nxt l k) = true := by
  have n1 := @nxt_gt l k
  obtain ⟨m, hm⟩ : ∃ m, nxt l k = m + 1 := ⟨nxt l k - 1, by omega⟩
  have hm' : m < l.length := by omega
  rw [hm, gl_succ hm']
  have : ¬ l[m] = 32 := by
    by_cases z : m = k
    · subst z; exact s
    · exact no_sp (runTo_all (P := contK (kind (l.getD k 0))) (k := k + 1) rfl (by omega) m hm' (by omega) (by have : runTo (contK (kind (l.getD k 0))) l (k + 1) = nxt l k := rfl; omega))
  simp [this]
theorem ltok_spec {t : Str} {row : D} (ht : t.length ≤ 900) (hw : ¬ bad1 (cs t) < (cs t).length) : F_law_tokens [.d (.str t), .d row] = .val (.l (tksF t row 0)) [.d (.str t), .d row] := by
  apply okF_eq
  have ht' : t.length ≤ 1000000 := by omega
  have hl := cs_len t
  have tl := fun k => toks_len (t := t) (row := row) (k := k) rfl
  have s62 : small62 ((cs t).length : Int) = true := by
    simp [small62]
    omega
  have ld : LET.length + DIG.length ≤ 1000000 := by decide
  unfold F_law_tokens
  rw [w_run]
  unfold B_law_tokens
  rw [sp_eq, let_eq, dig_eq]
  simp only [w_ok, w_ex, w_bad, w_pure, w_lsome, w_lnone, w_lite, w_ite, w_iteR, w_bind, w_kB, a_nmX, a_nmO, a_nmT, a_valO, a_bop, a_opM, a_rdv, a_rds, a_sd, a_sl, a_tst, a_boolD, a_tru, a_truM, a_andB, a_orB, a_notB, a_andX, a_orX, a_notX, a_ifX, a_caX, a_caM, a_rdsn, a_rdsc, a_consR, a_consM, a_tupX, a_lstX, a_ownX, a_badM, a_tmD, a_frzM, a_frzd, a_frzl, a_isiX, a_isiM, a_negX, a_intD, a_ptM, a_slX, a_slM, a_own, a_mtX, a_extX, a_popX, a_isOwn, a_isOwnd, a_isOwnn, a_ext, a_lstOf, a_lstM, a_tupOf, a_tupM, a_sq1, a_sq2, a_itX, a_it1, a_it2, a_it3, a_rngX, a_fmtX, a_fmtM, a_js0, a_js1, a_strD, a_own1, a_iniX, a_iniM, a_fldM, a_isEM, a_lcX, a_callX, w_call, w_okC, w_fval, w_fex, w_qE, w_qL, a_as0, a_asv, a_ass, a_argd, a_argl, a_ln0, a_lnv, a_lns, a_ll0, a_lld, a_lls, a_pl0, a_pl1, a_setL, a_omap, w_pSnx, w_pSrt, w_pSbk, w_pSct, w_pSex, w_skip, w_seq, w_onx, w_ort, w_obk, w_oct, w_oex, w_obad, w_oite, w_oite, w_on, w_set, w_kSet, a_csn, a_csd, a_csl, a_csx, a_slOd, a_slOl, w_kAs, w_kAsg, w_asg, w_kIf, w_if, w_ret, w_kDr, w_drop, w_raise, w_kFor, w_for, w_for0, w_pLnx, w_pLct, w_pLbk, w_pLrt, w_pLex, w_loop, w_kWt, w_kWf, w_kWd, w_kTt, w_kTf, w_try, w_pTnx, w_pTrt, w_pTbk, w_pTct, w_pTex, w_pk0, w_pk1, w_noEx, w_pNnx, w_pNrt, w_pNex, w_map, w_pMnx, w_pMrt, w_gO, w_gN, w_qB, w_pEnx, w_pErt, w_pEex, w_run, a_bk0, a_bkd, a_bkl, a_rho0, a_pind, a_pinl, a_nmG, a_nilG, a_consG, a_tupG, a_asgIx, a_setIx, a_augS, a_wp0, a_wp1, a_bR0, a_bR1, a_kd1, a_kd0, a_kdl, List.getElem?_cons_zero, List.getElem?_cons_succ, List.getElem?_nil, List.set_cons_zero, List.set_cons_succ, List.length_cons, List.length_nil, List.map_cons, List.map_nil, List.nil_append, List.cons_append, List.replicate_succ, List.replicate_zero, if_true, if_false, eq_self, decide_eq_true_eq, Bool.false_eq_true, and_true, true_and, Option.map_some, Option.map_none, not_true_eq_false, not_false_eq_true, forall_const, false_implies, true_implies, Nat.reduceAdd, Nat.reduceSub, Nat.reduceLeDiff, Nat.reduceLT, List.nodup_nil, List.nodup_cons, List.not_mem_nil, Bool.not_eq_true, decide_true, decide_false, Bool.not_true, Bool.not_false, reduceIte, reduceCtorEq, Nat.zero_add, len_str' ht', rng_n s62]
  refine for_rng (fun j ρ => ∃ (k : Nat) (last : Int) (fnd : List D) (e5 e8 e9 : Option Sl), k ≤ (cs t).length ∧ j ≤ k ∧ fnd ++ tksF t row k = tksF t row 0 ∧ last ≤ k ∧ decide (last = k) = gl (cs t) k ∧ canSet (some e5) = true ∧ canSet (some e8) = true ∧ canSet (some e9) = true ∧
      ρ = [some (.d (.str t)), some (.d row), some (.d (.int k)), some (.d (.str DIG)), some (.l false fnd), e5, some (.d (.int last)), some (.d (.str LET)), e8, e9])
    ⟨0, -1, [], none, none, none, by omega, by omega, rfl, by omega, rfl, rfl, rfl, rfl, rfl⟩ ?_ ?_
  · rintro ρ ⟨k, last, fnd, e5, e8, e9, hk, hj, hf, _, _, _, _, _, rfl⟩
    simp only [w_ok, w_ex, w_bad, w_pure, w_lsome, w_lnone, w_lite, w_ite, w_iteR, w_bind, w_kB, a_nmX, a_nmO, a_nmT, a_valO, a_bop, a_opM, a_rdv, a_rds, a_sd, a_sl, a_tst, a_boolD, a_tru, a_truM, a_andB, a_orB, a_notB, a_andX, a_orX, a_notX, a_ifX, a_caX, a_caM, a_rdsn, a_rdsc, a_consR, a_consM, a_tupX, a_lstX, a_ownX, a_badM, a_tmD, a_frzM, a_frzd, a_frzl, a_isiX, a_isiM, a_negX, a_intD, a_ptM, a_slX, a_slM, a_own, a_mtX, a_extX, a_popX, a_isOwn, a_isOwnd, a_isOwnn, a_ext, a_lstOf, a_lstM, a_tupOf, a_tupM, a_sq1, a_sq2, a_itX, a_it1, a_it2, a_it3, a_rngX, a_fmtX, a_fmtM, a_js0, a_js1, a_strD, a_own1, a_iniX, a_iniM, a_fldM, a_isEM, a_lcX, a_callX, w_call, w_okC, w_fval, w_fex, w_qE, w_qL, a_as0, a_asv, a_ass, a_argd, a_argl, a_ln0, a_lnv, a_lns, a_ll0, a_lld, a_lls, a_pl0, a_pl1, a_setL, a_omap, w_pSnx, w_pSrt, w_pSbk, w_pSct, w_pSex, w_skip, w_seq, w_onx, w_ort, w_obk, w_oct, w_oex, w_obad, w_oite, w_oite, w_on, w_set, w_kSet, a_csn, a_csd, a_csl, a_csx, a_slOd, a_slOl, w_kAs, w_kAsg, w_asg, w_kIf, w_if, w_ret, w_kDr, w_drop, w_raise, w_kFor, w_for, w_for0, w_pLnx, w_pLct, w_pLbk, w_pLrt, w_pLex, w_loop, w_kWt, w_kWf, w_kWd, w_kTt, w_kTf, w_try, w_pTnx, w_pTrt, w_pTbk, w_pTct, w_pTex, w_pk0, w_pk1, w_noEx, w_pNnx, w_pNrt, w_pNex, w_map, w_pMnx, w_pMrt, w_gO, w_gN, w_qB, w_pEnx, w_pErt, w_pEex, w_run, a_bk0, a_bkd, a_bkl, a_rho0, a_pind, a_pinl, a_nmG, a_nilG, a_consG, a_tupG, a_asgIx, a_setIx, a_augS, a_wp0, a_wp1, a_bR0, a_bR1, a_kd1, a_kd0, a_kdl, List.getElem?_cons_zero, List.getElem?_cons_succ, List.getElem?_nil, List.set_cons_zero, List.set_cons_succ, List.length_cons, List.length_nil, List.map_cons, List.map_nil, List.nil_append, List.cons_append, List.replicate_succ, List.replicate_zero, if_true, if_false, eq_self, decide_eq_true_eq, Bool.false_eq_true, and_true, true_and, Option.map_some, Option.map_none, not_true_eq_false, not_false_eq_true, forall_const, false_implies, true_implies, Nat.reduceAdd, Nat.reduceSub, Nat.reduceLeDiff, Nat.reduceLT, List.nodup_nil, List.nodup_cons, List.not_mem_nil, Bool.not_eq_true, decide_true, decide_false, Bool.not_true, Bool.not_false, reduceIte, reduceCtorEq, Nat.zero_add]
    rw [tks_end (by omega), List.append_nil] at hf
    rw [hf]
  · rintro j ρ hj ⟨k, last, fnd, e5, e8, e9, hk, hjk, hf, hll, hg, f5, f8, f9, rfl⟩
    have le : (((cs t).length : Int) ≤ (k : Int)) ↔ (cs t).length ≤ k := by omega
    by_cases c : k < (cs t).length
    · have nc : ¬ (cs t).length ≤ k := by omega
      have g := get_str ht' c
      by_cases s : (cs t)[k] = 32
      · simp only [w_ok, w_ex, w_bad, w_pure, w_lsome, w_lnone, w_lite, w_ite, w_iteR, w_bind, w_kB, a_nmX, a_nmO, a_nmT, a_valO, a_bop, a_opM, a_rdv, a_rds, a_sd, a_sl, a_tst, a_boolD, a_tru, a_truM, a_andB, a_orB, a_notB, a_andX, a_orX, a_notX, a_ifX, a_caX, a_caM, a_rdsn, a_rdsc, a_consR, a_consM, a_tupX, a_lstX, a_ownX, a_badM, a_tmD, a_frzM, a_frzd, a_frzl, a_isiX, a_isiM, a_negX, a_intD, a_ptM, a_slX, a_slM, a_own, a_mtX, a_extX, a_popX, a_isOwn, a_isOwnd, a_isOwnn, a_ext, a_lstOf, a_lstM, a_tupOf, a_tupM, a_sq1, a_sq2, a_itX, a_it1, a_it2, a_it3, a_rngX, a_fmtX, a_fmtM, a_js0, a_js1, a_strD, a_own1, a_iniX, a_iniM, a_fldM, a_isEM, a_lcX, a_callX, w_call, w_okC, w_fval, w_fex, w_qE, w_qL, a_as0, a_asv, a_ass, a_argd, a_argl, a_ln0, a_lnv, a_lns, a_ll0, a_lld, a_lls, a_pl0, a_pl1, a_setL, a_omap, w_pSnx, w_pSrt, w_pSbk, w_pSct, w_pSex, w_skip, w_seq, w_onx, w_ort, w_obk, w_oct, w_oex, w_obad, w_oite, w_oite, w_on, w_set, w_kSet, a_csn, a_csd, a_csl, a_csx, a_slOd, a_slOl, w_kAs, w_kAsg, w_asg, w_kIf, w_if, w_ret, w_kDr, w_drop, w_raise, w_kFor, w_for, w_for0, w_pLnx, w_pLct, w_pLbk, w_pLrt, w_pLex, w_loop, w_kWt, w_kWf, w_kWd, w_kTt, w_kTf, w_try, w_pTnx, w_pTrt, w_pTbk, w_pTct, w_pTex, w_pk0, w_pk1, w_noEx, w_pNnx, w_pNrt, w_pNex, w_map, w_pMnx, w_pMrt, w_gO, w_gN, w_qB, w_pEnx, w_pErt, w_pEex, w_run, a_bk0, a_bkd, a_bkl, a_rho0, a_pind, a_pinl, a_nmG, a_nilG, a_consG, a_tupG, a_asgIx, a_setIx, a_augS, a_wp0, a_wp1, a_bR0, a_bR1, a_kd1, a_kd0, a_kdl, List.getElem?_cons_zero, List.getElem?_cons_succ, List.getElem?_nil, List.set_cons_zero, List.set_cons_succ, List.length_cons, List.length_nil, List.map_cons, List.map_nil, List.nil_append, List.cons_append, List.replicate_succ, List.replicate_zero, if_true, if_false, eq_self, decide_eq_true_eq, Bool.false_eq_true, and_true, true_and, Option.map_some, Option.map_none, not_true_eq_false, not_false_eq_true, forall_const, false_implies, true_implies, Nat.reduceAdd, Nat.reduceSub, Nat.reduceLeDiff, Nat.reduceLT, List.nodup_nil, List.nodup_cons, List.not_mem_nil, Bool.not_eq_true, decide_true, decide_false, Bool.not_true, Bool.not_false, reduceIte, reduceCtorEq, Nat.zero_add, len_str' ht', geD_int, addD_int, le, nc, f9, g, eq_str, chr_eq, s]
        refine ⟨k + 1, last, fnd, e5, e8, some (.d (.int (0 + j))), by omega, by omega, by rw [← tks_sp c s]; exact hf, by omega, ?_, f5, f8, rfl, by simp⟩
        rw [gl_succ c]
        simp [s]
        omega
      · have lg := all_legal hw c
        have n1 := @nxt_gt (cs t) k
        have n2 : nxt (cs t) k ≤ (cs t).length := runTo_le (by omega)
        have fl : fnd.length < 1000000 := by
          have e1 := congrArg List.length hf
          have e2 := tl 0
          rw [List.length_append] at e1
          omega
        have nx : nxt (cs t) k = runTo (contK (kind (cs t)[k])) (cs t) (k + 1) := by unfold nxt; rw [getD_of c]
        have fin : ∀ kd e9', kd = kind (cs t)[k] → canSet (some e9') = true → ∃ (k' : Nat) (last : Int) (fnd' : List D) (e5 e8 e9 : Option Sl), k' ≤ (cs t).length ∧ j + 1 ≤ k' ∧ fnd' ++ tksF t row k' = tksF t row 0 ∧ last ≤ k' ∧ decide (last = k') = gl (cs t) k' ∧ canSet (some e5) = true ∧ canSet (some e8) = true ∧ canSet (some e9) = true ∧
           [some (Sl.d (.str t)), some (.d row), some (.d (.int (nxt (cs t) k : Int))), some (.d (.str DIG)), some (.l false (fnd ++ [.tuple [.str kd, .str (cutS t (some (k : Int)) (some (nxt (cs t) k : Int))), row, .int k, .bool (gl (cs t) k)]])), some (.d (.str kd)), some (.d (.int (nxt (cs t) k : Int))), some (.d (.str LET)), some (.d (.int (nxt (cs t) k : Int))), e9'] =
           [some (.d (.str t)), some (.d row), some (.d (.int k')), some (.d (.str DIG)), some (.l false fnd'), e5, some (.d (.int last)), some (.d (.str LET)), e8, e9] := by
          rintro kd e9' rfl z
          refine ⟨nxt (cs t) k, nxt (cs t) k, _, _, _, _, n2, by omega, ?_, by omega, ?_, rfl, rfl, z, rfl⟩
          · have : tokD t row k = .tuple [.str (kind (cs t)[k]), .str (cutS t (some (k : Int)) (some (nxt (cs t) k : Int))), row, .int k, .bool (gl (cs t) k)] := by unfold tokD; rw [getD_of c]
            rw [← this, List.append_assoc, List.singleton_append, ← tks_tok c s]
            exact hf
          · rw [gl_nxt c s n2]
            simp
        rcases kind_cases s lg with ⟨q1, q2⟩ | ⟨q0, q1, q2⟩ | ⟨q0, q1, q2⟩
        · have e1 : runTo (fun c => decide (c ∈ cs (LET ++ DIG))) (cs t) k = nxt (cs t) k := by
            rw [nx, q2, runTo_step c (by rw [cs_app]; simp [q1])]
            exact runTo_congr fun x => (contK_word x).symm
          have rs := run_spec (sg := LET ++ DIG) ht hk
          rw [e1] at rs
          simp only [w_ok, w_ex, w_bad, w_pure, w_lsome, w_lnone, w_lite, w_ite, w_iteR, w_bind, w_kB, a_nmX, a_nmO, a_nmT, a_valO, a_bop, a_opM, a_rdv, a_rds, a_sd, a_sl, a_tst, a_boolD, a_tru, a_truM, a_andB, a_orB, a_notB, a_andX, a_orX, a_notX, a_ifX, a_caX, a_caM, a_rdsn, a_rdsc, a_consR, a_consM, a_tupX, a_lstX, a_ownX, a_badM, a_tmD, a_frzM, a_frzd, a_frzl, a_isiX, a_isiM, a_negX, a_intD, a_ptM, a_slX, a_slM, a_own, a_mtX, a_extX, a_popX, a_isOwn, a_isOwnd, a_isOwnn, a_ext, a_lstOf, a_lstM, a_tupOf, a_tupM, a_sq1, a_sq2, a_itX, a_it1, a_it2, a_it3, a_rngX, a_fmtX, a_fmtM, a_js0, a_js1, a_strD, a_own1, a_iniX, a_iniM, a_fldM, a_isEM, a_lcX, a_callX, w_call, w_okC, w_fval, w_fex, w_qE, w_qL, a_as0, a_asv, a_ass, a_argd, a_argl, a_ln0, a_lnv, a_lns, a_ll0, a_lld, a_lls, a_pl0, a_pl1, a_setL, a_omap, w_pSnx, w_pSrt, w_pSbk, w_pSct, w_pSex, w_skip, w_seq, w_onx, w_ort, w_obk, w_oct, w_oex, w_obad, w_oite, w_oite, w_on, w_set, w_kSet, a_csn, a_csd, a_csl, a_csx, a_slOd, a_slOl, w_kAs, w_kAsg, w_asg, w_kIf, w_if, w_ret, w_kDr, w_drop, w_raise, w_kFor, w_for, w_for0, w_pLnx, w_pLct, w_pLbk, w_pLrt, w_pLex, w_loop, w_kWt, w_kWf, w_kWd, w_kTt, w_kTf, w_try, w_pTnx, w_pTrt, w_pTbk, w_pTct, w_pTex, w_pk0, w_pk1, w_noEx, w_pNnx, w_pNrt, w_pNex, w_map, w_pMnx, w_pMrt, w_gO, w_gN, w_qB, w_pEnx, w_pErt, w_pEex, w_run, a_bk0, a_bkd, a_bkl, a_rho0, a_pind, a_pinl, a_nmG, a_nilG, a_consG, a_tupG, a_asgIx, a_setIx, a_augS, a_wp0, a_wp1, a_bR0, a_bR1, a_kd1, a_kd0, a_kdl, List.getElem?_cons_zero, List.getElem?_cons_succ, List.getElem?_nil, List.set_cons_zero, List.set_cons_succ, List.length_cons, List.length_nil, List.map_cons, List.map_nil, List.nil_append, List.cons_append, List.replicate_succ, List.replicate_zero, if_true, if_false, eq_self, decide_eq_true_eq, Bool.false_eq_true, and_true, true_and, Option.map_some, Option.map_none, not_true_eq_false, not_false_eq_true, forall_const, false_implies, true_implies, Nat.reduceAdd, Nat.reduceSub, Nat.reduceLeDiff, Nat.reduceLT, List.nodup_nil, List.nodup_cons, List.not_mem_nil, Bool.not_eq_true, decide_true, decide_false, Bool.not_true, Bool.not_false, reduceIte, reduceCtorEq, Nat.zero_add, len_str' ht', geD_int, addD_int, le, nc, f5, f8, f9, g, eq_str, chr_eq, s, in_str, q1, addD_str, ld, rs, slD_str, ht', appD_eq, fl, eqD_int, hg]
          exact fin _ _ q2.symm rfl
        · have e1 : runTo (fun c => decide (c ∈ cs DIG)) (cs t) k = nxt (cs t) k := by
            rw [nx, q2, runTo_step c (by simp [q1])]
            exact runTo_congr fun x => (contK_num x).symm
          have rs := run_spec (sg := DIG) ht hk
          rw [e1] at rs
          simp only [w_ok, w_ex, w_bad, w_pure, w_lsome, w_lnone, w_lite, w_ite, w_iteR, w_bind, w_kB, a_nmX, a_nmO, a_nmT, a_valO, a_bop, a_opM, a_rdv, a_rds, a_sd, a_sl, a_tst, a_boolD, a_tru, a_truM, a_andB, a_orB, a_notB, a_andX, a_orX, a_notX, a_ifX, a_caX, a_caM, a_rdsn, a_rdsc, a_consR, a_consM, a_tupX, a_lstX, a_ownX, a_badM, a_tmD, a_frzM, a_frzd, a_frzl, a_isiX, a_isiM, a_negX, a_intD, a_ptM, a_slX, a_slM, a_own, a_mtX, a_extX, a_popX, a_isOwn, a_isOwnd, a_isOwnn, a_ext, a_lstOf, a_lstM, a_tupOf, a_tupM, a_sq1, a_sq2, a_itX, a_it1, a_it2, a_it3, a_rngX, a_fmtX, a_fmtM, a_js0, a_js1, a_strD, a_own1, a_iniX, a_iniM, a_fldM, a_isEM, a_lcX, a_callX, w_call, w_okC, w_fval, w_fex, w_qE, w_qL, a_as0, a_asv, a_ass, a_argd, a_argl, a_ln0, a_lnv, a_lns, a_ll0, a_lld, a_lls, a_pl0, a_pl1, a_setL, a_omap, w_pSnx, w_pSrt, w_pSbk, w_pSct, w_pSex, w_skip, w_seq, w_onx, w_ort, w_obk, w_oct, w_oex, w_obad, w_oite, w_oite, w_on, w_set, w_kSet, a_csn, a_csd, a_csl, a_csx, a_slOd, a_slOl, w_kAs, w_kAsg, w_asg, w_kIf, w_if, w_ret, w_kDr, w_drop, w_raise, w_kFor, w_for, w_for0, w_pLnx, w_pLct, w_pLbk, w_pLrt, w_pLex, w_loop, w_kWt, w_kWf, w_kWd, w_kTt, w_kTf, w_try, w_pTnx, w_pTrt, w_pTbk, w_pTct, w_pTex, w_pk0, w_pk1, w_noEx, w_pNnx, w_pNrt, w_pNex, w_map, w_pMnx, w_pMrt, w_gO, w_gN, w_qB, w_pEnx, w_pErt, w_pEex, w_run, a_bk0, a_bkd, a_bkl, a_rho0, a_pind, a_pinl, a_nmG, a_nilG, a_consG, a_tupG, a_asgIx, a_setIx, a_augS, a_wp0, a_wp1, a_bR0, a_bR1, a_kd1, a_kd0, a_kdl, List.getElem?_cons_zero, List.getElem?_cons_succ, List.getElem?_nil, List.set_cons_zero, List.set_cons_succ, List.length_cons, List.length_nil, List.map_cons, List.map_nil, List.nil_append, List.cons_append, List.replicate_succ, List.replicate_zero, if_true, if_false, eq_self, decide_eq_true_eq, Bool.false_eq_true, and_true, true_and, Option.map_some, Option.map_none, not_true_eq_false, not_false_eq_true, forall_const, false_implies, true_implies, Nat.reduceAdd, Nat.reduceSub, Nat.reduceLeDiff, Nat.reduceLT, List.nodup_nil, List.nodup_cons, List.not_mem_nil, Bool.not_eq_true, decide_true, decide_false, Bool.not_true, Bool.not_false, reduceIte, reduceCtorEq, Nat.zero_add, len_str' ht', geD_int, addD_int, le, nc, f5, f8, f9, g, eq_str, chr_eq, s, in_str, q0, q1, rs, slD_str, ht', appD_eq, fl, eqD_int, hg]
          exact fin _ _ q2.symm rfl
        · have e1 : ((k : Int) + 1) = (nxt (cs t) k : Int) := by
            rw [nx, q2, runTo_no contK_mark]
            omega
          simp only [w_ok, w_ex, w_bad, w_pure, w_lsome, w_lnone, w_lite, w_ite, w_iteR, w_bind, w_kB, a_nmX, a_nmO, a_nmT, a_valO, a_bop, a_opM, a_rdv, a_rds, a_sd, a_sl, a_tst, a_boolD, a_tru, a_truM, a_andB, a_orB, a_notB, a_andX, a_orX, a_notX, a_ifX, a_caX, a_caM, a_rdsn, a_rdsc, a_consR, a_consM, a_tupX, a_lstX, a_ownX, a_badM, a_tmD, a_frzM, a_frzd, a_frzl, a_isiX, a_isiM, a_negX, a_intD, a_ptM, a_slX, a_slM, a_own, a_mtX, a_extX, a_popX, a_isOwn, a_isOwnd, a_isOwnn, a_ext, a_lstOf, a_lstM, a_tupOf, a_tupM, a_sq1, a_sq2, a_itX, a_it1, a_it2, a_it3, a_rngX, a_fmtX, a_fmtM, a_js0, a_js1, a_strD, a_own1, a_iniX, a_iniM, a_fldM, a_isEM, a_lcX, a_callX, w_call, w_okC, w_fval, w_fex, w_qE, w_qL, a_as0, a_asv, a_ass, a_argd, a_argl, a_ln0, a_lnv, a_lns, a_ll0, a_lld, a_lls, a_pl0, a_pl1, a_setL, a_omap, w_pSnx, w_pSrt, w_pSbk, w_pSct, w_pSex, w_skip, w_seq, w_onx, w_ort, w_obk, w_oct, w_oex, w_obad, w_oite, w_oite, w_on, w_set, w_kSet, a_csn, a_csd, a_csl, a_csx, a_slOd, a_slOl, w_kAs, w_kAsg, w_asg, w_kIf, w_if, w_ret, w_kDr, w_drop, w_raise, w_kFor, w_for, w_for0, w_pLnx, w_pLct, w_pLbk, w_pLrt, w_pLex, w_loop, w_kWt, w_kWf, w_kWd, w_kTt, w_kTf, w_try, w_pTnx, w_pTrt, w_pTbk, w_pTct, w_pTex, w_pk0, w_pk1, w_noEx, w_pNnx, w_pNrt, w_pNex, w_map, w_pMnx, w_pMrt, w_gO, w_gN, w_qB, w_pEnx, w_pErt, w_pEex, w_run, a_bk0, a_bkd, a_bkl, a_rho0, a_pind, a_pinl, a_nmG, a_nilG, a_consG, a_tupG, a_asgIx, a_setIx, a_augS, a_wp0, a_wp1, a_bR0, a_bR1, a_kd1, a_kd0, a_kdl, List.getElem?_cons_zero, List.getElem?_cons_succ, List.getElem?_nil, List.set_cons_zero, List.set_cons_succ, List.length_cons, List.length_nil, List.map_cons, List.map_nil, List.nil_append, List.cons_append, List.replicate_succ, List.replicate_zero, if_true, if_false, eq_self, decide_eq_true_eq, Bool.false_eq_true, and_true, true_and, Option.map_some, Option.map_none, not_true_eq_false, not_false_eq_true, forall_const, false_implies, true_implies, Nat.reduceAdd, Nat.reduceSub, Nat.reduceLeDiff, Nat.reduceLT, List.nodup_nil, List.nodup_cons, List.not_mem_nil, Bool.not_eq_true, decide_true, decide_false, Bool.not_true, Bool.not_false, reduceIte, reduceCtorEq, Nat.zero_add, len_str' ht', geD_int, addD_int, le, nc, f5, f8, f9, g, eq_str, chr_eq, s, in_str, q0, q1, slD_str, ht', appD_eq, fl, eqD_int, hg, e1]
          exact fin _ _ q2.symm rfl
    · have nc : (cs t).length ≤ k := by omega
      simp only [w_ok, w_ex, w_bad, w_pure, w_lsome, w_lnone, w_lite, w_ite, w_iteR, w_bind, w_kB, a_nmX, a_nmO, a_nmT, a_valO, a_bop, a_opM, a_rdv, a_rds, a_sd, a_sl, a_tst, a_boolD, a_tru, a_truM, a_andB, a_orB, a_notB, a_andX, a_orX, a_notX, a_ifX, a_caX, a_caM, a_rdsn, a_rdsc, a_consR, a_consM, a_tupX, a_lstX, a_ownX, a_badM, a_tmD, a_frzM, a_frzd, a_frzl, a_isiX, a_isiM, a_negX, a_intD, a_ptM, a_slX, a_slM, a_own, a_mtX, a_extX, a_popX, a_isOwn, a_isOwnd, a_isOwnn, a_ext, a_lstOf, a_lstM, a_tupOf, a_tupM, a_sq1, a_sq2, a_itX, a_it1, a_it2, a_it3, a_rngX, a_fmtX, a_fmtM, a_js0, a_js1, a_strD, a_own1, a_iniX, a_iniM, a_fldM, a_isEM, a_lcX, a_callX, w_call, w_okC, w_fval, w_fex, w_qE, w_qL, a_as0, a_asv, a_ass, a_argd, a_argl, a_ln0, a_lnv, a_lns, a_ll0, a_lld, a_lls, a_pl0, a_pl1, a_setL, a_omap, w_pSnx, w_pSrt, w_pSbk, w_pSct, w_pSex, w_skip, w_seq, w_onx, w_ort, w_obk, w_oct, w_oex, w_obad, w_oite, w_oite, w_on, w_set, w_kSet, a_csn, a_csd, a_csl, a_csx, a_slOd, a_slOl, w_kAs, w_kAsg, w_asg, w_kIf, w_if, w_ret, w_kDr, w_drop, w_raise, w_kFor, w_for, w_for0, w_pLnx, w_pLct, w_pLbk, w_pLrt, w_pLex, w_loop, w_kWt, w_kWf, w_kWd, w_kTt, w_kTf, w_try, w_pTnx, w_pTrt, w_pTbk, w_pTct, w_pTex, w_pk0, w_pk1, w_noEx, w_pNnx, w_pNrt, w_pNex, w_map, w_pMnx, w_pMrt, w_gO, w_gN, w_qB, w_pEnx, w_pErt, w_pEex, w_run, a_bk0, a_bkd, a_bkl, a_rho0, a_pind, a_pinl, a_nmG, a_nilG, a_consG, a_tupG, a_asgIx, a_setIx, a_augS, a_wp0, a_wp1, a_bR0, a_bR1, a_kd1, a_kd0, a_kdl, List.getElem?_cons_zero, List.getElem?_cons_succ, List.getElem?_nil, List.set_cons_zero, List.set_cons_succ, List.length_cons, List.length_nil, List.map_cons, List.map_nil, List.nil_append, List.cons_append, List.replicate_succ, List.replicate_zero, if_true, if_false, eq_self, decide_eq_true_eq, Bool.false_eq_true, and_true, true_and, Option.map_some, Option.map_none, not_true_eq_false, not_false_eq_true, forall_const, false_implies, true_implies, Nat.reduceAdd, Nat.reduceSub, Nat.reduceLeDiff, Nat.reduceLT, List.nodup_nil, List.nodup_cons, List.not_mem_nil, Bool.not_eq_true, decide_true, decide_false, Bool.not_true, Bool.not_false, reduceIte, reduceCtorEq, Nat.zero_add, len_str' ht', geD_int, le, nc, f9]
      rw [tks_end (by omega), List.append_nil] at hf
      rw [hf]
end EV

namespace EV
open PySem PySem.Spec PyProof.Rows L2 Ver
theorem tokens_bad {t : Str} {r : Int} (ht : t.length ≤ 900) (hr : 0 ≤ r ∧ r < 1000) (h : bad1 (cs t) < (cs t).length) : Ftokens_of [.d (.str t), .d (.int r)] = .ex ⟨"BadToken", [("column", .int (bad1 (cs t))), ("row", .int r)]⟩ [.d (.str t), .d (.int r)] := by
  have q := tokens_ok ht hr
  cases e : Ftokens_of [.d (.str t), .d (.int r)] with
  | val x as => rw [e] at q; exact absurd h q.1
  | bad => rw [e] at q; exact q.elim
  | ex x as => rw [e] at q; obtain ⟨_, rfl, rfl⟩ := q; rfl
theorem tokens_fine {t : Str} {r : Int} (ht : t.length ≤ 900) (hr : 0 ≤ r ∧ r < 1000) (h : ¬ bad1 (cs t) < (cs t).length) : Ftokens_of [.d (.str t), .d (.int r)] = .val (.l (tksF t (.int r) 0)) [.d (.str t), .d (.int r)] := by
  have q := tokens_ok ht hr
  cases e : Ftokens_of [.d (.str t), .d (.int r)] with
  | val x as => rw [e] at q; obtain ⟨_, rfl, rfl⟩ := q; rfl
  | bad => rw [e] at q; exact q.elim
  | ex x as => rw [e] at q; exact absurd q.1 h
theorem lk_row {a b : D} : List.lookup (Str.ofString "row") [(Str.ofString "column", a), (Str.ofString "row", b)] = some b := id rfl
theorem lk_col {a b : D} : List.lookup (Str.ofString "column") [(Str.ofString "column", a), (Str.ofString "row", b)] = some a := id rfl
theorem lk_b1 : List.lookup (Str.ofString "BadToken") [(Str.ofString "BadToken", true)] = some true := id rfl
theorem lk_b2 : List.lookup (Str.ofString "BadToken") [(Str.ofString "BadToken", true), (Str.ofString "TooMany", false)] = some true := id rfl
theorem lk_t2 : List.lookup (Str.ofString "TooMany") [(Str.ofString "BadToken", true), (Str.ofString "TooMany", false)] = some false := id rfl
theorem lk_t1 : List.lookup (Str.ofString "TooMany") [(Str.ofString "TooMany", true)] = some true := id rfl
def badD (r c : Int) : D := .tuple [.str "bad", .int r, .int c, .bool true]
def manyD : D := .tuple [.str "many", .bool true]
theorem cut_spec {t : Str} {r : Int} (ht : t.length ≤ 900) (hr : 0 ≤ r ∧ r < 1000) :
    ∃ tm, F_law_cut [.d (.str t), .d (.int r)] = .val tm [.d (.str t), .d (.int r)] ∧ frzT tm = if bad1 (cs t) < (cs t).length then badD r (bad1 (cs t)) else .list (tksF t (.int r) 0) := by
  suffices h : okF (fun tm as => (frzT tm = if bad1 (cs t) < (cs t).length then badD r (bad1 (cs t)) else .list (tksF t (.int r) 0)) ∧ as = [.d (.str t), .d (.int r)]) noF (F_law_cut [.d (.str t), .d (.int r)]) by
    obtain ⟨tm, as, e, h1, rfl⟩ := okF_val h
    exact ⟨tm, e, h1⟩
  unfold F_law_cut
  rw [w_run]
  unfold B_law_cut
  by_cases h : bad1 (cs t) < (cs t).length
  · rw [if_pos h]
    have e := tokens_bad ht hr h
    simp only [w_ok, w_ex, w_bad, w_pure, w_lsome, w_lnone, w_lite, w_ite, w_iteR, w_bind, w_kB, a_nmX, a_nmO, a_nmT, a_valO, a_bop, a_opM, a_rdv, a_rds, a_sd, a_sl, a_tst, a_boolD, a_tru, a_truM, a_andB, a_orB, a_notB, a_andX, a_orX, a_notX, a_ifX, a_caX, a_caM, a_rdsn, a_rdsc, a_consR, a_consM, a_tupX, a_lstX, a_ownX, a_badM, a_tmD, a_frzM, a_frzd, a_frzl, a_isiX, a_isiM, a_negX, a_intD, a_ptM, a_slX, a_slM, a_own, a_mtX, a_extX, a_popX, a_isOwn, a_isOwnd, a_isOwnn, a_ext, a_lstOf, a_lstM, a_tupOf, a_tupM, a_sq1, a_sq2, a_itX, a_it1, a_it2, a_it3, a_rngX, a_fmtX, a_fmtM, a_js0, a_js1, a_strD, a_own1, a_iniX, a_iniM, a_fldM, a_isEM, a_lcX, a_callX, w_call, w_okC, w_fval, w_fex, w_qE, w_qL, a_as0, a_asv, a_ass, a_argd, a_argl, a_ln0, a_lnv, a_lns, a_ll0, a_lld, a_lls, a_pl0, a_pl1, a_setL, a_omap, w_pSnx, w_pSrt, w_pSbk, w_pSct, w_pSex, w_skip, w_seq, w_onx, w_ort, w_obk, w_oct, w_oex, w_obad, w_oite, w_oite, w_on, w_set, w_kSet, a_csn, a_csd, a_csl, a_csx, a_slOd, a_slOl, w_kAs, w_kAsg, w_asg, w_kIf, w_if, w_ret, w_kDr, w_drop, w_raise, w_kFor, w_for, w_for0, w_pLnx, w_pLct, w_pLbk, w_pLrt, w_pLex, w_loop, w_kWt, w_kWf, w_kWd, w_kTt, w_kTf, w_try, w_pTnx, w_pTrt, w_pTbk, w_pTct, w_pTex, w_pk0, w_pk1, w_noEx, w_pNnx, w_pNrt, w_pNex, w_map, w_pMnx, w_pMrt, w_gO, w_gN, w_qB, w_pEnx, w_pErt, w_pEex, w_run, a_bk0, a_bkd, a_bkl, a_rho0, a_pind, a_pinl, a_nmG, a_nilG, a_consG, a_tupG, a_asgIx, a_setIx, a_augS, a_wp0, a_wp1, a_bR0, a_bR1, a_kd1, a_kd0, a_kdl, List.getElem?_cons_zero, List.getElem?_cons_succ, List.getElem?_nil, List.set_cons_zero, List.set_cons_succ, List.length_cons, List.length_nil, List.map_cons, List.map_nil, List.nil_append, List.cons_append, List.replicate_succ, List.replicate_zero, if_true, if_false, eq_self, decide_eq_true_eq, Bool.false_eq_true, and_true, true_and, Option.map_some, Option.map_none, not_true_eq_false, not_false_eq_true, forall_const, false_implies, true_implies, Nat.reduceAdd, Nat.reduceSub, Nat.reduceLeDiff, Nat.reduceLT, List.nodup_nil, List.nodup_cons, List.not_mem_nil, Bool.not_eq_true, decide_true, decide_false, Bool.not_true, Bool.not_false, reduceIte, reduceCtorEq, Nat.zero_add, e, lk_b1, gO, S_law_cut_0, lk_row, lk_col, badD]
  · rw [if_neg h]
    have e := tokens_fine ht hr h
    simp only [w_ok, w_ex, w_bad, w_pure, w_lsome, w_lnone, w_lite, w_ite, w_iteR, w_bind, w_kB, a_nmX, a_nmO, a_nmT, a_valO, a_bop, a_opM, a_rdv, a_rds, a_sd, a_sl, a_tst, a_boolD, a_tru, a_truM, a_andB, a_orB, a_notB, a_andX, a_orX, a_notX, a_ifX, a_caX, a_caM, a_rdsn, a_rdsc, a_consR, a_consM, a_tupX, a_lstX, a_ownX, a_badM, a_tmD, a_frzM, a_frzd, a_frzl, a_isiX, a_isiM, a_negX, a_intD, a_ptM, a_slX, a_slM, a_own, a_mtX, a_extX, a_popX, a_isOwn, a_isOwnd, a_isOwnn, a_ext, a_lstOf, a_lstM, a_tupOf, a_tupM, a_sq1, a_sq2, a_itX, a_it1, a_it2, a_it3, a_rngX, a_fmtX, a_fmtM, a_js0, a_js1, a_strD, a_own1, a_iniX, a_iniM, a_fldM, a_isEM, a_lcX, a_callX, w_call, w_okC, w_fval, w_fex, w_qE, w_qL, a_as0, a_asv, a_ass, a_argd, a_argl, a_ln0, a_lnv, a_lns, a_ll0, a_lld, a_lls, a_pl0, a_pl1, a_setL, a_omap, w_pSnx, w_pSrt, w_pSbk, w_pSct, w_pSex, w_skip, w_seq, w_onx, w_ort, w_obk, w_oct, w_oex, w_obad, w_oite, w_oite, w_on, w_set, w_kSet, a_csn, a_csd, a_csl, a_csx, a_slOd, a_slOl, w_kAs, w_kAsg, w_asg, w_kIf, w_if, w_ret, w_kDr, w_drop, w_raise, w_kFor, w_for, w_for0, w_pLnx, w_pLct, w_pLbk, w_pLrt, w_pLex, w_loop, w_kWt, w_kWf, w_kWd, w_kTt, w_kTf, w_try, w_pTnx, w_pTrt, w_pTbk, w_pTct, w_pTex, w_pk0, w_pk1, w_noEx, w_pNnx, w_pNrt, w_pNex, w_map, w_pMnx, w_pMrt, w_gO, w_gN, w_qB, w_pEnx, w_pErt, w_pEex, w_run, a_bk0, a_bkd, a_bkl, a_rho0, a_pind, a_pinl, a_nmG, a_nilG, a_consG, a_tupG, a_asgIx, a_setIx, a_augS, a_wp0, a_wp1, a_bR0, a_bR1, a_kd1, a_kd0, a_kdl, List.getElem?_cons_zero, List.getElem?_cons_succ, List.getElem?_nil, List.set_cons_zero, List.set_cons_succ, List.length_cons, List.length_nil, List.map_cons, List.map_nil, List.nil_append, List.cons_append, List.replicate_succ, List.replicate_zero, if_true, if_false, eq_self, decide_eq_true_eq, Bool.false_eq_true, and_true, true_and, Option.map_some, Option.map_none, not_true_eq_false, not_false_eq_true, forall_const, false_implies, true_implies, Nat.reduceAdd, Nat.reduceSub, Nat.reduceLeDiff, Nat.reduceLT, List.nodup_nil, List.nodup_cons, List.not_mem_nil, Bool.not_eq_true, decide_true, decide_false, Bool.not_true, Bool.not_false, reduceIte, reduceCtorEq, Nat.zero_add, e]
structure Ln where
  t : Str
  k : Int
  d : D
def lnD (x : Ln) : D := .tuple [.str x.t, .str "main", .int x.k, x.d]
def addT (x : Ln) (row : Nat) (acc : List D) : List D := acc ++ (tksF x.t (.int row) 0).map fun z => .tuple [z, x.d]
inductive FR where
  | ok (l : List D)
  | bad (r c : Nat)
  | many
def foldSp (acc : List D) (row : Nat) : List Ln → FR
  | [] => .ok acc
  | x :: r => if bad1 (cs x.t) < (cs x.t).length then .bad row (bad1 (cs x.t)) else if 24 < (addT x row acc).length then .many else foldSp (addT x row acc) (row + 1) r
def pairsFrom (row : Nat) : List D → List D
  | [] => []
  | d :: r => .tuple [.int row, d] :: pairsFrom (row + 1) r
theorem pairsFrom_get : ∀ {ds : List D} {row i : Nat}, (pairsFrom row ds)[i]? = ds[i]?.map fun d => .tuple [.int ((row + i : Nat) : Int), d]
  | [], row, i => by simp [pairsFrom]
  | d :: r, row, 0 => by simp [pairsFrom]
  | d :: r, row, i + 1 => by
    rw [pairsFrom, List.getElem?_cons_succ, List.getElem?_cons_succ, pairsFrom_get, show row + 1 + i = row + (i + 1) by omega]
theorem pairs0_from {ds : List D} : pairs0 ds = pairsFrom 0 ds := by
  apply List.ext_getElem?
  intro i
  rw [pairs0_get, pairsFrom_get, Nat.zero_add]
theorem enumD_eq (ds : List D) : enumD [.list ds] = some (pairs0 ds) := id rfl
theorem len_lst (ds : List D) : lenD [.list ds] = some (.int ds.length) := id rfl
theorem fmt24 : fmtD (.int 24) = some (Str.ofString "24") := by rfl
theorem j1 : (Str.empty ++ Str.ofString "there are more than ").length ≤ 1000000 := by decide
theorem j2 : (Str.empty ++ Str.ofString "there are more than " ++ Str.ofString "24").length ≤ 1000000 := by decide
theorem j3 : (Str.empty ++ Str.ofString "there are more than " ++ Str.ofString "24" ++ Str.ofString " tokens").length ≤ 1000000 := by decide
theorem foldSp_cons {acc : List D} {row : Nat} {x : Ln} {r : List Ln} : foldSp acc row (x :: r) = if bad1 (cs x.t) < (cs x.t).length then .bad row (bad1 (cs x.t)) else if 24 < (addT x row acc).length then .many else foldSp (addT x row acc) (row + 1) r := id rfl
theorem fold_ok {ls : List Ln} (hl : ∀ x ∈ ls, x.t.length ≤ 900) (hn : ls.length < 1000) :
    okF (fun t as => (∃ l, foldSp [] 0 ls = .ok l ∧ t = .l l) ∧ as = [.d (.list (ls.map lnD))])
      (fun e as => ((∃ r c : Nat, foldSp [] 0 ls = .bad r c ∧ e = ⟨"BadToken", [("column", .int c), ("row", .int r)]⟩) ∨ (foldSp [] 0 ls = .many ∧ e = ⟨"TooMany", []⟩)) ∧ as = [.d (.list (ls.map lnD))])
      (Ffold_tokens [.d (.list (ls.map lnD))]) := by
  unfold Ffold_tokens
  rw [w_run]
  unfold Bfold_tokens
  simp only [w_ok, w_ex, w_bad, w_pure, w_lsome, w_lnone, w_lite, w_ite, w_iteR, w_bind, w_kB, a_nmX, a_nmO, a_nmT, a_valO, a_bop, a_opM, a_rdv, a_rds, a_sd, a_sl, a_tst, a_boolD, a_tru, a_truM, a_andB, a_orB, a_notB, a_andX, a_orX, a_notX, a_ifX, a_caX, a_caM, a_rdsn, a_rdsc, a_consR, a_consM, a_tupX, a_lstX, a_ownX, a_badM, a_tmD, a_frzM, a_frzd, a_frzl, a_isiX, a_isiM, a_negX, a_intD, a_ptM, a_slX, a_slM, a_own, a_mtX, a_extX, a_popX, a_isOwn, a_isOwnd, a_isOwnn, a_ext, a_lstOf, a_lstM, a_tupOf, a_tupM, a_sq1, a_sq2, a_itX, a_it1, a_it2, a_it3, a_rngX, a_fmtX, a_fmtM, a_js0, a_js1, a_strD, a_own1, a_iniX, a_iniM, a_fldM, a_isEM, a_lcX, a_callX, w_call, w_okC, w_fval, w_fex, w_qE, w_qL, a_as0, a_asv, a_ass, a_argd, a_argl, a_ln0, a_lnv, a_lns, a_ll0, a_lld, a_lls, a_pl0, a_pl1, a_setL, a_omap, w_pSnx, w_pSrt, w_pSbk, w_pSct, w_pSex, w_skip, w_seq, w_onx, w_ort, w_obk, w_oct, w_oex, w_obad, w_oite, w_oite, w_on, w_set, w_kSet, a_csn, a_csd, a_csl, a_csx, a_slOd, a_slOl, w_kAs, w_kAsg, w_asg, w_kIf, w_if, w_ret, w_kDr, w_drop, w_raise, w_kFor, w_for, w_for0, w_pLnx, w_pLct, w_pLbk, w_pLrt, w_pLex, w_loop, w_kWt, w_kWf, w_kWd, w_kTt, w_kTf, w_try, w_pTnx, w_pTrt, w_pTbk, w_pTct, w_pTex, w_pk0, w_pk1, w_noEx, w_pNnx, w_pNrt, w_pNex, w_map, w_pMnx, w_pMrt, w_gO, w_gN, w_qB, w_pEnx, w_pErt, w_pEex, w_run, a_bk0, a_bkd, a_bkl, a_rho0, a_pind, a_pinl, a_nmG, a_nilG, a_consG, a_tupG, a_asgIx, a_setIx, a_augS, a_wp0, a_wp1, a_bR0, a_bR1, a_kd1, a_kd0, a_kdl, List.getElem?_cons_zero, List.getElem?_cons_succ, List.getElem?_nil, List.set_cons_zero, List.set_cons_succ, List.length_cons, List.length_nil, List.map_cons, List.map_nil, List.nil_append, List.cons_append, List.replicate_succ, List.replicate_zero, if_true, if_false, eq_self, decide_eq_true_eq, Bool.false_eq_true, and_true, true_and, Option.map_some, Option.map_none, not_true_eq_false, not_false_eq_true, forall_const, false_implies, true_implies, Nat.reduceAdd, Nat.reduceSub, Nat.reduceLeDiff, Nat.reduceLT, List.nodup_nil, List.nodup_cons, List.not_mem_nil, Bool.not_eq_true, decide_true, decide_false, Bool.not_true, Bool.not_false, reduceIte, reduceCtorEq, Nat.zero_add, enumD_eq, pairs0_from]
  refine for_inv (fun ds ρ => ∃ (row : Nat) (r : List Ln) (acc : List D) (e1 e2 e4 e5 : Option Sl), ds = pairsFrom row (r.map lnD) ∧ (∀ x ∈ r, x.t.length ≤ 900) ∧ row + r.length < 1000 ∧ foldSp acc row r = foldSp [] 0 ls ∧ acc.length ≤ 24 ∧ canSet (some e1) = true ∧ canSet (some e2) = true ∧ canSet (some e4) = true ∧ canSet (some e5) = true ∧
      ρ = [some (.d (.list (ls.map lnD))), e1, e2, some (.l false acc), e4, e5, none]) ?_ ?_ ⟨0, ls, [], none, none, none, none, rfl, hl, by omega, rfl, by simp, rfl, rfl, rfl, rfl, rfl⟩
  · rintro ρ ⟨row, r, acc, e1, e2, e4, e5, h1, h2, h3, h4, h5, f1, f2, f4, f5, rfl⟩
    cases r with
    | cons _ _ => cases h1
    | nil =>
      simp only [w_ok, w_ex, w_bad, w_pure, w_lsome, w_lnone, w_lite, w_ite, w_iteR, w_bind, w_kB, a_nmX, a_nmO, a_nmT, a_valO, a_bop, a_opM, a_rdv, a_rds, a_sd, a_sl, a_tst, a_boolD, a_tru, a_truM, a_andB, a_orB, a_notB, a_andX, a_orX, a_notX, a_ifX, a_caX, a_caM, a_rdsn, a_rdsc, a_consR, a_consM, a_tupX, a_lstX, a_ownX, a_badM, a_tmD, a_frzM, a_frzd, a_frzl, a_isiX, a_isiM, a_negX, a_intD, a_ptM, a_slX, a_slM, a_own, a_mtX, a_extX, a_popX, a_isOwn, a_isOwnd, a_isOwnn, a_ext, a_lstOf, a_lstM, a_tupOf, a_tupM, a_sq1, a_sq2, a_itX, a_it1, a_it2, a_it3, a_rngX, a_fmtX, a_fmtM, a_js0, a_js1, a_strD, a_own1, a_iniX, a_iniM, a_fldM, a_isEM, a_lcX, a_callX, w_call, w_okC, w_fval, w_fex, w_qE, w_qL, a_as0, a_asv, a_ass, a_argd, a_argl, a_ln0, a_lnv, a_lns, a_ll0, a_lld, a_lls, a_pl0, a_pl1, a_setL, a_omap, w_pSnx, w_pSrt, w_pSbk, w_pSct, w_pSex, w_skip, w_seq, w_onx, w_ort, w_obk, w_oct, w_oex, w_obad, w_oite, w_oite, w_on, w_set, w_kSet, a_csn, a_csd, a_csl, a_csx, a_slOd, a_slOl, w_kAs, w_kAsg, w_asg, w_kIf, w_if, w_ret, w_kDr, w_drop, w_raise, w_kFor, w_for, w_for0, w_pLnx, w_pLct, w_pLbk, w_pLrt, w_pLex, w_loop, w_kWt, w_kWf, w_kWd, w_kTt, w_kTf, w_try, w_pTnx, w_pTrt, w_pTbk, w_pTct, w_pTex, w_pk0, w_pk1, w_noEx, w_pNnx, w_pNrt, w_pNex, w_map, w_pMnx, w_pMrt, w_gO, w_gN, w_qB, w_pEnx, w_pErt, w_pEex, w_run, a_bk0, a_bkd, a_bkl, a_rho0, a_pind, a_pinl, a_nmG, a_nilG, a_consG, a_tupG, a_asgIx, a_setIx, a_augS, a_wp0, a_wp1, a_bR0, a_bR1, a_kd1, a_kd0, a_kdl, List.getElem?_cons_zero, List.getElem?_cons_succ, List.getElem?_nil, List.set_cons_zero, List.set_cons_succ, List.length_cons, List.length_nil, List.map_cons, List.map_nil, List.nil_append, List.cons_append, List.replicate_succ, List.replicate_zero, if_true, if_false, eq_self, decide_eq_true_eq, Bool.false_eq_true, and_true, true_and, Option.map_some, Option.map_none, not_true_eq_false, not_false_eq_true, forall_const, false_implies, true_implies, Nat.reduceAdd, Nat.reduceSub, Nat.reduceLeDiff, Nat.reduceLT, List.nodup_nil, List.nodup_cons, List.not_mem_nil, Bool.not_eq_true, decide_true, decide_false, Bool.not_true, Bool.not_false, reduceIte, reduceCtorEq, Nat.zero_add]
      exact ⟨acc, h4.symm, rfl⟩
  · rintro d rest ρ ⟨row, r, acc, e1, e2, e4, e5, h1, h2, h3, h4, h5, f1, f2, f4, f5, rfl⟩
    cases r with
    | nil => cases h1
    | cons x r =>
      rw [List.map_cons, pairsFrom] at h1
      cases h1
      have hx := h2 x List.mem_cons_self
      have hx' : x.t.length ≤ 1000000 := by omega
      rw [List.length_cons] at h3
      have hr : (0 : Int) ≤ (row : Int) ∧ (row : Int) < 1000 := by omega
      rw [foldSp_cons] at h4
      by_cases hb : bad1 (cs x.t) < (cs x.t).length
      · have e := tokens_bad hx hr hb
        rw [if_pos hb] at h4
        simp only [w_ok, w_ex, w_bad, w_pure, w_lsome, w_lnone, w_lite, w_ite, w_iteR, w_bind, w_kB, a_nmX, a_nmO, a_nmT, a_valO, a_bop, a_opM, a_rdv, a_rds, a_sd, a_sl, a_tst, a_boolD, a_tru, a_truM, a_andB, a_orB, a_notB, a_andX, a_orX, a_notX, a_ifX, a_caX, a_caM, a_rdsn, a_rdsc, a_consR, a_consM, a_tupX, a_lstX, a_ownX, a_badM, a_tmD, a_frzM, a_frzd, a_frzl, a_isiX, a_isiM, a_negX, a_intD, a_ptM, a_slX, a_slM, a_own, a_mtX, a_extX, a_popX, a_isOwn, a_isOwnd, a_isOwnn, a_ext, a_lstOf, a_lstM, a_tupOf, a_tupM, a_sq1, a_sq2, a_itX, a_it1, a_it2, a_it3, a_rngX, a_fmtX, a_fmtM, a_js0, a_js1, a_strD, a_own1, a_iniX, a_iniM, a_fldM, a_isEM, a_lcX, a_callX, w_call, w_okC, w_fval, w_fex, w_qE, w_qL, a_as0, a_asv, a_ass, a_argd, a_argl, a_ln0, a_lnv, a_lns, a_ll0, a_lld, a_lls, a_pl0, a_pl1, a_setL, a_omap, w_pSnx, w_pSrt, w_pSbk, w_pSct, w_pSex, w_skip, w_seq, w_onx, w_ort, w_obk, w_oct, w_oex, w_obad, w_oite, w_oite, w_on, w_set, w_kSet, a_csn, a_csd, a_csl, a_csx, a_slOd, a_slOl, w_kAs, w_kAsg, w_asg, w_kIf, w_if, w_ret, w_kDr, w_drop, w_raise, w_kFor, w_for, w_for0, w_pLnx, w_pLct, w_pLbk, w_pLrt, w_pLex, w_loop, w_kWt, w_kWf, w_kWd, w_kTt, w_kTf, w_try, w_pTnx, w_pTrt, w_pTbk, w_pTct, w_pTex, w_pk0, w_pk1, w_noEx, w_pNnx, w_pNrt, w_pNex, w_map, w_pMnx, w_pMrt, w_gO, w_gN, w_qB, w_pEnx, w_pErt, w_pEex, w_run, a_bk0, a_bkd, a_bkl, a_rho0, a_pind, a_pinl, a_nmG, a_nilG, a_consG, a_tupG, a_asgIx, a_setIx, a_augS, a_wp0, a_wp1, a_bR0, a_bR1, a_kd1, a_kd0, a_kdl, List.getElem?_cons_zero, List.getElem?_cons_succ, List.getElem?_nil, List.set_cons_zero, List.set_cons_succ, List.length_cons, List.length_nil, List.map_cons, List.map_nil, List.nil_append, List.cons_append, List.replicate_succ, List.replicate_zero, if_true, if_false, eq_self, decide_eq_true_eq, Bool.false_eq_true, and_true, true_and, Option.map_some, Option.map_none, not_true_eq_false, not_false_eq_true, forall_const, false_implies, true_implies, Nat.reduceAdd, Nat.reduceSub, Nat.reduceLeDiff, Nat.reduceLT, List.nodup_nil, List.nodup_cons, List.not_mem_nil, Bool.not_eq_true, decide_true, decide_false, Bool.not_true, Bool.not_false, reduceIte, reduceCtorEq, Nat.zero_add, lnD, f1, f2, f4, f5, e]
        exact .inl ⟨row, _, h4.symm, rfl⟩
      · have e := tokens_fine hx hr hb
        rw [if_neg hb] at h4
        have tl := toks_len (t := x.t) (row := .int row) (k := 0) rfl
        have hcl := cs_len x.t
        simp only [w_ok, w_ex, w_bad, w_pure, w_lsome, w_lnone, w_lite, w_ite, w_iteR, w_bind, w_kB, a_nmX, a_nmO, a_nmT, a_valO, a_bop, a_opM, a_rdv, a_rds, a_sd, a_sl, a_tst, a_boolD, a_tru, a_truM, a_andB, a_orB, a_notB, a_andX, a_orX, a_notX, a_ifX, a_caX, a_caM, a_rdsn, a_rdsc, a_consR, a_consM, a_tupX, a_lstX, a_ownX, a_badM, a_tmD, a_frzM, a_frzd, a_frzl, a_isiX, a_isiM, a_negX, a_intD, a_ptM, a_slX, a_slM, a_own, a_mtX, a_extX, a_popX, a_isOwn, a_isOwnd, a_isOwnn, a_ext, a_lstOf, a_lstM, a_tupOf, a_tupM, a_sq1, a_sq2, a_itX, a_it1, a_it2, a_it3, a_rngX, a_fmtX, a_fmtM, a_js0, a_js1, a_strD, a_own1, a_iniX, a_iniM, a_fldM, a_isEM, a_lcX, a_callX, w_call, w_okC, w_fval, w_fex, w_qE, w_qL, a_as0, a_asv, a_ass, a_argd, a_argl, a_ln0, a_lnv, a_lns, a_ll0, a_lld, a_lls, a_pl0, a_pl1, a_setL, a_omap, w_pSnx, w_pSrt, w_pSbk, w_pSct, w_pSex, w_skip, w_seq, w_onx, w_ort, w_obk, w_oct, w_oex, w_obad, w_oite, w_oite, w_on, w_set, w_kSet, a_csn, a_csd, a_csl, a_csx, a_slOd, a_slOl, w_kAs, w_kAsg, w_asg, w_kIf, w_if, w_ret, w_kDr, w_drop, w_raise, w_kFor, w_for, w_for0, w_pLnx, w_pLct, w_pLbk, w_pLrt, w_pLex, w_loop, w_kWt, w_kWf, w_kWd, w_kTt, w_kTf, w_try, w_pTnx, w_pTrt, w_pTbk, w_pTct, w_pTex, w_pk0, w_pk1, w_noEx, w_pNnx, w_pNrt, w_pNex, w_map, w_pMnx, w_pMrt, w_gO, w_gN, w_qB, w_pEnx, w_pErt, w_pEex, w_run, a_bk0, a_bkd, a_bkl, a_rho0, a_pind, a_pinl, a_nmG, a_nilG, a_consG, a_tupG, a_asgIx, a_setIx, a_augS, a_wp0, a_wp1, a_bR0, a_bR1, a_kd1, a_kd0, a_kdl, List.getElem?_cons_zero, List.getElem?_cons_succ, List.getElem?_nil, List.set_cons_zero, List.set_cons_succ, List.length_cons, List.length_nil, List.map_cons, List.map_nil, List.nil_append, List.cons_append, List.replicate_succ, List.replicate_zero, if_true, if_false, eq_self, decide_eq_true_eq, Bool.false_eq_true, and_true, true_and, Option.map_some, Option.map_none, not_true_eq_false, not_false_eq_true, forall_const, false_implies, true_implies, Nat.reduceAdd, Nat.reduceSub, Nat.reduceLeDiff, Nat.reduceLT, List.nodup_nil, List.nodup_cons, List.not_mem_nil, Bool.not_eq_true, decide_true, decide_false, Bool.not_true, Bool.not_false, reduceIte, reduceCtorEq, Nat.zero_add, lnD, f1, f2, f4, f5, e]
        refine lc_map [some (.d (.list (ls.map lnD))), some (.d (.int x.k)), some (.d x.d), some (.l false acc), some (.d (.int row)), some (.d (.str x.t)), none] _ (fun z => [some (.d (.list (ls.map lnD))), some (.d (.int x.k)), some (.d x.d), some (.l false acc), some (.d (.int row)), some (.d (.str x.t)), some (.d z)]) (fun z => .tuple [z, x.d]) (by omega) rfl rfl (fun z _ => ⟨rfl, rfl, rfl, ?_⟩) ?_
        · simp only [w_ok, w_ex, w_bad, w_pure, w_lsome, w_lnone, w_lite, w_ite, w_iteR, w_bind, w_kB, a_nmX, a_nmO, a_nmT, a_valO, a_bop, a_opM, a_rdv, a_rds, a_sd, a_sl, a_tst, a_boolD, a_tru, a_truM, a_andB, a_orB, a_notB, a_andX, a_orX, a_notX, a_ifX, a_caX, a_caM, a_rdsn, a_rdsc, a_consR, a_consM, a_tupX, a_lstX, a_ownX, a_badM, a_tmD, a_frzM, a_frzd, a_frzl, a_isiX, a_isiM, a_negX, a_intD, a_ptM, a_slX, a_slM, a_own, a_mtX, a_extX, a_popX, a_isOwn, a_isOwnd, a_isOwnn, a_ext, a_lstOf, a_lstM, a_tupOf, a_tupM, a_sq1, a_sq2, a_itX, a_it1, a_it2, a_it3, a_rngX, a_fmtX, a_fmtM, a_js0, a_js1, a_strD, a_own1, a_iniX, a_iniM, a_fldM, a_isEM, a_lcX, a_callX, w_call, w_okC, w_fval, w_fex, w_qE, w_qL, a_as0, a_asv, a_ass, a_argd, a_argl, a_ln0, a_lnv, a_lns, a_ll0, a_lld, a_lls, a_pl0, a_pl1, a_setL, a_omap, w_pSnx, w_pSrt, w_pSbk, w_pSct, w_pSex, w_skip, w_seq, w_onx, w_ort, w_obk, w_oct, w_oex, w_obad, w_oite, w_oite, w_on, w_set, w_kSet, a_csn, a_csd, a_csl, a_csx, a_slOd, a_slOl, w_kAs, w_kAsg, w_asg, w_kIf, w_if, w_ret, w_kDr, w_drop, w_raise, w_kFor, w_for, w_for0, w_pLnx, w_pLct, w_pLbk, w_pLrt, w_pLex, w_loop, w_kWt, w_kWf, w_kWd, w_kTt, w_kTf, w_try, w_pTnx, w_pTrt, w_pTbk, w_pTct, w_pTex, w_pk0, w_pk1, w_noEx, w_pNnx, w_pNrt, w_pNex, w_map, w_pMnx, w_pMrt, w_gO, w_gN, w_qB, w_pEnx, w_pErt, w_pEex, w_run, a_bk0, a_bkd, a_bkl, a_rho0, a_pind, a_pinl, a_nmG, a_nilG, a_consG, a_tupG, a_asgIx, a_setIx, a_augS, a_wp0, a_wp1, a_bR0, a_bR1, a_kd1, a_kd0, a_kdl, List.getElem?_cons_zero, List.getElem?_cons_succ, List.getElem?_nil, List.set_cons_zero, List.set_cons_succ, List.length_cons, List.length_nil, List.map_cons, List.map_nil, List.nil_append, List.cons_append, List.replicate_succ, List.replicate_zero, if_true, if_false, eq_self, decide_eq_true_eq, Bool.false_eq_true, and_true, true_and, Option.map_some, Option.map_none, not_true_eq_false, not_false_eq_true, forall_const, false_implies, true_implies, Nat.reduceAdd, Nat.reduceSub, Nat.reduceLeDiff, Nat.reduceLT, List.nodup_nil, List.nodup_cons, List.not_mem_nil, Bool.not_eq_true, decide_true, decide_false, Bool.not_true, Bool.not_false, reduceIte, reduceCtorEq, Nat.zero_add]
        · have hlen : acc.length + ((tksF x.t (.int row) 0).map fun z => PyData.tuple [z, x.d]).length ≤ 1000000 := by rw [List.length_map]; omega
          have ea : acc ++ ((tksF x.t (.int row) 0).map fun z => PyData.tuple [z, x.d]) = addT x row acc := rfl
          simp only [w_ok, w_ex, w_bad, w_pure, w_lsome, w_lnone, w_lite, w_ite, w_iteR, w_bind, w_kB, a_nmX, a_nmO, a_nmT, a_valO, a_bop, a_opM, a_rdv, a_rds, a_sd, a_sl, a_tst, a_boolD, a_tru, a_truM, a_andB, a_orB, a_notB, a_andX, a_orX, a_notX, a_ifX, a_caX, a_caM, a_rdsn, a_rdsc, a_consR, a_consM, a_tupX, a_lstX, a_ownX, a_badM, a_tmD, a_frzM, a_frzd, a_frzl, a_isiX, a_isiM, a_negX, a_intD, a_ptM, a_slX, a_slM, a_own, a_mtX, a_extX, a_popX, a_isOwn, a_isOwnd, a_isOwnn, a_ext, a_lstOf, a_lstM, a_tupOf, a_tupM, a_sq1, a_sq2, a_itX, a_it1, a_it2, a_it3, a_rngX, a_fmtX, a_fmtM, a_js0, a_js1, a_strD, a_own1, a_iniX, a_iniM, a_fldM, a_isEM, a_lcX, a_callX, w_call, w_okC, w_fval, w_fex, w_qE, w_qL, a_as0, a_asv, a_ass, a_argd, a_argl, a_ln0, a_lnv, a_lns, a_ll0, a_lld, a_lls, a_pl0, a_pl1, a_setL, a_omap, w_pSnx, w_pSrt, w_pSbk, w_pSct, w_pSex, w_skip, w_seq, w_onx, w_ort, w_obk, w_oct, w_oex, w_obad, w_oite, w_oite, w_on, w_set, w_kSet, a_csn, a_csd, a_csl, a_csx, a_slOd, a_slOl, w_kAs, w_kAsg, w_asg, w_kIf, w_if, w_ret, w_kDr, w_drop, w_raise, w_kFor, w_for, w_for0, w_pLnx, w_pLct, w_pLbk, w_pLrt, w_pLex, w_loop, w_kWt, w_kWf, w_kWd, w_kTt, w_kTf, w_try, w_pTnx, w_pTrt, w_pTbk, w_pTct, w_pTex, w_pk0, w_pk1, w_noEx, w_pNnx, w_pNrt, w_pNex, w_map, w_pMnx, w_pMrt, w_gO, w_gN, w_qB, w_pEnx, w_pErt, w_pEex, w_run, a_bk0, a_bkd, a_bkl, a_rho0, a_pind, a_pinl, a_nmG, a_nilG, a_consG, a_tupG, a_asgIx, a_setIx, a_augS, a_wp0, a_wp1, a_bR0, a_bR1, a_kd1, a_kd0, a_kdl, List.getElem?_cons_zero, List.getElem?_cons_succ, List.getElem?_nil, List.set_cons_zero, List.set_cons_succ, List.length_cons, List.length_nil, List.map_cons, List.map_nil, List.nil_append, List.cons_append, List.replicate_succ, List.replicate_zero, if_true, if_false, eq_self, decide_eq_true_eq, Bool.false_eq_true, and_true, true_and, Option.map_some, Option.map_none, not_true_eq_false, not_false_eq_true, forall_const, false_implies, true_implies, Nat.reduceAdd, Nat.reduceSub, Nat.reduceLeDiff, Nat.reduceLT, List.nodup_nil, List.nodup_cons, List.not_mem_nil, Bool.not_eq_true, decide_true, decide_false, Bool.not_true, Bool.not_false, reduceIte, reduceCtorEq, Nat.zero_add, hlen, ea, len_lst, gtD_int]
          have l24 : ((24 : Int) < ((addT x row acc).length : Int)) ↔ 24 < (addT x row acc).length := by omega
          by_cases hm : 24 < (addT x row acc).length
          · rw [if_pos hm] at h4
            simp only [w_ok, w_ex, w_bad, w_pure, w_lsome, w_lnone, w_lite, w_ite, w_iteR, w_bind, w_kB, a_nmX, a_nmO, a_nmT, a_valO, a_bop, a_opM, a_rdv, a_rds, a_sd, a_sl, a_tst, a_boolD, a_tru, a_truM, a_andB, a_orB, a_notB, a_andX, a_orX, a_notX, a_ifX, a_caX, a_caM, a_rdsn, a_rdsc, a_consR, a_consM, a_tupX, a_lstX, a_ownX, a_badM, a_tmD, a_frzM, a_frzd, a_frzl, a_isiX, a_isiM, a_negX, a_intD, a_ptM, a_slX, a_slM, a_own, a_mtX, a_extX, a_popX, a_isOwn, a_isOwnd, a_isOwnn, a_ext, a_lstOf, a_lstM, a_tupOf, a_tupM, a_sq1, a_sq2, a_itX, a_it1, a_it2, a_it3, a_rngX, a_fmtX, a_fmtM, a_js0, a_js1, a_strD, a_own1, a_iniX, a_iniM, a_fldM, a_isEM, a_lcX, a_callX, w_call, w_okC, w_fval, w_fex, w_qE, w_qL, a_as0, a_asv, a_ass, a_argd, a_argl, a_ln0, a_lnv, a_lns, a_ll0, a_lld, a_lls, a_pl0, a_pl1, a_setL, a_omap, w_pSnx, w_pSrt, w_pSbk, w_pSct, w_pSex, w_skip, w_seq, w_onx, w_ort, w_obk, w_oct, w_oex, w_obad, w_oite, w_oite, w_on, w_set, w_kSet, a_csn, a_csd, a_csl, a_csx, a_slOd, a_slOl, w_kAs, w_kAsg, w_asg, w_kIf, w_if, w_ret, w_kDr, w_drop, w_raise, w_kFor, w_for, w_for0, w_pLnx, w_pLct, w_pLbk, w_pLrt, w_pLex, w_loop, w_kWt, w_kWf, w_kWd, w_kTt, w_kTf, w_try, w_pTnx, w_pTrt, w_pTbk, w_pTct, w_pTex, w_pk0, w_pk1, w_noEx, w_pNnx, w_pNrt, w_pNex, w_map, w_pMnx, w_pMrt, w_gO, w_gN, w_qB, w_pEnx, w_pErt, w_pEex, w_run, a_bk0, a_bkd, a_bkl, a_rho0, a_pind, a_pinl, a_nmG, a_nilG, a_consG, a_tupG, a_asgIx, a_setIx, a_augS, a_wp0, a_wp1, a_bR0, a_bR1, a_kd1, a_kd0, a_kdl, List.getElem?_cons_zero, List.getElem?_cons_succ, List.getElem?_nil, List.set_cons_zero, List.set_cons_succ, List.length_cons, List.length_nil, List.map_cons, List.map_nil, List.nil_append, List.cons_append, List.replicate_succ, List.replicate_zero, if_true, if_false, eq_self, decide_eq_true_eq, Bool.false_eq_true, and_true, true_and, Option.map_some, Option.map_none, not_true_eq_false, not_false_eq_true, forall_const, false_implies, true_implies, Nat.reduceAdd, Nat.reduceSub, Nat.reduceLeDiff, Nat.reduceLT, List.nodup_nil, List.nodup_cons, List.not_mem_nil, Bool.not_eq_true, decide_true, decide_false, Bool.not_true, Bool.not_false, reduceIte, reduceCtorEq, Nat.zero_add, l24, hm, fmt24, j1, j2, j3]
            exact .inr h4.symm
          · rw [if_neg hm] at h4
            simp only [w_ok, w_ex, w_bad, w_pure, w_lsome, w_lnone, w_lite, w_ite, w_iteR, w_bind, w_kB, a_nmX, a_nmO, a_nmT, a_valO, a_bop, a_opM, a_rdv, a_rds, a_sd, a_sl, a_tst, a_boolD, a_tru, a_truM, a_andB, a_orB, a_notB, a_andX, a_orX, a_notX, a_ifX, a_caX, a_caM, a_rdsn, a_rdsc, a_consR, a_consM, a_tupX, a_lstX, a_ownX, a_badM, a_tmD, a_frzM, a_frzd, a_frzl, a_isiX, a_isiM, a_negX, a_intD, a_ptM, a_slX, a_slM, a_own, a_mtX, a_extX, a_popX, a_isOwn, a_isOwnd, a_isOwnn, a_ext, a_lstOf, a_lstM, a_tupOf, a_tupM, a_sq1, a_sq2, a_itX, a_it1, a_it2, a_it3, a_rngX, a_fmtX, a_fmtM, a_js0, a_js1, a_strD, a_own1, a_iniX, a_iniM, a_fldM, a_isEM, a_lcX, a_callX, w_call, w_okC, w_fval, w_fex, w_qE, w_qL, a_as0, a_asv, a_ass, a_argd, a_argl, a_ln0, a_lnv, a_lns, a_ll0, a_lld, a_lls, a_pl0, a_pl1, a_setL, a_omap, w_pSnx, w_pSrt, w_pSbk, w_pSct, w_pSex, w_skip, w_seq, w_onx, w_ort, w_obk, w_oct, w_oex, w_obad, w_oite, w_oite, w_on, w_set, w_kSet, a_csn, a_csd, a_csl, a_csx, a_slOd, a_slOl, w_kAs, w_kAsg, w_asg, w_kIf, w_if, w_ret, w_kDr, w_drop, w_raise, w_kFor, w_for, w_for0, w_pLnx, w_pLct, w_pLbk, w_pLrt, w_pLex, w_loop, w_kWt, w_kWf, w_kWd, w_kTt, w_kTf, w_try, w_pTnx, w_pTrt, w_pTbk, w_pTct, w_pTex, w_pk0, w_pk1, w_noEx, w_pNnx, w_pNrt, w_pNex, w_map, w_pMnx, w_pMrt, w_gO, w_gN, w_qB, w_pEnx, w_pErt, w_pEex, w_run, a_bk0, a_bkd, a_bkl, a_rho0, a_pind, a_pinl, a_nmG, a_nilG, a_consG, a_tupG, a_asgIx, a_setIx, a_augS, a_wp0, a_wp1, a_bR0, a_bR1, a_kd1, a_kd0, a_kdl, List.getElem?_cons_zero, List.getElem?_cons_succ, List.getElem?_nil, List.set_cons_zero, List.set_cons_succ, List.length_cons, List.length_nil, List.map_cons, List.map_nil, List.nil_append, List.cons_append, List.replicate_succ, List.replicate_zero, if_true, if_false, eq_self, decide_eq_true_eq, Bool.false_eq_true, and_true, true_and, Option.map_some, Option.map_none, not_true_eq_false, not_false_eq_true, forall_const, false_implies, true_implies, Nat.reduceAdd, Nat.reduceSub, Nat.reduceLeDiff, Nat.reduceLT, List.nodup_nil, List.nodup_cons, List.not_mem_nil, Bool.not_eq_true, decide_true, decide_false, Bool.not_true, Bool.not_false, reduceIte, reduceCtorEq, Nat.zero_add, l24, hm]
            exact ⟨row + 1, r, addT x row acc, _, _, _, _, rfl, fun y hy => h2 y (List.mem_cons_of_mem _ hy), by omega, h4, by omega, rfl, rfl, rfl, rfl, rfl⟩
end EV

namespace EV
open PySem PySem.Spec PyProof.Rows L2 Ver
def frD : FR → D
  | .ok l => .list l
  | .bad r c => badD r c
  | .many => manyD
theorem told_spec {ls : List Ln} (hl : ∀ x ∈ ls, x.t.length ≤ 900) (hn : ls.length < 1000) :
    ∃ tm, F_law_told [.d (.list (ls.map lnD))] = .val tm [.d (.list (ls.map lnD))] ∧ frzT tm = frD (foldSp [] 0 ls) := by
  suffices h : okF (fun tm as => frzT tm = frD (foldSp [] 0 ls) ∧ as = [.d (.list (ls.map lnD))]) noF (F_law_told [.d (.list (ls.map lnD))]) by
    obtain ⟨tm, as, e, h1, rfl⟩ := okF_val h
    exact ⟨tm, e, h1⟩
  unfold F_law_told
  rw [w_run]
  unfold B_law_told
  simp only [w_ok, w_ex, w_bad, w_pure, w_lsome, w_lnone, w_lite, w_ite, w_iteR, w_bind, w_kB, a_nmX, a_nmO, a_nmT, a_valO, a_bop, a_opM, a_rdv, a_rds, a_sd, a_sl, a_tst, a_boolD, a_tru, a_truM, a_andB, a_orB, a_notB, a_andX, a_orX, a_notX, a_ifX, a_caX, a_caM, a_rdsn, a_rdsc, a_consR, a_consM, a_tupX, a_lstX, a_ownX, a_badM, a_tmD, a_frzM, a_frzd, a_frzl, a_isiX, a_isiM, a_negX, a_intD, a_ptM, a_slX, a_slM, a_own, a_mtX, a_extX, a_popX, a_isOwn, a_isOwnd, a_isOwnn, a_ext, a_lstOf, a_lstM, a_tupOf, a_tupM, a_sq1, a_sq2, a_itX, a_it1, a_it2, a_it3, a_rngX, a_fmtX, a_fmtM, a_js0, a_js1, a_strD, a_own1, a_iniX, a_iniM, a_fldM, a_isEM, a_lcX, a_callX, w_call, w_okC, w_fval, w_fex, w_qE, w_qL, a_as0, a_asv, a_ass, a_argd, a_argl, a_ln0, a_lnv, a_lns, a_ll0, a_lld, a_lls, a_pl0, a_pl1, a_setL, a_omap, w_pSnx, w_pSrt, w_pSbk, w_pSct, w_pSex, w_skip, w_seq, w_onx, w_ort, w_obk, w_oct, w_oex, w_obad, w_oite, w_oite, w_on, w_set, w_kSet, a_csn, a_csd, a_csl, a_csx, a_slOd, a_slOl, w_kAs, w_kAsg, w_asg, w_kIf, w_if, w_ret, w_kDr, w_drop, w_raise, w_kFor, w_for, w_for0, w_pLnx, w_pLct, w_pLbk, w_pLrt, w_pLex, w_loop, w_kWt, w_kWf, w_kWd, w_kTt, w_kTf, w_try, w_pTnx, w_pTrt, w_pTbk, w_pTct, w_pTex, w_pk0, w_pk1, w_noEx, w_pNnx, w_pNrt, w_pNex, w_map, w_pMnx, w_pMrt, w_gO, w_gN, w_qB, w_pEnx, w_pErt, w_pEex, w_run, a_bk0, a_bkd, a_bkl, a_rho0, a_pind, a_pinl, a_nmG, a_nilG, a_consG, a_tupG, a_asgIx, a_setIx, a_augS, a_wp0, a_wp1, a_bR0, a_bR1, a_kd1, a_kd0, a_kdl, List.getElem?_cons_zero, List.getElem?_cons_succ, List.getElem?_nil, List.set_cons_zero, List.set_cons_succ, List.length_cons, List.length_nil, List.map_cons, List.map_nil, List.nil_append, List.cons_append, List.replicate_succ, List.replicate_zero, if_true, if_false, eq_self, decide_eq_true_eq, Bool.false_eq_true, and_true, true_and, Option.map_some, Option.map_none, not_true_eq_false, not_false_eq_true, forall_const, false_implies, true_implies, Nat.reduceAdd, Nat.reduceSub, Nat.reduceLeDiff, Nat.reduceLT, List.nodup_nil, List.nodup_cons, List.not_mem_nil, Bool.not_eq_true, decide_true, decide_false, Bool.not_true, Bool.not_false, reduceIte, reduceCtorEq, Nat.zero_add]
  refine okF_imp (fold_ok hl hn) ?_ ?_
  · rintro t as ⟨⟨l, h1, rfl⟩, rfl⟩
    simp only [w_ok, w_ex, w_bad, w_pure, w_lsome, w_lnone, w_lite, w_ite, w_iteR, w_bind, w_kB, a_nmX, a_nmO, a_nmT, a_valO, a_bop, a_opM, a_rdv, a_rds, a_sd, a_sl, a_tst, a_boolD, a_tru, a_truM, a_andB, a_orB, a_notB, a_andX, a_orX, a_notX, a_ifX, a_caX, a_caM, a_rdsn, a_rdsc, a_consR, a_consM, a_tupX, a_lstX, a_ownX, a_badM, a_tmD, a_frzM, a_frzd, a_frzl, a_isiX, a_isiM, a_negX, a_intD, a_ptM, a_slX, a_slM, a_own, a_mtX, a_extX, a_popX, a_isOwn, a_isOwnd, a_isOwnn, a_ext, a_lstOf, a_lstM, a_tupOf, a_tupM, a_sq1, a_sq2, a_itX, a_it1, a_it2, a_it3, a_rngX, a_fmtX, a_fmtM, a_js0, a_js1, a_strD, a_own1, a_iniX, a_iniM, a_fldM, a_isEM, a_lcX, a_callX, w_call, w_okC, w_fval, w_fex, w_qE, w_qL, a_as0, a_asv, a_ass, a_argd, a_argl, a_ln0, a_lnv, a_lns, a_ll0, a_lld, a_lls, a_pl0, a_pl1, a_setL, a_omap, w_pSnx, w_pSrt, w_pSbk, w_pSct, w_pSex, w_skip, w_seq, w_onx, w_ort, w_obk, w_oct, w_oex, w_obad, w_oite, w_oite, w_on, w_set, w_kSet, a_csn, a_csd, a_csl, a_csx, a_slOd, a_slOl, w_kAs, w_kAsg, w_asg, w_kIf, w_if, w_ret, w_kDr, w_drop, w_raise, w_kFor, w_for, w_for0, w_pLnx, w_pLct, w_pLbk, w_pLrt, w_pLex, w_loop, w_kWt, w_kWf, w_kWd, w_kTt, w_kTf, w_try, w_pTnx, w_pTrt, w_pTbk, w_pTct, w_pTex, w_pk0, w_pk1, w_noEx, w_pNnx, w_pNrt, w_pNex, w_map, w_pMnx, w_pMrt, w_gO, w_gN, w_qB, w_pEnx, w_pErt, w_pEex, w_run, a_bk0, a_bkd, a_bkl, a_rho0, a_pind, a_pinl, a_nmG, a_nilG, a_consG, a_tupG, a_asgIx, a_setIx, a_augS, a_wp0, a_wp1, a_bR0, a_bR1, a_kd1, a_kd0, a_kdl, List.getElem?_cons_zero, List.getElem?_cons_succ, List.getElem?_nil, List.set_cons_zero, List.set_cons_succ, List.length_cons, List.length_nil, List.map_cons, List.map_nil, List.nil_append, List.cons_append, List.replicate_succ, List.replicate_zero, if_true, if_false, eq_self, decide_eq_true_eq, Bool.false_eq_true, and_true, true_and, Option.map_some, Option.map_none, not_true_eq_false, not_false_eq_true, forall_const, false_implies, true_implies, Nat.reduceAdd, Nat.reduceSub, Nat.reduceLeDiff, Nat.reduceLT, List.nodup_nil, List.nodup_cons, List.not_mem_nil, Bool.not_eq_true, decide_true, decide_false, Bool.not_true, Bool.not_false, reduceIte, reduceCtorEq, Nat.zero_add, h1, frD]
  · rintro e as ⟨⟨r, c, h1, rfl⟩ | ⟨h1, rfl⟩, rfl⟩
    · simp only [w_ok, w_ex, w_bad, w_pure, w_lsome, w_lnone, w_lite, w_ite, w_iteR, w_bind, w_kB, a_nmX, a_nmO, a_nmT, a_valO, a_bop, a_opM, a_rdv, a_rds, a_sd, a_sl, a_tst, a_boolD, a_tru, a_truM, a_andB, a_orB, a_notB, a_andX, a_orX, a_notX, a_ifX, a_caX, a_caM, a_rdsn, a_rdsc, a_consR, a_consM, a_tupX, a_lstX, a_ownX, a_badM, a_tmD, a_frzM, a_frzd, a_frzl, a_isiX, a_isiM, a_negX, a_intD, a_ptM, a_slX, a_slM, a_own, a_mtX, a_extX, a_popX, a_isOwn, a_isOwnd, a_isOwnn, a_ext, a_lstOf, a_lstM, a_tupOf, a_tupM, a_sq1, a_sq2, a_itX, a_it1, a_it2, a_it3, a_rngX, a_fmtX, a_fmtM, a_js0, a_js1, a_strD, a_own1, a_iniX, a_iniM, a_fldM, a_isEM, a_lcX, a_callX, w_call, w_okC, w_fval, w_fex, w_qE, w_qL, a_as0, a_asv, a_ass, a_argd, a_argl, a_ln0, a_lnv, a_lns, a_ll0, a_lld, a_lls, a_pl0, a_pl1, a_setL, a_omap, w_pSnx, w_pSrt, w_pSbk, w_pSct, w_pSex, w_skip, w_seq, w_onx, w_ort, w_obk, w_oct, w_oex, w_obad, w_oite, w_oite, w_on, w_set, w_kSet, a_csn, a_csd, a_csl, a_csx, a_slOd, a_slOl, w_kAs, w_kAsg, w_asg, w_kIf, w_if, w_ret, w_kDr, w_drop, w_raise, w_kFor, w_for, w_for0, w_pLnx, w_pLct, w_pLbk, w_pLrt, w_pLex, w_loop, w_kWt, w_kWf, w_kWd, w_kTt, w_kTf, w_try, w_pTnx, w_pTrt, w_pTbk, w_pTct, w_pTex, w_pk0, w_pk1, w_noEx, w_pNnx, w_pNrt, w_pNex, w_map, w_pMnx, w_pMrt, w_gO, w_gN, w_qB, w_pEnx, w_pErt, w_pEex, w_run, a_bk0, a_bkd, a_bkl, a_rho0, a_pind, a_pinl, a_nmG, a_nilG, a_consG, a_tupG, a_asgIx, a_setIx, a_augS, a_wp0, a_wp1, a_bR0, a_bR1, a_kd1, a_kd0, a_kdl, List.getElem?_cons_zero, List.getElem?_cons_succ, List.getElem?_nil, List.set_cons_zero, List.set_cons_succ, List.length_cons, List.length_nil, List.map_cons, List.map_nil, List.nil_append, List.cons_append, List.replicate_succ, List.replicate_zero, if_true, if_false, eq_self, decide_eq_true_eq, Bool.false_eq_true, and_true, true_and, Option.map_some, Option.map_none, not_true_eq_false, not_false_eq_true, forall_const, false_implies, true_implies, Nat.reduceAdd, Nat.reduceSub, Nat.reduceLeDiff, Nat.reduceLT, List.nodup_nil, List.nodup_cons, List.not_mem_nil, Bool.not_eq_true, decide_true, decide_false, Bool.not_true, Bool.not_false, reduceIte, reduceCtorEq, Nat.zero_add, lk_b2, gO, S_law_told_0, lk_row, lk_col, badD, frD, h1]
    · simp only [w_ok, w_ex, w_bad, w_pure, w_lsome, w_lnone, w_lite, w_ite, w_iteR, w_bind, w_kB, a_nmX, a_nmO, a_nmT, a_valO, a_bop, a_opM, a_rdv, a_rds, a_sd, a_sl, a_tst, a_boolD, a_tru, a_truM, a_andB, a_orB, a_notB, a_andX, a_orX, a_notX, a_ifX, a_caX, a_caM, a_rdsn, a_rdsc, a_consR, a_consM, a_tupX, a_lstX, a_ownX, a_badM, a_tmD, a_frzM, a_frzd, a_frzl, a_isiX, a_isiM, a_negX, a_intD, a_ptM, a_slX, a_slM, a_own, a_mtX, a_extX, a_popX, a_isOwn, a_isOwnd, a_isOwnn, a_ext, a_lstOf, a_lstM, a_tupOf, a_tupM, a_sq1, a_sq2, a_itX, a_it1, a_it2, a_it3, a_rngX, a_fmtX, a_fmtM, a_js0, a_js1, a_strD, a_own1, a_iniX, a_iniM, a_fldM, a_isEM, a_lcX, a_callX, w_call, w_okC, w_fval, w_fex, w_qE, w_qL, a_as0, a_asv, a_ass, a_argd, a_argl, a_ln0, a_lnv, a_lns, a_ll0, a_lld, a_lls, a_pl0, a_pl1, a_setL, a_omap, w_pSnx, w_pSrt, w_pSbk, w_pSct, w_pSex, w_skip, w_seq, w_onx, w_ort, w_obk, w_oct, w_oex, w_obad, w_oite, w_oite, w_on, w_set, w_kSet, a_csn, a_csd, a_csl, a_csx, a_slOd, a_slOl, w_kAs, w_kAsg, w_asg, w_kIf, w_if, w_ret, w_kDr, w_drop, w_raise, w_kFor, w_for, w_for0, w_pLnx, w_pLct, w_pLbk, w_pLrt, w_pLex, w_loop, w_kWt, w_kWf, w_kWd, w_kTt, w_kTf, w_try, w_pTnx, w_pTrt, w_pTbk, w_pTct, w_pTex, w_pk0, w_pk1, w_noEx, w_pNnx, w_pNrt, w_pNex, w_map, w_pMnx, w_pMrt, w_gO, w_gN, w_qB, w_pEnx, w_pErt, w_pEex, w_run, a_bk0, a_bkd, a_bkl, a_rho0, a_pind, a_pinl, a_nmG, a_nilG, a_consG, a_tupG, a_asgIx, a_setIx, a_augS, a_wp0, a_wp1, a_bR0, a_bR1, a_kd1, a_kd0, a_kdl, List.getElem?_cons_zero, List.getElem?_cons_succ, List.getElem?_nil, List.set_cons_zero, List.set_cons_succ, List.length_cons, List.length_nil, List.map_cons, List.map_nil, List.nil_append, List.cons_append, List.replicate_succ, List.replicate_zero, if_true, if_false, eq_self, decide_eq_true_eq, Bool.false_eq_true, and_true, true_and, Option.map_some, Option.map_none, not_true_eq_false, not_false_eq_true, forall_const, false_implies, true_implies, Nat.reduceAdd, Nat.reduceSub, Nat.reduceLeDiff, Nat.reduceLT, List.nodup_nil, List.nodup_cons, List.not_mem_nil, Bool.not_eq_true, decide_true, decide_false, Bool.not_true, Bool.not_false, reduceIte, reduceCtorEq, Nat.zero_add, lk_t2, lk_t1, gO, S_law_told_1, manyD, frD, h1]
theorem get_list {ds : List D} {k : Nat} {d : D} (h : ds[k]? = some d) : getD (.list ds) (.int (k : Int)) = some d := by
  show atI ds (k : Int) = _
  have hk := (List.getElem?_eq_some_iff.mp h).1
  rw [at_nat hk, ← h, List.getElem?_eq_getElem hk]
theorem get_tup {ds : List D} {k : Nat} {d : D} (h : ds[k]? = some d) : getD (.tuple ds) (.int (k : Int)) = some d := by
  show atI ds (k : Int) = _
  have hk := (List.getElem?_eq_some_iff.mp h).1
  rw [at_nat hk, ← h, List.getElem?_eq_getElem hk]
theorem ln0 (x : Ln) : getD (lnD x) (.int 0) = some (.str x.t) := get_tup (k := 0) rfl
theorem ln3 (x : Ln) : getD (lnD x) (.int 3) = some x.d := get_tup (k := 3) rfl
theorem rngN {n : Nat} (h : n ≤ 1000000) : rng1D [.int n] = some (intsD 0 n) := rng_n (by
  unfold small62
  rw [Bool.and_eq_true]
  exact ⟨decide_eq_true (by omega), decide_eq_true (by omega)⟩)
theorem due_spec {ls : List Ln} (hl : ∀ x ∈ ls, x.t.length ≤ 900) (hn : ls.length < 1000) :
    ∃ tm, F_law_due [.d (.list (ls.map lnD))] = .val tm [.d (.list (ls.map lnD))] ∧ frzT tm = frD (foldSp [] 0 ls) := by
  apply val_of
  have len : (ls.map lnD).length = ls.length := List.length_map ..
  unfold F_law_due
  rw [w_run]
  unfold B_law_due
  generalize hL : ls.map lnD = L at *
  have rn := rngN (n := L.length) (by omega)
  simp only [w_ok, w_ex, w_bad, w_pure, w_lsome, w_lnone, w_lite, w_ite, w_iteR, w_bind, w_kB, a_nmX, a_nmO, a_nmT, a_valO, a_bop, a_opM, a_rdv, a_rds, a_sd, a_sl, a_tst, a_boolD, a_tru, a_truM, a_andB, a_orB, a_notB, a_andX, a_orX, a_notX, a_ifX, a_caX, a_caM, a_rdsn, a_rdsc, a_consR, a_consM, a_tupX, a_lstX, a_ownX, a_badM, a_tmD, a_frzM, a_frzd, a_frzl, a_isiX, a_isiM, a_negX, a_intD, a_ptM, a_slX, a_slM, a_own, a_mtX, a_extX, a_popX, a_isOwn, a_isOwnd, a_isOwnn, a_ext, a_lstOf, a_lstM, a_tupOf, a_tupM, a_sq1, a_sq2, a_itX, a_it1, a_it2, a_it3, a_rngX, a_fmtX, a_fmtM, a_js0, a_js1, a_strD, a_own1, a_iniX, a_iniM, a_fldM, a_isEM, a_lcX, a_callX, w_call, w_okC, w_fval, w_fex, w_qE, w_qL, a_as0, a_asv, a_ass, a_argd, a_argl, a_ln0, a_lnv, a_lns, a_ll0, a_lld, a_lls, a_pl0, a_pl1, a_setL, a_omap, w_pSnx, w_pSrt, w_pSbk, w_pSct, w_pSex, w_skip, w_seq, w_onx, w_ort, w_obk, w_oct, w_oex, w_obad, w_oite, w_oite, w_on, w_set, w_kSet, a_csn, a_csd, a_csl, a_csx, a_slOd, a_slOl, w_kAs, w_kAsg, w_asg, w_kIf, w_if, w_ret, w_kDr, w_drop, w_raise, w_kFor, w_for, w_for0, w_pLnx, w_pLct, w_pLbk, w_pLrt, w_pLex, w_loop, w_kWt, w_kWf, w_kWd, w_kTt, w_kTf, w_try, w_pTnx, w_pTrt, w_pTbk, w_pTct, w_pTex, w_pk0, w_pk1, w_noEx, w_pNnx, w_pNrt, w_pNex, w_map, w_pMnx, w_pMrt, w_gO, w_gN, w_qB, w_pEnx, w_pErt, w_pEex, w_run, a_bk0, a_bkd, a_bkl, a_rho0, a_pind, a_pinl, a_nmG, a_nilG, a_consG, a_tupG, a_asgIx, a_setIx, a_augS, a_wp0, a_wp1, a_bR0, a_bR1, a_kd1, a_kd0, a_kdl, List.getElem?_cons_zero, List.getElem?_cons_succ, List.getElem?_nil, List.set_cons_zero, List.set_cons_succ, List.length_cons, List.length_nil, List.map_cons, List.map_nil, List.nil_append, List.cons_append, List.replicate_succ, List.replicate_zero, if_true, if_false, eq_self, decide_eq_true_eq, Bool.false_eq_true, and_true, true_and, Option.map_some, Option.map_none, not_true_eq_false, not_false_eq_true, forall_const, false_implies, true_implies, Nat.reduceAdd, Nat.reduceSub, Nat.reduceLeDiff, Nat.reduceLT, List.nodup_nil, List.nodup_cons, List.not_mem_nil, Bool.not_eq_true, decide_true, decide_false, Bool.not_true, Bool.not_false, reduceIte, reduceCtorEq, Nat.zero_add, len_lst, rn]
  refine for_rng (fun j ρ => ∃ (acc : List D) (e1 e3 : Option Sl), foldSp acc j (ls.drop j) = foldSp [] 0 ls ∧ acc.length ≤ 24 ∧ canSet (some e1) = true ∧ canSet (some e3) = true ∧
      ρ = [some (.d (.list L)), e1, some (.l false acc), e3, none]) ⟨[], none, none, rfl, by simp, rfl, rfl, rfl⟩ ?_ ?_
  · rintro ρ ⟨acc, e1, e3, h4, h5, f1, f3, rfl⟩
    rw [len, List.drop_length] at h4
    simp only [w_ok, w_ex, w_bad, w_pure, w_lsome, w_lnone, w_lite, w_ite, w_iteR, w_bind, w_kB, a_nmX, a_nmO, a_nmT, a_valO, a_bop, a_opM, a_rdv, a_rds, a_sd, a_sl, a_tst, a_boolD, a_tru, a_truM, a_andB, a_orB, a_notB, a_andX, a_orX, a_notX, a_ifX, a_caX, a_caM, a_rdsn, a_rdsc, a_consR, a_consM, a_tupX, a_lstX, a_ownX, a_badM, a_tmD, a_frzM, a_frzd, a_frzl, a_isiX, a_isiM, a_negX, a_intD, a_ptM, a_slX, a_slM, a_own, a_mtX, a_extX, a_popX, a_isOwn, a_isOwnd, a_isOwnn, a_ext, a_lstOf, a_lstM, a_tupOf, a_tupM, a_sq1, a_sq2, a_itX, a_it1, a_it2, a_it3, a_rngX, a_fmtX, a_fmtM, a_js0, a_js1, a_strD, a_own1, a_iniX, a_iniM, a_fldM, a_isEM, a_lcX, a_callX, w_call, w_okC, w_fval, w_fex, w_qE, w_qL, a_as0, a_asv, a_ass, a_argd, a_argl, a_ln0, a_lnv, a_lns, a_ll0, a_lld, a_lls, a_pl0, a_pl1, a_setL, a_omap, w_pSnx, w_pSrt, w_pSbk, w_pSct, w_pSex, w_skip, w_seq, w_onx, w_ort, w_obk, w_oct, w_oex, w_obad, w_oite, w_oite, w_on, w_set, w_kSet, a_csn, a_csd, a_csl, a_csx, a_slOd, a_slOl, w_kAs, w_kAsg, w_asg, w_kIf, w_if, w_ret, w_kDr, w_drop, w_raise, w_kFor, w_for, w_for0, w_pLnx, w_pLct, w_pLbk, w_pLrt, w_pLex, w_loop, w_kWt, w_kWf, w_kWd, w_kTt, w_kTf, w_try, w_pTnx, w_pTrt, w_pTbk, w_pTct, w_pTex, w_pk0, w_pk1, w_noEx, w_pNnx, w_pNrt, w_pNex, w_map, w_pMnx, w_pMrt, w_gO, w_gN, w_qB, w_pEnx, w_pErt, w_pEex, w_run, a_bk0, a_bkd, a_bkl, a_rho0, a_pind, a_pinl, a_nmG, a_nilG, a_consG, a_tupG, a_asgIx, a_setIx, a_augS, a_wp0, a_wp1, a_bR0, a_bR1, a_kd1, a_kd0, a_kdl, List.getElem?_cons_zero, List.getElem?_cons_succ, List.getElem?_nil, List.set_cons_zero, List.set_cons_succ, List.length_cons, List.length_nil, List.map_cons, List.map_nil, List.nil_append, List.cons_append, List.replicate_succ, List.replicate_zero, if_true, if_false, eq_self, decide_eq_true_eq, Bool.false_eq_true, and_true, true_and, Option.map_some, Option.map_none, not_true_eq_false, not_false_eq_true, forall_const, false_implies, true_implies, Nat.reduceAdd, Nat.reduceSub, Nat.reduceLeDiff, Nat.reduceLT, List.nodup_nil, List.nodup_cons, List.not_mem_nil, Bool.not_eq_true, decide_true, decide_false, Bool.not_true, Bool.not_false, reduceIte, reduceCtorEq, Nat.zero_add]
    rw [← h4]
    rfl
  · rintro j ρ hj ⟨acc, e1, e3, h4, h5, f1, f3, rfl⟩
    have hj' : j < ls.length := by omega
    have gx : getD (.list L) (.int (0 + (j : Int))) = some (lnD ls[j]) := by
      rw [Int.zero_add]
      exact get_list (by rw [← hL, List.getElem?_map, List.getElem?_eq_getElem hj']; rfl)
    have hx := hl ls[j] (List.getElem_mem hj')
    rw [List.drop_eq_getElem_cons hj', foldSp_cons] at h4
    generalize ls[j] = x at *
    have ws := wrong_spec hx
    have g0 := ln0 x
    have g3 := ln3 x
    by_cases hb : bad1 (cs x.t) < (cs x.t).length
    · rw [if_pos hb] at h4 ws
      have nn : (0 : Int) ≤ (bad1 (cs x.t) : Int) := by omega
      simp only [w_ok, w_ex, w_bad, w_pure, w_lsome, w_lnone, w_lite, w_ite, w_iteR, w_bind, w_kB, a_nmX, a_nmO, a_nmT, a_valO, a_bop, a_opM, a_rdv, a_rds, a_sd, a_sl, a_tst, a_boolD, a_tru, a_truM, a_andB, a_orB, a_notB, a_andX, a_orX, a_notX, a_ifX, a_caX, a_caM, a_rdsn, a_rdsc, a_consR, a_consM, a_tupX, a_lstX, a_ownX, a_badM, a_tmD, a_frzM, a_frzd, a_frzl, a_isiX, a_isiM, a_negX, a_intD, a_ptM, a_slX, a_slM, a_own, a_mtX, a_extX, a_popX, a_isOwn, a_isOwnd, a_isOwnn, a_ext, a_lstOf, a_lstM, a_tupOf, a_tupM, a_sq1, a_sq2, a_itX, a_it1, a_it2, a_it3, a_rngX, a_fmtX, a_fmtM, a_js0, a_js1, a_strD, a_own1, a_iniX, a_iniM, a_fldM, a_isEM, a_lcX, a_callX, w_call, w_okC, w_fval, w_fex, w_qE, w_qL, a_as0, a_asv, a_ass, a_argd, a_argl, a_ln0, a_lnv, a_lns, a_ll0, a_lld, a_lls, a_pl0, a_pl1, a_setL, a_omap, w_pSnx, w_pSrt, w_pSbk, w_pSct, w_pSex, w_skip, w_seq, w_onx, w_ort, w_obk, w_oct, w_oex, w_obad, w_oite, w_oite, w_on, w_set, w_kSet, a_csn, a_csd, a_csl, a_csx, a_slOd, a_slOl, w_kAs, w_kAsg, w_asg, w_kIf, w_if, w_ret, w_kDr, w_drop, w_raise, w_kFor, w_for, w_for0, w_pLnx, w_pLct, w_pLbk, w_pLrt, w_pLex, w_loop, w_kWt, w_kWf, w_kWd, w_kTt, w_kTf, w_try, w_pTnx, w_pTrt, w_pTbk, w_pTct, w_pTex, w_pk0, w_pk1, w_noEx, w_pNnx, w_pNrt, w_pNex, w_map, w_pMnx, w_pMrt, w_gO, w_gN, w_qB, w_pEnx, w_pErt, w_pEex, w_run, a_bk0, a_bkd, a_bkl, a_rho0, a_pind, a_pinl, a_nmG, a_nilG, a_consG, a_tupG, a_asgIx, a_setIx, a_augS, a_wp0, a_wp1, a_bR0, a_bR1, a_kd1, a_kd0, a_kdl, List.getElem?_cons_zero, List.getElem?_cons_succ, List.getElem?_nil, List.set_cons_zero, List.set_cons_succ, List.length_cons, List.length_nil, List.map_cons, List.map_nil, List.nil_append, List.cons_append, List.replicate_succ, List.replicate_zero, if_true, if_false, eq_self, decide_eq_true_eq, Bool.false_eq_true, and_true, true_and, Option.map_some, Option.map_none, not_true_eq_false, not_false_eq_true, forall_const, false_implies, true_implies, Nat.reduceAdd, Nat.reduceSub, Nat.reduceLeDiff, Nat.reduceLT, List.nodup_nil, List.nodup_cons, List.not_mem_nil, Bool.not_eq_true, decide_true, decide_false, Bool.not_true, Bool.not_false, reduceIte, reduceCtorEq, Nat.zero_add, f1, f3, gx, g0, ws, geD_int, nn]
      rw [← h4, Int.zero_add]
      rfl
    · rw [if_neg hb] at h4 ws
      have nn : ¬ (0 : Int) ≤ -1 := by omega
      have lt := ltok_spec (row := .int (0 + (j : Int))) hx hb
      have tl := toks_len (t := x.t) (row := .int (0 + (j : Int))) (k := 0) rfl
      have hcl := cs_len x.t
      simp only [w_ok, w_ex, w_bad, w_pure, w_lsome, w_lnone, w_lite, w_ite, w_iteR, w_bind, w_kB, a_nmX, a_nmO, a_nmT, a_valO, a_bop, a_opM, a_rdv, a_rds, a_sd, a_sl, a_tst, a_boolD, a_tru, a_truM, a_andB, a_orB, a_notB, a_andX, a_orX, a_notX, a_ifX, a_caX, a_caM, a_rdsn, a_rdsc, a_consR, a_consM, a_tupX, a_lstX, a_ownX, a_badM, a_tmD, a_frzM, a_frzd, a_frzl, a_isiX, a_isiM, a_negX, a_intD, a_ptM, a_slX, a_slM, a_own, a_mtX, a_extX, a_popX, a_isOwn, a_isOwnd, a_isOwnn, a_ext, a_lstOf, a_lstM, a_tupOf, a_tupM, a_sq1, a_sq2, a_itX, a_it1, a_it2, a_it3, a_rngX, a_fmtX, a_fmtM, a_js0, a_js1, a_strD, a_own1, a_iniX, a_iniM, a_fldM, a_isEM, a_lcX, a_callX, w_call, w_okC, w_fval, w_fex, w_qE, w_qL, a_as0, a_asv, a_ass, a_argd, a_argl, a_ln0, a_lnv, a_lns, a_ll0, a_lld, a_lls, a_pl0, a_pl1, a_setL, a_omap, w_pSnx, w_pSrt, w_pSbk, w_pSct, w_pSex, w_skip, w_seq, w_onx, w_ort, w_obk, w_oct, w_oex, w_obad, w_oite, w_oite, w_on, w_set, w_kSet, a_csn, a_csd, a_csl, a_csx, a_slOd, a_slOl, w_kAs, w_kAsg, w_asg, w_kIf, w_if, w_ret, w_kDr, w_drop, w_raise, w_kFor, w_for, w_for0, w_pLnx, w_pLct, w_pLbk, w_pLrt, w_pLex, w_loop, w_kWt, w_kWf, w_kWd, w_kTt, w_kTf, w_try, w_pTnx, w_pTrt, w_pTbk, w_pTct, w_pTex, w_pk0, w_pk1, w_noEx, w_pNnx, w_pNrt, w_pNex, w_map, w_pMnx, w_pMrt, w_gO, w_gN, w_qB, w_pEnx, w_pErt, w_pEex, w_run, a_bk0, a_bkd, a_bkl, a_rho0, a_pind, a_pinl, a_nmG, a_nilG, a_consG, a_tupG, a_asgIx, a_setIx, a_augS, a_wp0, a_wp1, a_bR0, a_bR1, a_kd1, a_kd0, a_kdl, List.getElem?_cons_zero, List.getElem?_cons_succ, List.getElem?_nil, List.set_cons_zero, List.set_cons_succ, List.length_cons, List.length_nil, List.map_cons, List.map_nil, List.nil_append, List.cons_append, List.replicate_succ, List.replicate_zero, if_true, if_false, eq_self, decide_eq_true_eq, Bool.false_eq_true, and_true, true_and, Option.map_some, Option.map_none, not_true_eq_false, not_false_eq_true, forall_const, false_implies, true_implies, Nat.reduceAdd, Nat.reduceSub, Nat.reduceLeDiff, Nat.reduceLT, List.nodup_nil, List.nodup_cons, List.not_mem_nil, Bool.not_eq_true, decide_true, decide_false, Bool.not_true, Bool.not_false, reduceIte, reduceCtorEq, Nat.zero_add, f1, f3, gx, g0, ws, geD_int, nn, lt]
      refine lc_map [some (.d (.list L)), some (.d (.int (-1))), some (.l false acc), some (.d (.int (0 + (j : Int)))), none] _ (fun z => [some (.d (.list L)), some (.d (.int (-1))), some (.l false acc), some (.d (.int (0 + (j : Int)))), some (.d z)]) (fun z => .tuple [z, x.d]) (by omega) rfl rfl (fun z _ => ⟨rfl, rfl, rfl, ?_⟩) ?_
      · simp only [w_ok, w_ex, w_bad, w_pure, w_lsome, w_lnone, w_lite, w_ite, w_iteR, w_bind, w_kB, a_nmX, a_nmO, a_nmT, a_valO, a_bop, a_opM, a_rdv, a_rds, a_sd, a_sl, a_tst, a_boolD, a_tru, a_truM, a_andB, a_orB, a_notB, a_andX, a_orX, a_notX, a_ifX, a_caX, a_caM, a_rdsn, a_rdsc, a_consR, a_consM, a_tupX, a_lstX, a_ownX, a_badM, a_tmD, a_frzM, a_frzd, a_frzl, a_isiX, a_isiM, a_negX, a_intD, a_ptM, a_slX, a_slM, a_own, a_mtX, a_extX, a_popX, a_isOwn, a_isOwnd, a_isOwnn, a_ext, a_lstOf, a_lstM, a_tupOf, a_tupM, a_sq1, a_sq2, a_itX, a_it1, a_it2, a_it3, a_rngX, a_fmtX, a_fmtM, a_js0, a_js1, a_strD, a_own1, a_iniX, a_iniM, a_fldM, a_isEM, a_lcX, a_callX, w_call, w_okC, w_fval, w_fex, w_qE, w_qL, a_as0, a_asv, a_ass, a_argd, a_argl, a_ln0, a_lnv, a_lns, a_ll0, a_lld, a_lls, a_pl0, a_pl1, a_setL, a_omap, w_pSnx, w_pSrt, w_pSbk, w_pSct, w_pSex, w_skip, w_seq, w_onx, w_ort, w_obk, w_oct, w_oex, w_obad, w_oite, w_oite, w_on, w_set, w_kSet, a_csn, a_csd, a_csl, a_csx, a_slOd, a_slOl, w_kAs, w_kAsg, w_asg, w_kIf, w_if, w_ret, w_kDr, w_drop, w_raise, w_kFor, w_for, w_for0, w_pLnx, w_pLct, w_pLbk, w_pLrt, w_pLex, w_loop, w_kWt, w_kWf, w_kWd, w_kTt, w_kTf, w_try, w_pTnx, w_pTrt, w_pTbk, w_pTct, w_pTex, w_pk0, w_pk1, w_noEx, w_pNnx, w_pNrt, w_pNex, w_map, w_pMnx, w_pMrt, w_gO, w_gN, w_qB, w_pEnx, w_pErt, w_pEex, w_run, a_bk0, a_bkd, a_bkl, a_rho0, a_pind, a_pinl, a_nmG, a_nilG, a_consG, a_tupG, a_asgIx, a_setIx, a_augS, a_wp0, a_wp1, a_bR0, a_bR1, a_kd1, a_kd0, a_kdl, List.getElem?_cons_zero, List.getElem?_cons_succ, List.getElem?_nil, List.set_cons_zero, List.set_cons_succ, List.length_cons, List.length_nil, List.map_cons, List.map_nil, List.nil_append, List.cons_append, List.replicate_succ, List.replicate_zero, if_true, if_false, eq_self, decide_eq_true_eq, Bool.false_eq_true, and_true, true_and, Option.map_some, Option.map_none, not_true_eq_false, not_false_eq_true, forall_const, false_implies, true_implies, Nat.reduceAdd, Nat.reduceSub, Nat.reduceLeDiff, Nat.reduceLT, List.nodup_nil, List.nodup_cons, List.not_mem_nil, Bool.not_eq_true, decide_true, decide_false, Bool.not_true, Bool.not_false, reduceIte, reduceCtorEq, Nat.zero_add, gx, g3]
      · have hlen : acc.length + ((tksF x.t (.int (0 + (j : Int))) 0).map fun z => PyData.tuple [z, x.d]).length ≤ 1000000 := by rw [List.length_map]; omega
        have ea : acc ++ ((tksF x.t (.int (0 + (j : Int))) 0).map fun z => PyData.tuple [z, x.d]) = addT x j acc := by rw [Int.zero_add]; rfl
        simp only [w_ok, w_ex, w_bad, w_pure, w_lsome, w_lnone, w_lite, w_ite, w_iteR, w_bind, w_kB, a_nmX, a_nmO, a_nmT, a_valO, a_bop, a_opM, a_rdv, a_rds, a_sd, a_sl, a_tst, a_boolD, a_tru, a_truM, a_andB, a_orB, a_notB, a_andX, a_orX, a_notX, a_ifX, a_caX, a_caM, a_rdsn, a_rdsc, a_consR, a_consM, a_tupX, a_lstX, a_ownX, a_badM, a_tmD, a_frzM, a_frzd, a_frzl, a_isiX, a_isiM, a_negX, a_intD, a_ptM, a_slX, a_slM, a_own, a_mtX, a_extX, a_popX, a_isOwn, a_isOwnd, a_isOwnn, a_ext, a_lstOf, a_lstM, a_tupOf, a_tupM, a_sq1, a_sq2, a_itX, a_it1, a_it2, a_it3, a_rngX, a_fmtX, a_fmtM, a_js0, a_js1, a_strD, a_own1, a_iniX, a_iniM, a_fldM, a_isEM, a_lcX, a_callX, w_call, w_okC, w_fval, w_fex, w_qE, w_qL, a_as0, a_asv, a_ass, a_argd, a_argl, a_ln0, a_lnv, a_lns, a_ll0, a_lld, a_lls, a_pl0, a_pl1, a_setL, a_omap, w_pSnx, w_pSrt, w_pSbk, w_pSct, w_pSex, w_skip, w_seq, w_onx, w_ort, w_obk, w_oct, w_oex, w_obad, w_oite, w_oite, w_on, w_set, w_kSet, a_csn, a_csd, a_csl, a_csx, a_slOd, a_slOl, w_kAs, w_kAsg, w_asg, w_kIf, w_if, w_ret, w_kDr, w_drop, w_raise, w_kFor, w_for, w_for0, w_pLnx, w_pLct, w_pLbk, w_pLrt, w_pLex, w_loop, w_kWt, w_kWf, w_kWd, w_kTt, w_kTf, w_try, w_pTnx, w_pTrt, w_pTbk, w_pTct, w_pTex, w_pk0, w_pk1, w_noEx, w_pNnx, w_pNrt, w_pNex, w_map, w_pMnx, w_pMrt, w_gO, w_gN, w_qB, w_pEnx, w_pErt, w_pEex, w_run, a_bk0, a_bkd, a_bkl, a_rho0, a_pind, a_pinl, a_nmG, a_nilG, a_consG, a_tupG, a_asgIx, a_setIx, a_augS, a_wp0, a_wp1, a_bR0, a_bR1, a_kd1, a_kd0, a_kdl, List.getElem?_cons_zero, List.getElem?_cons_succ, List.getElem?_nil, List.set_cons_zero, List.set_cons_succ, List.length_cons, List.length_nil, List.map_cons, List.map_nil, List.nil_append, List.cons_append, List.replicate_succ, List.replicate_zero, if_true, if_false, eq_self, decide_eq_true_eq, Bool.false_eq_true, and_true, true_and, Option.map_some, Option.map_none, not_true_eq_false, not_false_eq_true, forall_const, false_implies, true_implies, Nat.reduceAdd, Nat.reduceSub, Nat.reduceLeDiff, Nat.reduceLT, List.nodup_nil, List.nodup_cons, List.not_mem_nil, Bool.not_eq_true, decide_true, decide_false, Bool.not_true, Bool.not_false, reduceIte, reduceCtorEq, Nat.zero_add, hlen, ea, len_lst, gtD_int]
        have l24 : ((24 : Int) < ((addT x j acc).length : Int)) ↔ 24 < (addT x j acc).length := by omega
        by_cases hm : 24 < (addT x j acc).length
        · rw [if_pos hm] at h4
          simp only [w_ok, w_ex, w_bad, w_pure, w_lsome, w_lnone, w_lite, w_ite, w_iteR, w_bind, w_kB, a_nmX, a_nmO, a_nmT, a_valO, a_bop, a_opM, a_rdv, a_rds, a_sd, a_sl, a_tst, a_boolD, a_tru, a_truM, a_andB, a_orB, a_notB, a_andX, a_orX, a_notX, a_ifX, a_caX, a_caM, a_rdsn, a_rdsc, a_consR, a_consM, a_tupX, a_lstX, a_ownX, a_badM, a_tmD, a_frzM, a_frzd, a_frzl, a_isiX, a_isiM, a_negX, a_intD, a_ptM, a_slX, a_slM, a_own, a_mtX, a_extX, a_popX, a_isOwn, a_isOwnd, a_isOwnn, a_ext, a_lstOf, a_lstM, a_tupOf, a_tupM, a_sq1, a_sq2, a_itX, a_it1, a_it2, a_it3, a_rngX, a_fmtX, a_fmtM, a_js0, a_js1, a_strD, a_own1, a_iniX, a_iniM, a_fldM, a_isEM, a_lcX, a_callX, w_call, w_okC, w_fval, w_fex, w_qE, w_qL, a_as0, a_asv, a_ass, a_argd, a_argl, a_ln0, a_lnv, a_lns, a_ll0, a_lld, a_lls, a_pl0, a_pl1, a_setL, a_omap, w_pSnx, w_pSrt, w_pSbk, w_pSct, w_pSex, w_skip, w_seq, w_onx, w_ort, w_obk, w_oct, w_oex, w_obad, w_oite, w_oite, w_on, w_set, w_kSet, a_csn, a_csd, a_csl, a_csx, a_slOd, a_slOl, w_kAs, w_kAsg, w_asg, w_kIf, w_if, w_ret, w_kDr, w_drop, w_raise, w_kFor, w_for, w_for0, w_pLnx, w_pLct, w_pLbk, w_pLrt, w_pLex, w_loop, w_kWt, w_kWf, w_kWd, w_kTt, w_kTf, w_try, w_pTnx, w_pTrt, w_pTbk, w_pTct, w_pTex, w_pk0, w_pk1, w_noEx, w_pNnx, w_pNrt, w_pNex, w_map, w_pMnx, w_pMrt, w_gO, w_gN, w_qB, w_pEnx, w_pErt, w_pEex, w_run, a_bk0, a_bkd, a_bkl, a_rho0, a_pind, a_pinl, a_nmG, a_nilG, a_consG, a_tupG, a_asgIx, a_setIx, a_augS, a_wp0, a_wp1, a_bR0, a_bR1, a_kd1, a_kd0, a_kdl, List.getElem?_cons_zero, List.getElem?_cons_succ, List.getElem?_nil, List.set_cons_zero, List.set_cons_succ, List.length_cons, List.length_nil, List.map_cons, List.map_nil, List.nil_append, List.cons_append, List.replicate_succ, List.replicate_zero, if_true, if_false, eq_self, decide_eq_true_eq, Bool.false_eq_true, and_true, true_and, Option.map_some, Option.map_none, not_true_eq_false, not_false_eq_true, forall_const, false_implies, true_implies, Nat.reduceAdd, Nat.reduceSub, Nat.reduceLeDiff, Nat.reduceLT, List.nodup_nil, List.nodup_cons, List.not_mem_nil, Bool.not_eq_true, decide_true, decide_false, Bool.not_true, Bool.not_false, reduceIte, reduceCtorEq, Nat.zero_add, l24, hm]
          rw [← h4]
          rfl
        · rw [if_neg hm] at h4
          simp only [w_ok, w_ex, w_bad, w_pure, w_lsome, w_lnone, w_lite, w_ite, w_iteR, w_bind, w_kB, a_nmX, a_nmO, a_nmT, a_valO, a_bop, a_opM, a_rdv, a_rds, a_sd, a_sl, a_tst, a_boolD, a_tru, a_truM, a_andB, a_orB, a_notB, a_andX, a_orX, a_notX, a_ifX, a_caX, a_caM, a_rdsn, a_rdsc, a_consR, a_consM, a_tupX, a_lstX, a_ownX, a_badM, a_tmD, a_frzM, a_frzd, a_frzl, a_isiX, a_isiM, a_negX, a_intD, a_ptM, a_slX, a_slM, a_own, a_mtX, a_extX, a_popX, a_isOwn, a_isOwnd, a_isOwnn, a_ext, a_lstOf, a_lstM, a_tupOf, a_tupM, a_sq1, a_sq2, a_itX, a_it1, a_it2, a_it3, a_rngX, a_fmtX, a_fmtM, a_js0, a_js1, a_strD, a_own1, a_iniX, a_iniM, a_fldM, a_isEM, a_lcX, a_callX, w_call, w_okC, w_fval, w_fex, w_qE, w_qL, a_as0, a_asv, a_ass, a_argd, a_argl, a_ln0, a_lnv, a_lns, a_ll0, a_lld, a_lls, a_pl0, a_pl1, a_setL, a_omap, w_pSnx, w_pSrt, w_pSbk, w_pSct, w_pSex, w_skip, w_seq, w_onx, w_ort, w_obk, w_oct, w_oex, w_obad, w_oite, w_oite, w_on, w_set, w_kSet, a_csn, a_csd, a_csl, a_csx, a_slOd, a_slOl, w_kAs, w_kAsg, w_asg, w_kIf, w_if, w_ret, w_kDr, w_drop, w_raise, w_kFor, w_for, w_for0, w_pLnx, w_pLct, w_pLbk, w_pLrt, w_pLex, w_loop, w_kWt, w_kWf, w_kWd, w_kTt, w_kTf, w_try, w_pTnx, w_pTrt, w_pTbk, w_pTct, w_pTex, w_pk0, w_pk1, w_noEx, w_pNnx, w_pNrt, w_pNex, w_map, w_pMnx, w_pMrt, w_gO, w_gN, w_qB, w_pEnx, w_pErt, w_pEex, w_run, a_bk0, a_bkd, a_bkl, a_rho0, a_pind, a_pinl, a_nmG, a_nilG, a_consG, a_tupG, a_asgIx, a_setIx, a_augS, a_wp0, a_wp1, a_bR0, a_bR1, a_kd1, a_kd0, a_kdl, List.getElem?_cons_zero, List.getElem?_cons_succ, List.getElem?_nil, List.set_cons_zero, List.set_cons_succ, List.length_cons, List.length_nil, List.map_cons, List.map_nil, List.nil_append, List.cons_append, List.replicate_succ, List.replicate_zero, if_true, if_false, eq_self, decide_eq_true_eq, Bool.false_eq_true, and_true, true_and, Option.map_some, Option.map_none, not_true_eq_false, not_false_eq_true, forall_const, false_implies, true_implies, Nat.reduceAdd, Nat.reduceSub, Nat.reduceLeDiff, Nat.reduceLT, List.nodup_nil, List.nodup_cons, List.not_mem_nil, Bool.not_eq_true, decide_true, decide_false, Bool.not_true, Bool.not_false, reduceIte, reduceCtorEq, Nat.zero_add, l24, hm]
          exact ⟨addT x j acc, _, _, h4, by omega, rfl, rfl, rfl⟩
end EV

namespace EV
open PySem PySem.Spec PyProof.Rows L2 Ver
def bitsD (a b c d : Bool) : List Sl := [.d (.list [.bool a, .bool b, .bool c, .bool d]), .d (.int 0)]
def dgm (a b c d : Bool) : D := match F_law_diagram 4 (bitsD a b c d) with
  | .val t _ => frzT t
  | _ => .none
def isDg (x : D) : Bool := match x with
  | .bool _ => true
  | .tuple [_, _, _] => true
  | _ => false
def tmOf (x : D) : Tm := .d x
theorem dg_spec (a b c d : Bool) : F_law_diagram 4 (bitsD a b c d) = .val (.d (dgm a b c d)) (bitsD a b c d) := by
  cases a <;> cases b <;> cases c <;> cases d <;> rfl
def Dg (x : D) : Prop := ∃ a b c d, x = dgm a b c d
theorem dg_sh {x : D} (h : Dg x) : Sh 4 x := by
  obtain ⟨a, b, c, d, rfl⟩ := h
  cases a <;> cases b <;> cases c <;> cases d <;> exact ⟨by decide, by decide⟩
def sel (one two : Bool) (a b c d : Bool) : Bool := if one then (if two then d else c) else if two then b else a
def confD (one two : Bool) : D := .tuple [.int (if one then 1 else 0), .int (if two then 1 else 0)]
theorem holds_spec {x : D} (h : Dg x) (one two : Bool) : ∃ v : Bool, Fholds [.d x, .d (confD one two)] = .val (.d (.bool v)) [.d x, .d (confD one two)] ∧ F_law_at [.d x, .d (confD one two)] = .val (.d (.bool v)) [.d x, .d (confD one two)] := by
  obtain ⟨a, b, c, d, rfl⟩ := h
  refine ⟨sel one two a b c d, ?_, ?_⟩ <;> cases a <;> cases b <;> cases c <;> cases d <;> cases one <;> cases two <;> rfl
theorem isNot_spec {x : D} (h : Dg x) : ∃ b, isNotD x (.bool false) = some (.bool b) := by
  obtain ⟨a, b, c, d, rfl⟩ := h
  cases a <;> cases b <;> cases c <;> cases d <;> exact ⟨_, rfl⟩
end EV

namespace EV
open PySem PySem.Spec PyProof.Rows L2 Ver
def valB (one two : Bool) (x : D) : Bool := match F_law_at [.d x, .d (confD one two)] with
  | .val (.d (.bool v)) _ => v
  | _ => false
theorem at_spec {x : D} (h : Dg x) (one two : Bool) : F_law_at [.d x, .d (confD one two)] = .val (.d (.bool (valB one two x))) [.d x, .d (confD one two)] := by
  obtain ⟨v, h1, h2⟩ := holds_spec h one two
  unfold valB
  rw [h2]
theorem holds_eq {x : D} (h : Dg x) (one two : Bool) : Fholds [.d x, .d (confD one two)] = .val (.d (.bool (valB one two x))) [.d x, .d (confD one two)] := by
  obtain ⟨v, h1, h2⟩ := holds_spec h one two
  unfold valB
  rw [h1, h2]
/-- the folded tokens: pairs of a token and a diagram -/
def Pr (y : D) : Prop := ∃ z d, y = .tuple [z, d] ∧ Dg d
def sndD : D → D
  | .tuple [_, d] => d
  | _ => .none
def shownFrom (one two : Bool) (k : Nat) : List D → List D
  | [] => []
  | y :: r => if valB one two (sndD y) = true then .int k :: shownFrom one two (k + 1) r else shownFrom one two (k + 1) r
theorem shown_len {one two : Bool} : ∀ {l : List D} {k : Nat}, (shownFrom one two k l).length ≤ l.length
  | [], k => Nat.le_refl _
  | y :: r, k => by
    have := shown_len (one := one) (two := two) (l := r) (k := k + 1)
    unfold shownFrom
    split
    · rw [List.length_cons, List.length_cons]; omega
    · rw [List.length_cons]; omega
theorem present_spec {l : List D} (hl : ∀ y ∈ l, Pr y) (hn : l.length < 1000) (one two : Bool) : Fpresent [.d (.list l), .d (confD one two)] = .val (.l (shownFrom one two 0 l)) [.d (.list l), .d (confD one two)] := by
  apply okF_eq
  unfold Fpresent
  rw [w_run]
  unfold Bpresent
  simp only [w_ok, w_ex, w_bad, w_pure, w_lsome, w_lnone, w_lite, w_ite, w_iteR, w_bind, w_kB, a_nmX, a_nmO, a_nmT, a_valO, a_bop, a_opM, a_rdv, a_rds, a_sd, a_sl, a_tst, a_boolD, a_tru, a_truM, a_andB, a_orB, a_notB, a_andX, a_orX, a_notX, a_ifX, a_caX, a_caM, a_rdsn, a_rdsc, a_consR, a_consM, a_tupX, a_lstX, a_ownX, a_badM, a_tmD, a_frzM, a_frzd, a_frzl, a_isiX, a_isiM, a_negX, a_intD, a_ptM, a_slX, a_slM, a_own, a_mtX, a_extX, a_popX, a_isOwn, a_isOwnd, a_isOwnn, a_ext, a_lstOf, a_lstM, a_tupOf, a_tupM, a_sq1, a_sq2, a_itX, a_it1, a_it2, a_it3, a_rngX, a_fmtX, a_fmtM, a_js0, a_js1, a_strD, a_own1, a_iniX, a_iniM, a_fldM, a_isEM, a_lcX, a_callX, w_call, w_okC, w_fval, w_fex, w_qE, w_qL, a_as0, a_asv, a_ass, a_argd, a_argl, a_ln0, a_lnv, a_lns, a_ll0, a_lld, a_lls, a_pl0, a_pl1, a_setL, a_omap, w_pSnx, w_pSrt, w_pSbk, w_pSct, w_pSex, w_skip, w_seq, w_onx, w_ort, w_obk, w_oct, w_oex, w_obad, w_oite, w_oite, w_on, w_set, w_kSet, a_csn, a_csd, a_csl, a_csx, a_slOd, a_slOl, w_kAs, w_kAsg, w_asg, w_kIf, w_if, w_ret, w_kDr, w_drop, w_raise, w_kFor, w_for, w_for0, w_pLnx, w_pLct, w_pLbk, w_pLrt, w_pLex, w_loop, w_kWt, w_kWf, w_kWd, w_kTt, w_kTf, w_try, w_pTnx, w_pTrt, w_pTbk, w_pTct, w_pTex, w_pk0, w_pk1, w_noEx, w_pNnx, w_pNrt, w_pNex, w_map, w_pMnx, w_pMrt, w_gO, w_gN, w_qB, w_pEnx, w_pErt, w_pEex, w_run, a_bk0, a_bkd, a_bkl, a_rho0, a_pind, a_pinl, a_nmG, a_nilG, a_consG, a_tupG, a_asgIx, a_setIx, a_augS, a_wp0, a_wp1, a_bR0, a_bR1, a_kd1, a_kd0, a_kdl, List.getElem?_cons_zero, List.getElem?_cons_succ, List.getElem?_nil, List.set_cons_zero, List.set_cons_succ, List.length_cons, List.length_nil, List.map_cons, List.map_nil, List.nil_append, List.cons_append, List.replicate_succ, List.replicate_zero, if_true, if_false, eq_self, decide_eq_true_eq, Bool.false_eq_true, and_true, true_and, Option.map_some, Option.map_none, not_true_eq_false, not_false_eq_true, forall_const, false_implies, true_implies, Nat.reduceAdd, Nat.reduceSub, Nat.reduceLeDiff, Nat.reduceLT, List.nodup_nil, List.nodup_cons, List.not_mem_nil, Bool.not_eq_true, decide_true, decide_false, Bool.not_true, Bool.not_false, reduceIte, reduceCtorEq, Nat.zero_add, enumD_eq, pairs0_from]
  refine lc_inv (fun r acc ρ => ∃ (k : Nat) (rest : List D) (e2 e3 e4 : Option Sl), r = pairsFrom k rest ∧ (∀ y ∈ rest, Pr y) ∧ acc ++ shownFrom one two k rest = shownFrom one two 0 l ∧ ρ = [some (.d (.list l)), some (.d (confD one two)), e2, e3, e4]) ?_ ?_ ⟨0, l, none, none, none, rfl, hl, rfl, rfl⟩
  · rintro acc ρ ⟨k, rest, e2, e3, e4, h1, h2, h3, rfl⟩
    cases rest with
    | cons _ _ => cases h1
    | nil =>
      rw [shownFrom, List.append_nil] at h3
      simp only [w_ok, w_ex, w_bad, w_pure, w_lsome, w_lnone, w_lite, w_ite, w_iteR, w_bind, w_kB, a_nmX, a_nmO, a_nmT, a_valO, a_bop, a_opM, a_rdv, a_rds, a_sd, a_sl, a_tst, a_boolD, a_tru, a_truM, a_andB, a_orB, a_notB, a_andX, a_orX, a_notX, a_ifX, a_caX, a_caM, a_rdsn, a_rdsc, a_consR, a_consM, a_tupX, a_lstX, a_ownX, a_badM, a_tmD, a_frzM, a_frzd, a_frzl, a_isiX, a_isiM, a_negX, a_intD, a_ptM, a_slX, a_slM, a_own, a_mtX, a_extX, a_popX, a_isOwn, a_isOwnd, a_isOwnn, a_ext, a_lstOf, a_lstM, a_tupOf, a_tupM, a_sq1, a_sq2, a_itX, a_it1, a_it2, a_it3, a_rngX, a_fmtX, a_fmtM, a_js0, a_js1, a_strD, a_own1, a_iniX, a_iniM, a_fldM, a_isEM, a_lcX, a_callX, w_call, w_okC, w_fval, w_fex, w_qE, w_qL, a_as0, a_asv, a_ass, a_argd, a_argl, a_ln0, a_lnv, a_lns, a_ll0, a_lld, a_lls, a_pl0, a_pl1, a_setL, a_omap, w_pSnx, w_pSrt, w_pSbk, w_pSct, w_pSex, w_skip, w_seq, w_onx, w_ort, w_obk, w_oct, w_oex, w_obad, w_oite, w_oite, w_on, w_set, w_kSet, a_csn, a_csd, a_csl, a_csx, a_slOd, a_slOl, w_kAs, w_kAsg, w_asg, w_kIf, w_if, w_ret, w_kDr, w_drop, w_raise, w_kFor, w_for, w_for0, w_pLnx, w_pLct, w_pLbk, w_pLrt, w_pLex, w_loop, w_kWt, w_kWf, w_kWd, w_kTt, w_kTf, w_try, w_pTnx, w_pTrt, w_pTbk, w_pTct, w_pTex, w_pk0, w_pk1, w_noEx, w_pNnx, w_pNrt, w_pNex, w_map, w_pMnx, w_pMrt, w_gO, w_gN, w_qB, w_pEnx, w_pErt, w_pEex, w_run, a_bk0, a_bkd, a_bkl, a_rho0, a_pind, a_pinl, a_nmG, a_nilG, a_consG, a_tupG, a_asgIx, a_setIx, a_augS, a_wp0, a_wp1, a_bR0, a_bR1, a_kd1, a_kd0, a_kdl, List.getElem?_cons_zero, List.getElem?_cons_succ, List.getElem?_nil, List.set_cons_zero, List.set_cons_succ, List.length_cons, List.length_nil, List.map_cons, List.map_nil, List.nil_append, List.cons_append, List.replicate_succ, List.replicate_zero, if_true, if_false, eq_self, decide_eq_true_eq, Bool.false_eq_true, and_true, true_and, Option.map_some, Option.map_none, not_true_eq_false, not_false_eq_true, forall_const, false_implies, true_implies, Nat.reduceAdd, Nat.reduceSub, Nat.reduceLeDiff, Nat.reduceLT, List.nodup_nil, List.nodup_cons, List.not_mem_nil, Bool.not_eq_true, decide_true, decide_false, Bool.not_true, Bool.not_false, reduceIte, reduceCtorEq, Nat.zero_add, h3]
  · rintro d r acc ρ ⟨k, rest, e2, e3, e4, h1, h2, h3, rfl⟩
    cases rest with
    | nil => cases h1
    | cons y rest =>
      rw [pairsFrom] at h1
      cases h1
      obtain ⟨z, d, rfl, hd⟩ := h2 y List.mem_cons_self
      have he := holds_eq hd one two
      have hs : sndD (.tuple [z, d]) = d := rfl
      have al : acc.length < 1000000 := by
        have e1 := congrArg List.length h3
        have e2 := @shown_len one two l 0
        rw [List.length_append] at e1
        omega
      refine ⟨[some (.d (.list l)), some (.d (confD one two)), some (.d z), some (.d d), some (.d (.int k))], rfl, ?_⟩
      simp only [w_ok, w_ex, w_bad, w_pure, w_lsome, w_lnone, w_lite, w_ite, w_iteR, w_bind, w_kB, a_nmX, a_nmO, a_nmT, a_valO, a_bop, a_opM, a_rdv, a_rds, a_sd, a_sl, a_tst, a_boolD, a_tru, a_truM, a_andB, a_orB, a_notB, a_andX, a_orX, a_notX, a_ifX, a_caX, a_caM, a_rdsn, a_rdsc, a_consR, a_consM, a_tupX, a_lstX, a_ownX, a_badM, a_tmD, a_frzM, a_frzd, a_frzl, a_isiX, a_isiM, a_negX, a_intD, a_ptM, a_slX, a_slM, a_own, a_mtX, a_extX, a_popX, a_isOwn, a_isOwnd, a_isOwnn, a_ext, a_lstOf, a_lstM, a_tupOf, a_tupM, a_sq1, a_sq2, a_itX, a_it1, a_it2, a_it3, a_rngX, a_fmtX, a_fmtM, a_js0, a_js1, a_strD, a_own1, a_iniX, a_iniM, a_fldM, a_isEM, a_lcX, a_callX, w_call, w_okC, w_fval, w_fex, w_qE, w_qL, a_as0, a_asv, a_ass, a_argd, a_argl, a_ln0, a_lnv, a_lns, a_ll0, a_lld, a_lls, a_pl0, a_pl1, a_setL, a_omap, w_pSnx, w_pSrt, w_pSbk, w_pSct, w_pSex, w_skip, w_seq, w_onx, w_ort, w_obk, w_oct, w_oex, w_obad, w_oite, w_oite, w_on, w_set, w_kSet, a_csn, a_csd, a_csl, a_csx, a_slOd, a_slOl, w_kAs, w_kAsg, w_asg, w_kIf, w_if, w_ret, w_kDr, w_drop, w_raise, w_kFor, w_for, w_for0, w_pLnx, w_pLct, w_pLbk, w_pLrt, w_pLex, w_loop, w_kWt, w_kWf, w_kWd, w_kTt, w_kTf, w_try, w_pTnx, w_pTrt, w_pTbk, w_pTct, w_pTex, w_pk0, w_pk1, w_noEx, w_pNnx, w_pNrt, w_pNex, w_map, w_pMnx, w_pMrt, w_gO, w_gN, w_qB, w_pEnx, w_pErt, w_pEex, w_run, a_bk0, a_bkd, a_bkl, a_rho0, a_pind, a_pinl, a_nmG, a_nilG, a_consG, a_tupG, a_asgIx, a_setIx, a_augS, a_wp0, a_wp1, a_bR0, a_bR1, a_kd1, a_kd0, a_kdl, List.getElem?_cons_zero, List.getElem?_cons_succ, List.getElem?_nil, List.set_cons_zero, List.set_cons_succ, List.length_cons, List.length_nil, List.map_cons, List.map_nil, List.nil_append, List.cons_append, List.replicate_succ, List.replicate_zero, if_true, if_false, eq_self, decide_eq_true_eq, Bool.false_eq_true, and_true, true_and, Option.map_some, Option.map_none, not_true_eq_false, not_false_eq_true, forall_const, false_implies, true_implies, Nat.reduceAdd, Nat.reduceSub, Nat.reduceLeDiff, Nat.reduceLT, List.nodup_nil, List.nodup_cons, List.not_mem_nil, Bool.not_eq_true, decide_true, decide_false, Bool.not_true, Bool.not_false, reduceIte, reduceCtorEq, Nat.zero_add, he, tru_bool]
      rw [shownFrom, hs] at h3
      cases hv : valB one two d with
      | true =>
        rw [hv, if_pos rfl] at h3
        simp only [w_ok, w_ex, w_bad, w_pure, w_lsome, w_lnone, w_lite, w_ite, w_iteR, w_bind, w_kB, a_nmX, a_nmO, a_nmT, a_valO, a_bop, a_opM, a_rdv, a_rds, a_sd, a_sl, a_tst, a_boolD, a_tru, a_truM, a_andB, a_orB, a_notB, a_andX, a_orX, a_notX, a_ifX, a_caX, a_caM, a_rdsn, a_rdsc, a_consR, a_consM, a_tupX, a_lstX, a_ownX, a_badM, a_tmD, a_frzM, a_frzd, a_frzl, a_isiX, a_isiM, a_negX, a_intD, a_ptM, a_slX, a_slM, a_own, a_mtX, a_extX, a_popX, a_isOwn, a_isOwnd, a_isOwnn, a_ext, a_lstOf, a_lstM, a_tupOf, a_tupM, a_sq1, a_sq2, a_itX, a_it1, a_it2, a_it3, a_rngX, a_fmtX, a_fmtM, a_js0, a_js1, a_strD, a_own1, a_iniX, a_iniM, a_fldM, a_isEM, a_lcX, a_callX, w_call, w_okC, w_fval, w_fex, w_qE, w_qL, a_as0, a_asv, a_ass, a_argd, a_argl, a_ln0, a_lnv, a_lns, a_ll0, a_lld, a_lls, a_pl0, a_pl1, a_setL, a_omap, w_pSnx, w_pSrt, w_pSbk, w_pSct, w_pSex, w_skip, w_seq, w_onx, w_ort, w_obk, w_oct, w_oex, w_obad, w_oite, w_oite, w_on, w_set, w_kSet, a_csn, a_csd, a_csl, a_csx, a_slOd, a_slOl, w_kAs, w_kAsg, w_asg, w_kIf, w_if, w_ret, w_kDr, w_drop, w_raise, w_kFor, w_for, w_for0, w_pLnx, w_pLct, w_pLbk, w_pLrt, w_pLex, w_loop, w_kWt, w_kWf, w_kWd, w_kTt, w_kTf, w_try, w_pTnx, w_pTrt, w_pTbk, w_pTct, w_pTex, w_pk0, w_pk1, w_noEx, w_pNnx, w_pNrt, w_pNex, w_map, w_pMnx, w_pMrt, w_gO, w_gN, w_qB, w_pEnx, w_pErt, w_pEex, w_run, a_bk0, a_bkd, a_bkl, a_rho0, a_pind, a_pinl, a_nmG, a_nilG, a_consG, a_tupG, a_asgIx, a_setIx, a_augS, a_wp0, a_wp1, a_bR0, a_bR1, a_kd1, a_kd0, a_kdl, List.getElem?_cons_zero, List.getElem?_cons_succ, List.getElem?_nil, List.set_cons_zero, List.set_cons_succ, List.length_cons, List.length_nil, List.map_cons, List.map_nil, List.nil_append, List.cons_append, List.replicate_succ, List.replicate_zero, if_true, if_false, eq_self, decide_eq_true_eq, Bool.false_eq_true, and_true, true_and, Option.map_some, Option.map_none, not_true_eq_false, not_false_eq_true, forall_const, false_implies, true_implies, Nat.reduceAdd, Nat.reduceSub, Nat.reduceLeDiff, Nat.reduceLT, List.nodup_nil, List.nodup_cons, List.not_mem_nil, Bool.not_eq_true, decide_true, decide_false, Bool.not_true, Bool.not_false, reduceIte, reduceCtorEq, Nat.zero_add]
        exact ⟨al, k + 1, rest, _, _, _, rfl, fun y hy => h2 y (List.mem_cons_of_mem _ hy), by rw [List.append_assoc]; exact h3, rfl⟩
      | false =>
        rw [hv, if_neg (by decide)] at h3
        simp only [w_ok, w_ex, w_bad, w_pure, w_lsome, w_lnone, w_lite, w_ite, w_iteR, w_bind, w_kB, a_nmX, a_nmO, a_nmT, a_valO, a_bop, a_opM, a_rdv, a_rds, a_sd, a_sl, a_tst, a_boolD, a_tru, a_truM, a_andB, a_orB, a_notB, a_andX, a_orX, a_notX, a_ifX, a_caX, a_caM, a_rdsn, a_rdsc, a_consR, a_consM, a_tupX, a_lstX, a_ownX, a_badM, a_tmD, a_frzM, a_frzd, a_frzl, a_isiX, a_isiM, a_negX, a_intD, a_ptM, a_slX, a_slM, a_own, a_mtX, a_extX, a_popX, a_isOwn, a_isOwnd, a_isOwnn, a_ext, a_lstOf, a_lstM, a_tupOf, a_tupM, a_sq1, a_sq2, a_itX, a_it1, a_it2, a_it3, a_rngX, a_fmtX, a_fmtM, a_js0, a_js1, a_strD, a_own1, a_iniX, a_iniM, a_fldM, a_isEM, a_lcX, a_callX, w_call, w_okC, w_fval, w_fex, w_qE, w_qL, a_as0, a_asv, a_ass, a_argd, a_argl, a_ln0, a_lnv, a_lns, a_ll0, a_lld, a_lls, a_pl0, a_pl1, a_setL, a_omap, w_pSnx, w_pSrt, w_pSbk, w_pSct, w_pSex, w_skip, w_seq, w_onx, w_ort, w_obk, w_oct, w_oex, w_obad, w_oite, w_oite, w_on, w_set, w_kSet, a_csn, a_csd, a_csl, a_csx, a_slOd, a_slOl, w_kAs, w_kAsg, w_asg, w_kIf, w_if, w_ret, w_kDr, w_drop, w_raise, w_kFor, w_for, w_for0, w_pLnx, w_pLct, w_pLbk, w_pLrt, w_pLex, w_loop, w_kWt, w_kWf, w_kWd, w_kTt, w_kTf, w_try, w_pTnx, w_pTrt, w_pTbk, w_pTct, w_pTex, w_pk0, w_pk1, w_noEx, w_pNnx, w_pNrt, w_pNex, w_map, w_pMnx, w_pMrt, w_gO, w_gN, w_qB, w_pEnx, w_pErt, w_pEex, w_run, a_bk0, a_bkd, a_bkl, a_rho0, a_pind, a_pinl, a_nmG, a_nilG, a_consG, a_tupG, a_asgIx, a_setIx, a_augS, a_wp0, a_wp1, a_bR0, a_bR1, a_kd1, a_kd0, a_kdl, List.getElem?_cons_zero, List.getElem?_cons_succ, List.getElem?_nil, List.set_cons_zero, List.set_cons_succ, List.length_cons, List.length_nil, List.map_cons, List.map_nil, List.nil_append, List.cons_append, List.replicate_succ, List.replicate_zero, if_true, if_false, eq_self, decide_eq_true_eq, Bool.false_eq_true, and_true, true_and, Option.map_some, Option.map_none, not_true_eq_false, not_false_eq_true, forall_const, false_implies, true_implies, Nat.reduceAdd, Nat.reduceSub, Nat.reduceLeDiff, Nat.reduceLT, List.nodup_nil, List.nodup_cons, List.not_mem_nil, Bool.not_eq_true, decide_true, decide_false, Bool.not_true, Bool.not_false, reduceIte, reduceCtorEq, Nat.zero_add]
        exact ⟨k + 1, rest, _, _, _, rfl, fun y hy => h2 y (List.mem_cons_of_mem _ hy), h3, rfl⟩
/-! texts -/
def pcs : List Str := ["x", "a1B", "Zed", "7", "0012", "+", "-", "*", "/", "(", ")", "{", "}", ";", ",", "=", "<", ">", "!", ":", ".", "?", "&", "|", " ", "  "]
def bads : List Str := ["#", "_", "$", "[", "'", "@", "~", "^"]
def Tx (n : Nat) (t : Str) : Prop := t.length ≤ n ∧ SOk t
theorem tx_app {n m : Nat} {a b : Str} (h : Tx n a) (k : Tx m b) : Tx (n + m) (a ++ b) := ⟨by
  have : (a ++ b).length = a.length + b.length := Array.size_append
  have := h.1
  have := k.1
  omega, sok_app h.2 k.2⟩
theorem tx_mono {n m : Nat} {a : Str} (h : Tx n a) (k : n ≤ m) : Tx m a := ⟨Nat.le_trans h.1 k, h.2⟩
theorem tx_cut {n : Nat} {a : Str} (h : Tx n a) (lo hi : Option Int) : Tx n (cutS a lo hi) := ⟨by
  have := h.1
  have e : (cutS a lo hi).length ≤ a.length := by
    show (Array.size _) ≤ Array.size _
    unfold cutS
    rw [List.size_toArray, List.length_take, List.length_drop, Array.length_toList]
    omega
  omega, sok_cut h.2 lo hi⟩
theorem tx_pcs : ∀ s ∈ pcs, Tx 4 s := by
  have h : ∀ s ∈ pcs, s.length ≤ 4 ∧ PyData.strOk s = true := by decide +kernel
  exact fun s m => ⟨(h s m).1, sok_iff.mpr (h s m).2⟩
theorem tx_bads : ∀ s ∈ bads, Tx 1 s := by
  have h : ∀ s ∈ bads, s.length ≤ 1 ∧ PyData.strOk s = true := by decide +kernel
  exact fun s m => ⟨(h s m).1, sok_iff.mpr (h s m).2⟩
theorem tx_sp : Tx 1 (Str.ofString " ") := by
  have h : (Str.ofString " ").length ≤ 1 ∧ PyData.strOk (Str.ofString " ") = true := by decide +kernel
  exact ⟨h.1, sok_iff.mpr h.2⟩
theorem pick_str {L : List Str} {d : Int} (h0 : 0 ≤ d) (h1 : d < L.length) : ∃ s ∈ L, getD (.list (L.map .str)) (.int d) = some (.str s) := by
  obtain ⟨k, rfl⟩ : ∃ k : Nat, d = k := ⟨d.toNat, by omega⟩
  have hk : k < L.length := by omega
  exact ⟨L[k], List.getElem_mem hk, get_list (by rw [List.getElem?_map, List.getElem?_eq_getElem hk]; rfl)⟩
theorem law_text_spec {ds : List D} {q b : Bool} (h : TapeOk ds) : ∃ (t : Str) (ds' : List D), Tx 150 t ∧ TapeOk ds' ∧ F_law_text [.l q ds, .d (.bool b)] = .val (.d (.str t)) [.l q ds', .d (.bool b)] := by
  suffices hh : okF (fun tm as => ∃ (t : Str) (ds' : List D), Tx 150 t ∧ TapeOk ds' ∧ tm = .d (.str t) ∧ as = [.l q ds', .d (.bool b)]) noF (F_law_text [.l q ds, .d (.bool b)]) by
    obtain ⟨tm, as, e, t, ds', h1, h2, rfl, rfl⟩ := okF_val hh
    exact ⟨t, ds', h1, h2, e⟩
  have pe : [PyData.str "x", .str "a1B", .str "Zed", .str "7", .str "0012", .str "+", .str "-", .str "*", .str "/", .str "(", .str ")", .str "{", .str "}", .str ";", .str ",", .str "=", .str "<", .str ">", .str "!", .str ":", .str ".", .str "?", .str "&", .str "|", .str " ", .str "  "] = pcs.map .str := rfl
  have be : [PyData.str "#", .str "_", .str "$", .str "[", .str "'", .str "@", .str "~", .str "^"] = bads.map .str := rfl
  have pl : pcs.length = 26 := rfl
  have bl : bads.length = 8 := rfl
  have pl' : (pcs.map PyData.str).length ≤ 1000000 := by rw [List.length_map, pl]; decide
  have bl' : (bads.map PyData.str).length ≤ 1000000 := by rw [List.length_map, bl]; decide
  unfold F_law_text
  rw [w_run]
  unfold B_law_text
  obtain ⟨n, ds1, n0, n1, T1, e1⟩ := take_spec (q := true) (m := 13) h (by decide) (by decide)
  obtain ⟨n, rfl⟩ : ∃ k : Nat, n = k := ⟨n.toNat, by omega⟩
  have rn := rngN (n := n) (by omega)
  simp only [w_ok, w_ex, w_bad, w_pure, w_lsome, w_lnone, w_lite, w_ite, w_iteR, w_bind, w_kB, a_nmX, a_nmO, a_nmT, a_valO, a_bop, a_opM, a_rdv, a_rds, a_sd, a_sl, a_tst, a_boolD, a_tru, a_truM, a_andB, a_orB, a_notB, a_andX, a_orX, a_notX, a_ifX, a_caX, a_caM, a_rdsn, a_rdsc, a_consR, a_consM, a_tupX, a_lstX, a_ownX, a_badM, a_tmD, a_frzM, a_frzd, a_frzl, a_isiX, a_isiM, a_negX, a_intD, a_ptM, a_slX, a_slM, a_own, a_mtX, a_extX, a_popX, a_isOwn, a_isOwnd, a_isOwnn, a_ext, a_lstOf, a_lstM, a_tupOf, a_tupM, a_sq1, a_sq2, a_itX, a_it1, a_it2, a_it3, a_rngX, a_fmtX, a_fmtM, a_js0, a_js1, a_strD, a_own1, a_iniX, a_iniM, a_fldM, a_isEM, a_lcX, a_callX, w_call, w_okC, w_fval, w_fex, w_qE, w_qL, a_as0, a_asv, a_ass, a_argd, a_argl, a_ln0, a_lnv, a_lns, a_ll0, a_lld, a_lls, a_pl0, a_pl1, a_setL, a_omap, w_pSnx, w_pSrt, w_pSbk, w_pSct, w_pSex, w_skip, w_seq, w_onx, w_ort, w_obk, w_oct, w_oex, w_obad, w_oite, w_oite, w_on, w_set, w_kSet, a_csn, a_csd, a_csl, a_csx, a_slOd, a_slOl, w_kAs, w_kAsg, w_asg, w_kIf, w_if, w_ret, w_kDr, w_drop, w_raise, w_kFor, w_for, w_for0, w_pLnx, w_pLct, w_pLbk, w_pLrt, w_pLex, w_loop, w_kWt, w_kWf, w_kWd, w_kTt, w_kTf, w_try, w_pTnx, w_pTrt, w_pTbk, w_pTct, w_pTex, w_pk0, w_pk1, w_noEx, w_pNnx, w_pNrt, w_pNex, w_map, w_pMnx, w_pMrt, w_gO, w_gN, w_qB, w_pEnx, w_pErt, w_pEex, w_run, a_bk0, a_bkd, a_bkl, a_rho0, a_pind, a_pinl, a_nmG, a_nilG, a_consG, a_tupG, a_asgIx, a_setIx, a_augS, a_wp0, a_wp1, a_bR0, a_bR1, a_kd1, a_kd0, a_kdl, List.getElem?_cons_zero, List.getElem?_cons_succ, List.getElem?_nil, List.set_cons_zero, List.set_cons_succ, List.length_cons, List.length_nil, List.map_cons, List.map_nil, List.nil_append, List.cons_append, List.replicate_succ, List.replicate_zero, if_true, if_false, eq_self, decide_eq_true_eq, Bool.false_eq_true, and_true, true_and, Option.map_some, Option.map_none, not_true_eq_false, not_false_eq_true, forall_const, false_implies, true_implies, Nat.reduceAdd, Nat.reduceSub, Nat.reduceLeDiff, Nat.reduceLT, List.nodup_nil, List.nodup_cons, List.not_mem_nil, Bool.not_eq_true, decide_true, decide_false, Bool.not_true, Bool.not_false, reduceIte, reduceCtorEq, Nat.zero_add, e1, rn, pe, pl']
  have empty : Tx 0 (Str.ofString "") := by
    have h : (Str.ofString "").length ≤ 0 ∧ PyData.strOk (Str.ofString "") = true := by decide +kernel
    exact ⟨h.1, sok_iff.mpr h.2⟩
  refine for_rng (fun j ρ => ∃ (t : Str) (ds' : List D) (e3 : Option Sl), Tx (j * 5) t ∧ TapeOk ds' ∧ canSet (some e3) = true ∧ ρ = [some (.l true ds'), some (.d (.bool b)), none, e3, some (.l false (pcs.map .str)), some (.d (.str t))]) ⟨_, _, none, by rw [Nat.zero_mul]; exact empty, T1, rfl, rfl⟩ ?_ ?_
  · rintro ρ ⟨t, ds', e3, ht, hT, f3, rfl⟩
    have hlt : t.length ≤ 1000000 := by have := ht.1; omega
    have lt := len_str' hlt
    rw [cs_len] at lt
    cases b with
    | false =>
      simp only [w_ok, w_ex, w_bad, w_pure, w_lsome, w_lnone, w_lite, w_ite, w_iteR, w_bind, w_kB, a_nmX, a_nmO, a_nmT, a_valO, a_bop, a_opM, a_rdv, a_rds, a_sd, a_sl, a_tst, a_boolD, a_tru, a_truM, a_andB, a_orB, a_notB, a_andX, a_orX, a_notX, a_ifX, a_caX, a_caM, a_rdsn, a_rdsc, a_consR, a_consM, a_tupX, a_lstX, a_ownX, a_badM, a_tmD, a_frzM, a_frzd, a_frzl, a_isiX, a_isiM, a_negX, a_intD, a_ptM, a_slX, a_slM, a_own, a_mtX, a_extX, a_popX, a_isOwn, a_isOwnd, a_isOwnn, a_ext, a_lstOf, a_lstM, a_tupOf, a_tupM, a_sq1, a_sq2, a_itX, a_it1, a_it2, a_it3, a_rngX, a_fmtX, a_fmtM, a_js0, a_js1, a_strD, a_own1, a_iniX, a_iniM, a_fldM, a_isEM, a_lcX, a_callX, w_call, w_okC, w_fval, w_fex, w_qE, w_qL, a_as0, a_asv, a_ass, a_argd, a_argl, a_ln0, a_lnv, a_lns, a_ll0, a_lld, a_lls, a_pl0, a_pl1, a_setL, a_omap, w_pSnx, w_pSrt, w_pSbk, w_pSct, w_pSex, w_skip, w_seq, w_onx, w_ort, w_obk, w_oct, w_oex, w_obad, w_oite, w_oite, w_on, w_set, w_kSet, a_csn, a_csd, a_csl, a_csx, a_slOd, a_slOl, w_kAs, w_kAsg, w_asg, w_kIf, w_if, w_ret, w_kDr, w_drop, w_raise, w_kFor, w_for, w_for0, w_pLnx, w_pLct, w_pLbk, w_pLrt, w_pLex, w_loop, w_kWt, w_kWf, w_kWd, w_kTt, w_kTf, w_try, w_pTnx, w_pTrt, w_pTbk, w_pTct, w_pTex, w_pk0, w_pk1, w_noEx, w_pNnx, w_pNrt, w_pNex, w_map, w_pMnx, w_pMrt, w_gO, w_gN, w_qB, w_pEnx, w_pErt, w_pEex, w_run, a_bk0, a_bkd, a_bkl, a_rho0, a_pind, a_pinl, a_nmG, a_nilG, a_consG, a_tupG, a_asgIx, a_setIx, a_augS, a_wp0, a_wp1, a_bR0, a_bR1, a_kd1, a_kd0, a_kdl, List.getElem?_cons_zero, List.getElem?_cons_succ, List.getElem?_nil, List.set_cons_zero, List.set_cons_succ, List.length_cons, List.length_nil, List.map_cons, List.map_nil, List.nil_append, List.cons_append, List.replicate_succ, List.replicate_zero, if_true, if_false, eq_self, decide_eq_true_eq, Bool.false_eq_true, and_true, true_and, Option.map_some, Option.map_none, not_true_eq_false, not_false_eq_true, forall_const, false_implies, true_implies, Nat.reduceAdd, Nat.reduceSub, Nat.reduceLeDiff, Nat.reduceLT, List.nodup_nil, List.nodup_cons, List.not_mem_nil, Bool.not_eq_true, decide_true, decide_false, Bool.not_true, Bool.not_false, reduceIte, reduceCtorEq, Nat.zero_add, tru_bool]
      exact ⟨t, ds', tx_mono ht (by omega), hT, rfl, rfl⟩
    | true =>
      obtain ⟨p, ds2, p0, p1, T2, e2⟩ := take_spec (q := true) (m := (t.length : Int) + 1) hT (by omega) (by have := ht.1; omega)
      obtain ⟨u, ds3, u0, u1, T3, e3'⟩ := take_spec (q := true) (m := 8) T2 (by decide) (by decide)
      obtain ⟨s, ms, gs⟩ := pick_str (L := bads) u0 (by rw [bl]; omega)
      have h1 := tx_cut ht none (some p)
      have h2 := tx_cut ht (some p) none
      have h3 := tx_bads s ms
      have l1 : (cutS t none (some p)).length + s.length ≤ 1000000 := by have := h1.1; have := h3.1; omega
      have l2 : (cutS t none (some p) ++ s).length + (cutS t (some p) none).length ≤ 1000000 := by have := (tx_app h1 h3).1; have := h2.1; omega
      simp only [w_ok, w_ex, w_bad, w_pure, w_lsome, w_lnone, w_lite, w_ite, w_iteR, w_bind, w_kB, a_nmX, a_nmO, a_nmT, a_valO, a_bop, a_opM, a_rdv, a_rds, a_sd, a_sl, a_tst, a_boolD, a_tru, a_truM, a_andB, a_orB, a_notB, a_andX, a_orX, a_notX, a_ifX, a_caX, a_caM, a_rdsn, a_rdsc, a_consR, a_consM, a_tupX, a_lstX, a_ownX, a_badM, a_tmD, a_frzM, a_frzd, a_frzl, a_isiX, a_isiM, a_negX, a_intD, a_ptM, a_slX, a_slM, a_own, a_mtX, a_extX, a_popX, a_isOwn, a_isOwnd, a_isOwnn, a_ext, a_lstOf, a_lstM, a_tupOf, a_tupM, a_sq1, a_sq2, a_itX, a_it1, a_it2, a_it3, a_rngX, a_fmtX, a_fmtM, a_js0, a_js1, a_strD, a_own1, a_iniX, a_iniM, a_fldM, a_isEM, a_lcX, a_callX, w_call, w_okC, w_fval, w_fex, w_qE, w_qL, a_as0, a_asv, a_ass, a_argd, a_argl, a_ln0, a_lnv, a_lns, a_ll0, a_lld, a_lls, a_pl0, a_pl1, a_setL, a_omap, w_pSnx, w_pSrt, w_pSbk, w_pSct, w_pSex, w_skip, w_seq, w_onx, w_ort, w_obk, w_oct, w_oex, w_obad, w_oite, w_oite, w_on, w_set, w_kSet, a_csn, a_csd, a_csl, a_csx, a_slOd, a_slOl, w_kAs, w_kAsg, w_asg, w_kIf, w_if, w_ret, w_kDr, w_drop, w_raise, w_kFor, w_for, w_for0, w_pLnx, w_pLct, w_pLbk, w_pLrt, w_pLex, w_loop, w_kWt, w_kWf, w_kWd, w_kTt, w_kTf, w_try, w_pTnx, w_pTrt, w_pTbk, w_pTct, w_pTex, w_pk0, w_pk1, w_noEx, w_pNnx, w_pNrt, w_pNex, w_map, w_pMnx, w_pMrt, w_gO, w_gN, w_qB, w_pEnx, w_pErt, w_pEex, w_run, a_bk0, a_bkd, a_bkl, a_rho0, a_pind, a_pinl, a_nmG, a_nilG, a_consG, a_tupG, a_asgIx, a_setIx, a_augS, a_wp0, a_wp1, a_bR0, a_bR1, a_kd1, a_kd0, a_kdl, List.getElem?_cons_zero, List.getElem?_cons_succ, List.getElem?_nil, List.set_cons_zero, List.set_cons_succ, List.length_cons, List.length_nil, List.map_cons, List.map_nil, List.nil_append, List.cons_append, List.replicate_succ, List.replicate_zero, if_true, if_false, eq_self, decide_eq_true_eq, Bool.false_eq_true, and_true, true_and, Option.map_some, Option.map_none, not_true_eq_false, not_false_eq_true, forall_const, false_implies, true_implies, Nat.reduceAdd, Nat.reduceSub, Nat.reduceLeDiff, Nat.reduceLT, List.nodup_nil, List.nodup_cons, List.not_mem_nil, Bool.not_eq_true, decide_true, decide_false, Bool.not_true, Bool.not_false, reduceIte, reduceCtorEq, Nat.zero_add, tru_bool, lt, addD_int, e2, slD_str, hlt, be, bl', e3', gs, addD_str, l1, l2]
      refine ⟨_, ds3, ?_, T3, rfl, rfl⟩
      have h4 := tx_app (tx_app h1 h3) h2
      exact tx_mono h4 (by omega)
  · rintro j ρ hj ⟨t, ds', e3, ht, hT, f3, rfl⟩
    obtain ⟨p, ds2, p0, p1, T2, e2⟩ := take_spec (q := true) (m := 26) hT (by decide) (by decide)
    obtain ⟨s, ms, gs⟩ := pick_str (L := pcs) p0 (by rw [pl]; omega)
    obtain ⟨u, ds3, u0, u1, T3, e3'⟩ := take_spec (q := true) (m := 3) T2 (by decide) (by decide)
    have h1 := tx_app ht (tx_pcs s ms)
    have h2 := tx_app h1 tx_sp
    have l1 : t.length + s.length ≤ 1000000 := by have := ht.1; have := (tx_pcs s ms).1; omega
    have l2 : (t ++ s).length + (Str.ofString " ").length ≤ 1000000 := by have := h1.1; have := tx_sp.1; omega
    by_cases c : u = 0
    · simp only [w_ok, w_ex, w_bad, w_pure, w_lsome, w_lnone, w_lite, w_ite, w_iteR, w_bind, w_kB, a_nmX, a_nmO, a_nmT, a_valO, a_bop, a_opM, a_rdv, a_rds, a_sd, a_sl, a_tst, a_boolD, a_tru, a_truM, a_andB, a_orB, a_notB, a_andX, a_orX, a_notX, a_ifX, a_caX, a_caM, a_rdsn, a_rdsc, a_consR, a_consM, a_tupX, a_lstX, a_ownX, a_badM, a_tmD, a_frzM, a_frzd, a_frzl, a_isiX, a_isiM, a_negX, a_intD, a_ptM, a_slX, a_slM, a_own, a_mtX, a_extX, a_popX, a_isOwn, a_isOwnd, a_isOwnn, a_ext, a_lstOf, a_lstM, a_tupOf, a_tupM, a_sq1, a_sq2, a_itX, a_it1, a_it2, a_it3, a_rngX, a_fmtX, a_fmtM, a_js0, a_js1, a_strD, a_own1, a_iniX, a_iniM, a_fldM, a_isEM, a_lcX, a_callX, w_call, w_okC, w_fval, w_fex, w_qE, w_qL, a_as0, a_asv, a_ass, a_argd, a_argl, a_ln0, a_lnv, a_lns, a_ll0, a_lld, a_lls, a_pl0, a_pl1, a_setL, a_omap, w_pSnx, w_pSrt, w_pSbk, w_pSct, w_pSex, w_skip, w_seq, w_onx, w_ort, w_obk, w_oct, w_oex, w_obad, w_oite, w_oite, w_on, w_set, w_kSet, a_csn, a_csd, a_csl, a_csx, a_slOd, a_slOl, w_kAs, w_kAsg, w_asg, w_kIf, w_if, w_ret, w_kDr, w_drop, w_raise, w_kFor, w_for, w_for0, w_pLnx, w_pLct, w_pLbk, w_pLrt, w_pLex, w_loop, w_kWt, w_kWf, w_kWd, w_kTt, w_kTf, w_try, w_pTnx, w_pTrt, w_pTbk, w_pTct, w_pTex, w_pk0, w_pk1, w_noEx, w_pNnx, w_pNrt, w_pNex, w_map, w_pMnx, w_pMrt, w_gO, w_gN, w_qB, w_pEnx, w_pErt, w_pEex, w_run, a_bk0, a_bkd, a_bkl, a_rho0, a_pind, a_pinl, a_nmG, a_nilG, a_consG, a_tupG, a_asgIx, a_setIx, a_augS, a_wp0, a_wp1, a_bR0, a_bR1, a_kd1, a_kd0, a_kdl, List.getElem?_cons_zero, List.getElem?_cons_succ, List.getElem?_nil, List.set_cons_zero, List.set_cons_succ, List.length_cons, List.length_nil, List.map_cons, List.map_nil, List.nil_append, List.cons_append, List.replicate_succ, List.replicate_zero, if_true, if_false, eq_self, decide_eq_true_eq, Bool.false_eq_true, and_true, true_and, Option.map_some, Option.map_none, not_true_eq_false, not_false_eq_true, forall_const, false_implies, true_implies, Nat.reduceAdd, Nat.reduceSub, Nat.reduceLeDiff, Nat.reduceLT, List.nodup_nil, List.nodup_cons, List.not_mem_nil, Bool.not_eq_true, decide_true, decide_false, Bool.not_true, Bool.not_false, reduceIte, reduceCtorEq, Nat.zero_add, f3, e2, gs, addD_str, l1, e3', eqD_int, c, l2]
      exact ⟨_, ds3, _, tx_mono h2 (by omega), T3, rfl, rfl⟩
    · simp only [w_ok, w_ex, w_bad, w_pure, w_lsome, w_lnone, w_lite, w_ite, w_iteR, w_bind, w_kB, a_nmX, a_nmO, a_nmT, a_valO, a_bop, a_opM, a_rdv, a_rds, a_sd, a_sl, a_tst, a_boolD, a_tru, a_truM, a_andB, a_orB, a_notB, a_andX, a_orX, a_notX, a_ifX, a_caX, a_caM, a_rdsn, a_rdsc, a_consR, a_consM, a_tupX, a_lstX, a_ownX, a_badM, a_tmD, a_frzM, a_frzd, a_frzl, a_isiX, a_isiM, a_negX, a_intD, a_ptM, a_slX, a_slM, a_own, a_mtX, a_extX, a_popX, a_isOwn, a_isOwnd, a_isOwnn, a_ext, a_lstOf, a_lstM, a_tupOf, a_tupM, a_sq1, a_sq2, a_itX, a_it1, a_it2, a_it3, a_rngX, a_fmtX, a_fmtM, a_js0, a_js1, a_strD, a_own1, a_iniX, a_iniM, a_fldM, a_isEM, a_lcX, a_callX, w_call, w_okC, w_fval, w_fex, w_qE, w_qL, a_as0, a_asv, a_ass, a_argd, a_argl, a_ln0, a_lnv, a_lns, a_ll0, a_lld, a_lls, a_pl0, a_pl1, a_setL, a_omap, w_pSnx, w_pSrt, w_pSbk, w_pSct, w_pSex, w_skip, w_seq, w_onx, w_ort, w_obk, w_oct, w_oex, w_obad, w_oite, w_oite, w_on, w_set, w_kSet, a_csn, a_csd, a_csl, a_csx, a_slOd, a_slOl, w_kAs, w_kAsg, w_asg, w_kIf, w_if, w_ret, w_kDr, w_drop, w_raise, w_kFor, w_for, w_for0, w_pLnx, w_pLct, w_pLbk, w_pLrt, w_pLex, w_loop, w_kWt, w_kWf, w_kWd, w_kTt, w_kTf, w_try, w_pTnx, w_pTrt, w_pTbk, w_pTct, w_pTex, w_pk0, w_pk1, w_noEx, w_pNnx, w_pNrt, w_pNex, w_map, w_pMnx, w_pMrt, w_gO, w_gN, w_qB, w_pEnx, w_pErt, w_pEex, w_run, a_bk0, a_bkd, a_bkl, a_rho0, a_pind, a_pinl, a_nmG, a_nilG, a_consG, a_tupG, a_asgIx, a_setIx, a_augS, a_wp0, a_wp1, a_bR0, a_bR1, a_kd1, a_kd0, a_kdl, List.getElem?_cons_zero, List.getElem?_cons_succ, List.getElem?_nil, List.set_cons_zero, List.set_cons_succ, List.length_cons, List.length_nil, List.map_cons, List.map_nil, List.nil_append, List.cons_append, List.replicate_succ, List.replicate_zero, if_true, if_false, eq_self, decide_eq_true_eq, Bool.false_eq_true, and_true, true_and, Option.map_some, Option.map_none, not_true_eq_false, not_false_eq_true, forall_const, false_implies, true_implies, Nat.reduceAdd, Nat.reduceSub, Nat.reduceLeDiff, Nat.reduceLT, List.nodup_nil, List.nodup_cons, List.not_mem_nil, Bool.not_eq_true, decide_true, decide_false, Bool.not_true, Bool.not_false, reduceIte, reduceCtorEq, Nat.zero_add, f3, e2, gs, addD_str, l1, e3', eqD_int, c]
      exact ⟨_, ds3, _, tx_mono h1 (by omega), T3, rfl, rfl⟩
end EV

namespace EV
open PySem PySem.Spec PyProof.Rows L2 Ver
theorem tks_sh {t : Str} (h : SOk t) {row : Int} : ∀ {n k : Nat}, n = (cs t).length - k → ∀ z ∈ tksF t (.int row) k, Sh 1 z := by
  intro n
  induction n using Nat.strongRecOn with
  | _ n ih =>
    intro k e z hz
    by_cases c : k < (cs t).length
    · by_cases s : (cs t)[k] = 32
      · rw [tks_sp c s] at hz
        exact ih _ (by omega) rfl z hz
      · rw [tks_tok c s] at hz
        have g := @nxt_gt (cs t) k
        rcases List.mem_cons.mp hz with rfl | hz
        · unfold tokD
          have kk : ∀ c, SOk (kind c) := fun c => by
            unfold kind
            split
            · exact sok_iff.mpr (by decide +kernel)
            · split
              · exact sok_iff.mpr (by decide +kernel)
              · split
                · exact sok_iff.mpr (by decide +kernel)
                · exact sok_iff.mpr (by decide +kernel)
          refine sh_tup fun d hd => ?_
          simp only [List.mem_cons, List.not_mem_nil, or_false] at hd
          rcases hd with rfl | rfl | rfl | rfl | rfl
          · exact sh_str (kk _)
          · exact sh_str (sok_cut h _ _)
          · exact sh_int
          · exact sh_int
          · exact sh_bool
        · exact ih _ (by omega) rfl z hz
    · rw [tks_end (by omega)] at hz
      cases hz
theorem foldSp_all {P : D → Prop} : ∀ {ls : List Ln} {acc : List D} {row : Nat} {l : List D}, (∀ x ∈ ls, ∀ (row : Int) z, z ∈ tksF x.t (.int row) 0 → P (.tuple [z, x.d])) → (∀ y ∈ acc, P y) → acc.length ≤ 24 → foldSp acc row ls = .ok l → (∀ y ∈ l, P y) ∧ l.length ≤ 24
  | [], acc, row, l, _, ha, hn, e => by cases e; exact ⟨ha, hn⟩
  | x :: r, acc, row, l, hx, ha, hn, e => by
    rw [foldSp_cons] at e
    split at e
    · cases e
    · split at e
      · cases e
      · refine foldSp_all (fun y hy => hx y (List.mem_cons_of_mem _ hy)) (fun y hy => ?_) (by omega) e
        unfold addT at hy
        rcases List.mem_append.mp hy with hy | hy
        · exact ha y hy
        · obtain ⟨z, hz, rfl⟩ := List.mem_map.mp hy
          exact hx x List.mem_cons_self _ z hz
def LnOk (x : Ln) : Prop := Tx 150 x.t ∧ Dg x.d
theorem fr_sh {ls : List Ln} (h : ∀ x ∈ ls, LnOk x) : Sh 7 (frD (foldSp [] 0 ls)) ∧ noflat (frD (foldSp [] 0 ls)) = true ∧ ∀ l, foldSp [] 0 ls = .ok l → (∀ y ∈ l, Pr y) ∧ l.length ≤ 24 := by
  have key : ∀ l, foldSp [] 0 ls = .ok l → (∀ y ∈ l, Pr y ∧ Sh 6 y) ∧ l.length ≤ 24 := fun l e =>
    foldSp_all (P := fun y => Pr y ∧ Sh 6 y) (fun x hx row z hz => ⟨⟨z, x.d, rfl, (h x hx).2⟩, (sh_tup (n := 4) fun d hd => by
      simp only [List.mem_cons, List.not_mem_nil, or_false] at hd
      rcases hd with rfl | rfl
      · exact (tks_sh (h x hx).1.2 rfl _ hz).mono (by omega)
      · exact dg_sh (h x hx).2).mono (by omega)⟩) (fun y hy => by cases hy) (by simp) e
  refine ⟨?_, ?_, fun l e => ⟨fun y hy => ((key l e).1 y hy).1, (key l e).2⟩⟩
  · cases e : foldSp [] 0 ls with
    | ok l => exact sh_list fun y hy => ((key l e).1 y hy).2
    | bad r c =>
      refine sh_tup (n := 6) fun d hd => ?_
      simp only [List.mem_cons, List.not_mem_nil, or_false] at hd
      rcases hd with rfl | rfl | rfl | rfl
      · exact sh_str (sok_iff.mpr (by decide +kernel))
      · exact sh_int
      · exact sh_int
      · exact sh_bool
    | many =>
      refine sh_tup (n := 6) fun d hd => ?_
      simp only [List.mem_cons, List.not_mem_nil, or_false] at hd
      rcases hd with rfl | rfl
      · exact sh_str (sok_iff.mpr (by decide +kernel))
      · exact sh_bool
  · cases foldSp [] 0 ls <;> rfl
theorem shown_sh {one two : Bool} : ∀ {l : List D} {k : Nat}, ∀ y ∈ shownFrom one two k l, Sh 0 y
  | [], k, y, h => by cases h
  | x :: r, k, y, h => by
    unfold shownFrom at h
    split at h
    · rcases List.mem_cons.mp h with rfl | h
      · exact sh_int
      · exact shown_sh y h
    · exact shown_sh y h
theorem told_spec' {ls : List Ln} (hl : ∀ x ∈ ls, x.t.length ≤ 900) (hn : ls.length < 1000) :
    F_law_told [.d (.list (ls.map lnD))] = .val (match foldSp [] 0 ls with | .ok l => .l l | r => .d (frD r)) [.d (.list (ls.map lnD))] := by
  apply okF_eq
  unfold F_law_told
  rw [w_run]
  unfold B_law_told
  simp only [w_ok, w_ex, w_bad, w_pure, w_lsome, w_lnone, w_lite, w_ite, w_iteR, w_bind, w_kB, a_nmX, a_nmO, a_nmT, a_valO, a_bop, a_opM, a_rdv, a_rds, a_sd, a_sl, a_tst, a_boolD, a_tru, a_truM, a_andB, a_orB, a_notB, a_andX, a_orX, a_notX, a_ifX, a_caX, a_caM, a_rdsn, a_rdsc, a_consR, a_consM, a_tupX, a_lstX, a_ownX, a_badM, a_tmD, a_frzM, a_frzd, a_frzl, a_isiX, a_isiM, a_negX, a_intD, a_ptM, a_slX, a_slM, a_own, a_mtX, a_extX, a_popX, a_isOwn, a_isOwnd, a_isOwnn, a_ext, a_lstOf, a_lstM, a_tupOf, a_tupM, a_sq1, a_sq2, a_itX, a_it1, a_it2, a_it3, a_rngX, a_fmtX, a_fmtM, a_js0, a_js1, a_strD, a_own1, a_iniX, a_iniM, a_fldM, a_isEM, a_lcX, a_callX, w_call, w_okC, w_fval, w_fex, w_qE, w_qL, a_as0, a_asv, a_ass, a_argd, a_argl, a_ln0, a_lnv, a_lns, a_ll0, a_lld, a_lls, a_pl0, a_pl1, a_setL, a_omap, w_pSnx, w_pSrt, w_pSbk, w_pSct, w_pSex, w_skip, w_seq, w_onx, w_ort, w_obk, w_oct, w_oex, w_obad, w_oite, w_oite, w_on, w_set, w_kSet, a_csn, a_csd, a_csl, a_csx, a_slOd, a_slOl, w_kAs, w_kAsg, w_asg, w_kIf, w_if, w_ret, w_kDr, w_drop, w_raise, w_kFor, w_for, w_for0, w_pLnx, w_pLct, w_pLbk, w_pLrt, w_pLex, w_loop, w_kWt, w_kWf, w_kWd, w_kTt, w_kTf, w_try, w_pTnx, w_pTrt, w_pTbk, w_pTct, w_pTex, w_pk0, w_pk1, w_noEx, w_pNnx, w_pNrt, w_pNex, w_map, w_pMnx, w_pMrt, w_gO, w_gN, w_qB, w_pEnx, w_pErt, w_pEex, w_run, a_bk0, a_bkd, a_bkl, a_rho0, a_pind, a_pinl, a_nmG, a_nilG, a_consG, a_tupG, a_asgIx, a_setIx, a_augS, a_wp0, a_wp1, a_bR0, a_bR1, a_kd1, a_kd0, a_kdl, List.getElem?_cons_zero, List.getElem?_cons_succ, List.getElem?_nil, List.set_cons_zero, List.set_cons_succ, List.length_cons, List.length_nil, List.map_cons, List.map_nil, List.nil_append, List.cons_append, List.replicate_succ, List.replicate_zero, if_true, if_false, eq_self, decide_eq_true_eq, Bool.false_eq_true, and_true, true_and, Option.map_some, Option.map_none, not_true_eq_false, not_false_eq_true, forall_const, false_implies, true_implies, Nat.reduceAdd, Nat.reduceSub, Nat.reduceLeDiff, Nat.reduceLT, List.nodup_nil, List.nodup_cons, List.not_mem_nil, Bool.not_eq_true, decide_true, decide_false, Bool.not_true, Bool.not_false, reduceIte, reduceCtorEq, Nat.zero_add]
  refine okF_imp (fold_ok hl hn) ?_ ?_
  · rintro t as ⟨⟨l, h1, rfl⟩, rfl⟩
    simp only [w_ok, w_ex, w_bad, w_pure, w_lsome, w_lnone, w_lite, w_ite, w_iteR, w_bind, w_kB, a_nmX, a_nmO, a_nmT, a_valO, a_bop, a_opM, a_rdv, a_rds, a_sd, a_sl, a_tst, a_boolD, a_tru, a_truM, a_andB, a_orB, a_notB, a_andX, a_orX, a_notX, a_ifX, a_caX, a_caM, a_rdsn, a_rdsc, a_consR, a_consM, a_tupX, a_lstX, a_ownX, a_badM, a_tmD, a_frzM, a_frzd, a_frzl, a_isiX, a_isiM, a_negX, a_intD, a_ptM, a_slX, a_slM, a_own, a_mtX, a_extX, a_popX, a_isOwn, a_isOwnd, a_isOwnn, a_ext, a_lstOf, a_lstM, a_tupOf, a_tupM, a_sq1, a_sq2, a_itX, a_it1, a_it2, a_it3, a_rngX, a_fmtX, a_fmtM, a_js0, a_js1, a_strD, a_own1, a_iniX, a_iniM, a_fldM, a_isEM, a_lcX, a_callX, w_call, w_okC, w_fval, w_fex, w_qE, w_qL, a_as0, a_asv, a_ass, a_argd, a_argl, a_ln0, a_lnv, a_lns, a_ll0, a_lld, a_lls, a_pl0, a_pl1, a_setL, a_omap, w_pSnx, w_pSrt, w_pSbk, w_pSct, w_pSex, w_skip, w_seq, w_onx, w_ort, w_obk, w_oct, w_oex, w_obad, w_oite, w_oite, w_on, w_set, w_kSet, a_csn, a_csd, a_csl, a_csx, a_slOd, a_slOl, w_kAs, w_kAsg, w_asg, w_kIf, w_if, w_ret, w_kDr, w_drop, w_raise, w_kFor, w_for, w_for0, w_pLnx, w_pLct, w_pLbk, w_pLrt, w_pLex, w_loop, w_kWt, w_kWf, w_kWd, w_kTt, w_kTf, w_try, w_pTnx, w_pTrt, w_pTbk, w_pTct, w_pTex, w_pk0, w_pk1, w_noEx, w_pNnx, w_pNrt, w_pNex, w_map, w_pMnx, w_pMrt, w_gO, w_gN, w_qB, w_pEnx, w_pErt, w_pEex, w_run, a_bk0, a_bkd, a_bkl, a_rho0, a_pind, a_pinl, a_nmG, a_nilG, a_consG, a_tupG, a_asgIx, a_setIx, a_augS, a_wp0, a_wp1, a_bR0, a_bR1, a_kd1, a_kd0, a_kdl, List.getElem?_cons_zero, List.getElem?_cons_succ, List.getElem?_nil, List.set_cons_zero, List.set_cons_succ, List.length_cons, List.length_nil, List.map_cons, List.map_nil, List.nil_append, List.cons_append, List.replicate_succ, List.replicate_zero, if_true, if_false, eq_self, decide_eq_true_eq, Bool.false_eq_true, and_true, true_and, Option.map_some, Option.map_none, not_true_eq_false, not_false_eq_true, forall_const, false_implies, true_implies, Nat.reduceAdd, Nat.reduceSub, Nat.reduceLeDiff, Nat.reduceLT, List.nodup_nil, List.nodup_cons, List.not_mem_nil, Bool.not_eq_true, decide_true, decide_false, Bool.not_true, Bool.not_false, reduceIte, reduceCtorEq, Nat.zero_add, h1, frD]
  · rintro e as ⟨⟨r, c, h1, rfl⟩ | ⟨h1, rfl⟩, rfl⟩
    · simp only [w_ok, w_ex, w_bad, w_pure, w_lsome, w_lnone, w_lite, w_ite, w_iteR, w_bind, w_kB, a_nmX, a_nmO, a_nmT, a_valO, a_bop, a_opM, a_rdv, a_rds, a_sd, a_sl, a_tst, a_boolD, a_tru, a_truM, a_andB, a_orB, a_notB, a_andX, a_orX, a_notX, a_ifX, a_caX, a_caM, a_rdsn, a_rdsc, a_consR, a_consM, a_tupX, a_lstX, a_ownX, a_badM, a_tmD, a_frzM, a_frzd, a_frzl, a_isiX, a_isiM, a_negX, a_intD, a_ptM, a_slX, a_slM, a_own, a_mtX, a_extX, a_popX, a_isOwn, a_isOwnd, a_isOwnn, a_ext, a_lstOf, a_lstM, a_tupOf, a_tupM, a_sq1, a_sq2, a_itX, a_it1, a_it2, a_it3, a_rngX, a_fmtX, a_fmtM, a_js0, a_js1, a_strD, a_own1, a_iniX, a_iniM, a_fldM, a_isEM, a_lcX, a_callX, w_call, w_okC, w_fval, w_fex, w_qE, w_qL, a_as0, a_asv, a_ass, a_argd, a_argl, a_ln0, a_lnv, a_lns, a_ll0, a_lld, a_lls, a_pl0, a_pl1, a_setL, a_omap, w_pSnx, w_pSrt, w_pSbk, w_pSct, w_pSex, w_skip, w_seq, w_onx, w_ort, w_obk, w_oct, w_oex, w_obad, w_oite, w_oite, w_on, w_set, w_kSet, a_csn, a_csd, a_csl, a_csx, a_slOd, a_slOl, w_kAs, w_kAsg, w_asg, w_kIf, w_if, w_ret, w_kDr, w_drop, w_raise, w_kFor, w_for, w_for0, w_pLnx, w_pLct, w_pLbk, w_pLrt, w_pLex, w_loop, w_kWt, w_kWf, w_kWd, w_kTt, w_kTf, w_try, w_pTnx, w_pTrt, w_pTbk, w_pTct, w_pTex, w_pk0, w_pk1, w_noEx, w_pNnx, w_pNrt, w_pNex, w_map, w_pMnx, w_pMrt, w_gO, w_gN, w_qB, w_pEnx, w_pErt, w_pEex, w_run, a_bk0, a_bkd, a_bkl, a_rho0, a_pind, a_pinl, a_nmG, a_nilG, a_consG, a_tupG, a_asgIx, a_setIx, a_augS, a_wp0, a_wp1, a_bR0, a_bR1, a_kd1, a_kd0, a_kdl, List.getElem?_cons_zero, List.getElem?_cons_succ, List.getElem?_nil, List.set_cons_zero, List.set_cons_succ, List.length_cons, List.length_nil, List.map_cons, List.map_nil, List.nil_append, List.cons_append, List.replicate_succ, List.replicate_zero, if_true, if_false, eq_self, decide_eq_true_eq, Bool.false_eq_true, and_true, true_and, Option.map_some, Option.map_none, not_true_eq_false, not_false_eq_true, forall_const, false_implies, true_implies, Nat.reduceAdd, Nat.reduceSub, Nat.reduceLeDiff, Nat.reduceLT, List.nodup_nil, List.nodup_cons, List.not_mem_nil, Bool.not_eq_true, decide_true, decide_false, Bool.not_true, Bool.not_false, reduceIte, reduceCtorEq, Nat.zero_add, lk_b2, gO, S_law_told_0, lk_row, lk_col, badD, frD, h1]
    · simp only [w_ok, w_ex, w_bad, w_pure, w_lsome, w_lnone, w_lite, w_ite, w_iteR, w_bind, w_kB, a_nmX, a_nmO, a_nmT, a_valO, a_bop, a_opM, a_rdv, a_rds, a_sd, a_sl, a_tst, a_boolD, a_tru, a_truM, a_andB, a_orB, a_notB, a_andX, a_orX, a_notX, a_ifX, a_caX, a_caM, a_rdsn, a_rdsc, a_consR, a_consM, a_tupX, a_lstX, a_ownX, a_badM, a_tmD, a_frzM, a_frzd, a_frzl, a_isiX, a_isiM, a_negX, a_intD, a_ptM, a_slX, a_slM, a_own, a_mtX, a_extX, a_popX, a_isOwn, a_isOwnd, a_isOwnn, a_ext, a_lstOf, a_lstM, a_tupOf, a_tupM, a_sq1, a_sq2, a_itX, a_it1, a_it2, a_it3, a_rngX, a_fmtX, a_fmtM, a_js0, a_js1, a_strD, a_own1, a_iniX, a_iniM, a_fldM, a_isEM, a_lcX, a_callX, w_call, w_okC, w_fval, w_fex, w_qE, w_qL, a_as0, a_asv, a_ass, a_argd, a_argl, a_ln0, a_lnv, a_lns, a_ll0, a_lld, a_lls, a_pl0, a_pl1, a_setL, a_omap, w_pSnx, w_pSrt, w_pSbk, w_pSct, w_pSex, w_skip, w_seq, w_onx, w_ort, w_obk, w_oct, w_oex, w_obad, w_oite, w_oite, w_on, w_set, w_kSet, a_csn, a_csd, a_csl, a_csx, a_slOd, a_slOl, w_kAs, w_kAsg, w_asg, w_kIf, w_if, w_ret, w_kDr, w_drop, w_raise, w_kFor, w_for, w_for0, w_pLnx, w_pLct, w_pLbk, w_pLrt, w_pLex, w_loop, w_kWt, w_kWf, w_kWd, w_kTt, w_kTf, w_try, w_pTnx, w_pTrt, w_pTbk, w_pTct, w_pTex, w_pk0, w_pk1, w_noEx, w_pNnx, w_pNrt, w_pNex, w_map, w_pMnx, w_pMrt, w_gO, w_gN, w_qB, w_pEnx, w_pErt, w_pEex, w_run, a_bk0, a_bkd, a_bkl, a_rho0, a_pind, a_pinl, a_nmG, a_nilG, a_consG, a_tupG, a_asgIx, a_setIx, a_augS, a_wp0, a_wp1, a_bR0, a_bR1, a_kd1, a_kd0, a_kdl, List.getElem?_cons_zero, List.getElem?_cons_succ, List.getElem?_nil, List.set_cons_zero, List.set_cons_succ, List.length_cons, List.length_nil, List.map_cons, List.map_nil, List.nil_append, List.cons_append, List.replicate_succ, List.replicate_zero, if_true, if_false, eq_self, decide_eq_true_eq, Bool.false_eq_true, and_true, true_and, Option.map_some, Option.map_none, not_true_eq_false, not_false_eq_true, forall_const, false_implies, true_implies, Nat.reduceAdd, Nat.reduceSub, Nat.reduceLeDiff, Nat.reduceLT, List.nodup_nil, List.nodup_cons, List.not_mem_nil, Bool.not_eq_true, decide_true, decide_false, Bool.not_true, Bool.not_false, reduceIte, reduceCtorEq, Nat.zero_add, lk_t2, lk_t1, gO, S_law_told_1, manyD, frD, h1]
theorem tape_spec (ns : List Int) (b : Int) : ∃ ds, TapeOk ds ∧ F_law_tape [.d (.list (ns.map .int)), .d (.int b)] = .val (.l ds) [.d (.list (ns.map .int)), .d (.int b)] := by
  refine ⟨_, ⟨ns, 0, 0, 1, b, rfl, by omega⟩, ?_⟩
  apply okF_eq
  unfold F_law_tape
  rw [w_run]
  unfold B_law_tape
  generalize ns.map PyData.int = L
  simp only [w_ok, w_ex, w_bad, w_pure, w_lsome, w_lnone, w_lite, w_ite, w_iteR, w_bind, w_kB, a_nmX, a_nmO, a_nmT, a_valO, a_bop, a_opM, a_rdv, a_rds, a_sd, a_sl, a_tst, a_boolD, a_tru, a_truM, a_andB, a_orB, a_notB, a_andX, a_orX, a_notX, a_ifX, a_caX, a_caM, a_rdsn, a_rdsc, a_consR, a_consM, a_tupX, a_lstX, a_ownX, a_badM, a_tmD, a_frzM, a_frzd, a_frzl, a_isiX, a_isiM, a_negX, a_intD, a_ptM, a_slX, a_slM, a_own, a_mtX, a_extX, a_popX, a_isOwn, a_isOwnd, a_isOwnn, a_ext, a_lstOf, a_lstM, a_tupOf, a_tupM, a_sq1, a_sq2, a_itX, a_it1, a_it2, a_it3, a_rngX, a_fmtX, a_fmtM, a_js0, a_js1, a_strD, a_own1, a_iniX, a_iniM, a_fldM, a_isEM, a_lcX, a_callX, w_call, w_okC, w_fval, w_fex, w_qE, w_qL, a_as0, a_asv, a_ass, a_argd, a_argl, a_ln0, a_lnv, a_lns, a_ll0, a_lld, a_lls, a_pl0, a_pl1, a_setL, a_omap, w_pSnx, w_pSrt, w_pSbk, w_pSct, w_pSex, w_skip, w_seq, w_onx, w_ort, w_obk, w_oct, w_oex, w_obad, w_oite, w_oite, w_on, w_set, w_kSet, a_csn, a_csd, a_csl, a_csx, a_slOd, a_slOl, w_kAs, w_kAsg, w_asg, w_kIf, w_if, w_ret, w_kDr, w_drop, w_raise, w_kFor, w_for, w_for0, w_pLnx, w_pLct, w_pLbk, w_pLrt, w_pLex, w_loop, w_kWt, w_kWf, w_kWd, w_kTt, w_kTf, w_try, w_pTnx, w_pTrt, w_pTbk, w_pTct, w_pTex, w_pk0, w_pk1, w_noEx, w_pNnx, w_pNrt, w_pNex, w_map, w_pMnx, w_pMrt, w_gO, w_gN, w_qB, w_pEnx, w_pErt, w_pEex, w_run, a_bk0, a_bkd, a_bkl, a_rho0, a_pind, a_pinl, a_nmG, a_nilG, a_consG, a_tupG, a_asgIx, a_setIx, a_augS, a_wp0, a_wp1, a_bR0, a_bR1, a_kd1, a_kd0, a_kdl, List.getElem?_cons_zero, List.getElem?_cons_succ, List.getElem?_nil, List.set_cons_zero, List.set_cons_succ, List.length_cons, List.length_nil, List.map_cons, List.map_nil, List.nil_append, List.cons_append, List.replicate_succ, List.replicate_zero, if_true, if_false, eq_self, decide_eq_true_eq, Bool.false_eq_true, and_true, true_and, Option.map_some, Option.map_none, not_true_eq_false, not_false_eq_true, forall_const, false_implies, true_implies, Nat.reduceAdd, Nat.reduceSub, Nat.reduceLeDiff, Nat.reduceLT, List.nodup_nil, List.nodup_cons, List.not_mem_nil, Bool.not_eq_true, decide_true, decide_false, Bool.not_true, Bool.not_false, reduceIte, reduceCtorEq, Nat.zero_add]
theorem at_int {x : D} (h : Dg x) {i j : Int} {one two : Bool} (hi : i = if one then 1 else 0) (hj : j = if two then 1 else 0) : F_law_at [.d x, .d (.tuple [.int i, .int j])] = .val (.d (.bool (valB one two x))) [.d x, .d (.tuple [.int i, .int j])] := by
  subst hi hj
  exact at_spec h one two
theorem present_int {l : List D} (hl : ∀ y ∈ l, Pr y) (hn : l.length < 1000) {i j : Int} {one two : Bool} (hi : i = if one then 1 else 0) (hj : j = if two then 1 else 0) : Fpresent [.d (.list l), .d (.tuple [.int i, .int j])] = .val (.l (shownFrom one two 0 l)) [.d (.list l), .d (.tuple [.int i, .int j])] := by
  subst hi hj
  exact present_spec hl hn one two
theorem isLst_list (l : List D) : tyIs "list" (.list l) = true := id rfl
theorem isLst_tup (l : List D) : tyIs "list" (.tuple l) = false := id rfl
end EV

namespace EV
open PySem PySem.Spec PyProof.Rows L2 Ver
theorem ne_int (i j : Int) : neD (.int i) (.int j) = some (.bool (!decide (i = j))) := by
  show some (PyData.bool (!(i == j))) = _
  congr 2
theorem it01 : itD (.tuple [.int 0, .int 1]) = some [.int 0, .int 1] := id rfl
theorem dg_bits {bs : List Bool} (h : bs.length = 4) : ∃ x, Dg x ∧ F_law_diagram 4 [.d (.list (bs.map .bool)), .d (.int 0)] = .val (.d x) [.d (.list (bs.map .bool)), .d (.int 0)] := by
  match bs, h with
  | [a, b, c, d], _ => exact ⟨_, ⟨a, b, c, d, rfl⟩, dg_spec a b c d⟩
theorem k05_lines {s0 s1 s5 s9 s12 : Option Sl} {P : Post} {n : Nat} (hn : n < 8) {ds : List D} (hT : TapeOk ds)
    (hk : ∀ (ls : List Ln) (ds : List D) (e4 e6 : Option Sl), ls.length ≤ n → (∀ x ∈ ls, LnOk x) → TapeOk ds → canSet (some e4) = true → canSet (some e6) = true → P.nx [s0, s1, none, none, e4, s5, e6, some (.l false (ls.map lnD)), none, s9, none, some (.l false ds), s12, none, none]) :
    okO P (forS (nmG 6) (seqS (setS 4 (callX (F_law_diagram 4) 2 (consR (valO (frzM (lcX (rngX rng1D (consM (pureM (.int 4)) (pureM []))) (nmG 2) (pureM true) (bop eqD (valO (frzM (callX F_law_take 2 (consR (nmO 11) (consR (valO (pureM (.int 2))) (pureM [])))))) (valO (pureM (.int 0)))) [2]))) (consR (valO (pureM (.int 0))) (pureM []))))) (seqS (ifS (tst (bop isNotD (nmO 4) (valO (pureM (.bool false)))))
  (seqS (dropS (tmD (mtX appD 7 (tupX (consM (frzM (callX F_law_text 2 (consR (nmO 11) (consR (valO (bop eqD (valO (frzM (callX F_law_take 2 (consR (nmO 11) (consR (valO (pureM (.int 30))) (pureM [])))))) (valO (pureM (.int 0))))) (pureM []))))) (consM (pureM (.str "main")) (consM (bop addD (nmO 6) (valO (pureM (.int 1)))) (consM (nmX 4) (pureM []))))))))) skipS)
  skipS) skipS)) (intsD 0 n) [s0, s1, none, none, none, s5, none, some (.l false []), none, s9, none, some (.l false ds), s12, none, none]) := by
  refine for_rng (fun j ρ => ∃ (ls : List Ln) (ds : List D) (e4 e6 : Option Sl), ls.length ≤ j ∧ (∀ x ∈ ls, LnOk x) ∧ TapeOk ds ∧ canSet (some e4) = true ∧ canSet (some e6) = true ∧ ρ = [s0, s1, none, none, e4, s5, e6, some (.l false (ls.map lnD)), none, s9, none, some (.l false ds), s12, none, none]) ⟨[], ds, none, none, by simp, fun x hx => (by cases hx), hT, rfl, rfl, rfl⟩ ?_ ?_
  · rintro ρ ⟨ls, ds, e4, e6, h1, h2, h3, f4, f6, rfl⟩
    exact hk ls ds e4 e6 h1 h2 h3 f4 f6
  · rintro j ρ hj ⟨ls, ds, e4, e6, h1, h2, h3, f4, f6, rfl⟩
    have r4 := rngN (n := 4) (by omega)
    simp only [w_ok, w_ex, w_bad, w_pure, w_lsome, w_lnone, w_lite, w_ite, w_iteR, w_bind, w_kB, a_nmX, a_nmO, a_nmT, a_valO, a_bop, a_opM, a_rdv, a_rds, a_sd, a_sl, a_tst, a_boolD, a_tru, a_truM, a_andB, a_orB, a_notB, a_andX, a_orX, a_notX, a_ifX, a_caX, a_caM, a_rdsn, a_rdsc, a_consR, a_consM, a_tupX, a_lstX, a_ownX, a_badM, a_tmD, a_frzM, a_frzd, a_frzl, a_isiX, a_isiM, a_negX, a_intD, a_ptM, a_slX, a_slM, a_own, a_mtX, a_extX, a_popX, a_isOwn, a_isOwnd, a_isOwnn, a_ext, a_lstOf, a_lstM, a_tupOf, a_tupM, a_sq1, a_sq2, a_itX, a_it1, a_it2, a_it3, a_rngX, a_fmtX, a_fmtM, a_js0, a_js1, a_strD, a_own1, a_iniX, a_iniM, a_fldM, a_isEM, a_lcX, a_callX, w_call, w_okC, w_fval, w_fex, w_qE, w_qL, a_as0, a_asv, a_ass, a_argd, a_argl, a_ln0, a_lnv, a_lns, a_ll0, a_lld, a_lls, a_pl0, a_pl1, a_setL, a_omap, w_pSnx, w_pSrt, w_pSbk, w_pSct, w_pSex, w_skip, w_seq, w_onx, w_ort, w_obk, w_oct, w_oex, w_obad, w_oite, w_oite, w_on, w_set, w_kSet, a_csn, a_csd, a_csl, a_csx, a_slOd, a_slOl, w_kAs, w_kAsg, w_asg, w_kIf, w_if, w_ret, w_kDr, w_drop, w_raise, w_kFor, w_for, w_for0, w_pLnx, w_pLct, w_pLbk, w_pLrt, w_pLex, w_loop, w_kWt, w_kWf, w_kWd, w_kTt, w_kTf, w_try, w_pTnx, w_pTrt, w_pTbk, w_pTct, w_pTex, w_pk0, w_pk1, w_noEx, w_pNnx, w_pNrt, w_pNex, w_map, w_pMnx, w_pMrt, w_gO, w_gN, w_qB, w_pEnx, w_pErt, w_pEex, w_run, a_bk0, a_bkd, a_bkl, a_rho0, a_pind, a_pinl, a_nmG, a_nilG, a_consG, a_tupG, a_asgIx, a_setIx, a_augS, a_wp0, a_wp1, a_bR0, a_bR1, a_kd1, a_kd0, a_kdl, List.getElem?_cons_zero, List.getElem?_cons_succ, List.getElem?_nil, List.set_cons_zero, List.set_cons_succ, List.length_cons, List.length_nil, List.map_cons, List.map_nil, List.nil_append, List.cons_append, List.replicate_succ, List.replicate_zero, if_true, if_false, eq_self, decide_eq_true_eq, Bool.false_eq_true, and_true, true_and, Option.map_some, Option.map_none, not_true_eq_false, not_false_eq_true, forall_const, false_implies, true_implies, Nat.reduceAdd, Nat.reduceSub, Nat.reduceLeDiff, Nat.reduceLT, List.nodup_nil, List.nodup_cons, List.not_mem_nil, Bool.not_eq_true, decide_true, decide_false, Bool.not_true, Bool.not_false, reduceIte, reduceCtorEq, Nat.zero_add, f4, f6]
    rw [show (4 : Int) = ((4 : Nat) : Int) from rfl, r4]
    simp only [w_ok, w_ex, w_bad, w_pure, w_lsome, w_lnone, w_lite, w_ite, w_iteR, w_bind, w_kB, a_nmX, a_nmO, a_nmT, a_valO, a_bop, a_opM, a_rdv, a_rds, a_sd, a_sl, a_tst, a_boolD, a_tru, a_truM, a_andB, a_orB, a_notB, a_andX, a_orX, a_notX, a_ifX, a_caX, a_caM, a_rdsn, a_rdsc, a_consR, a_consM, a_tupX, a_lstX, a_ownX, a_badM, a_tmD, a_frzM, a_frzd, a_frzl, a_isiX, a_isiM, a_negX, a_intD, a_ptM, a_slX, a_slM, a_own, a_mtX, a_extX, a_popX, a_isOwn, a_isOwnd, a_isOwnn, a_ext, a_lstOf, a_lstM, a_tupOf, a_tupM, a_sq1, a_sq2, a_itX, a_it1, a_it2, a_it3, a_rngX, a_fmtX, a_fmtM, a_js0, a_js1, a_strD, a_own1, a_iniX, a_iniM, a_fldM, a_isEM, a_lcX, a_callX, w_call, w_okC, w_fval, w_fex, w_qE, w_qL, a_as0, a_asv, a_ass, a_argd, a_argl, a_ln0, a_lnv, a_lns, a_ll0, a_lld, a_lls, a_pl0, a_pl1, a_setL, a_omap, w_pSnx, w_pSrt, w_pSbk, w_pSct, w_pSex, w_skip, w_seq, w_onx, w_ort, w_obk, w_oct, w_oex, w_obad, w_oite, w_oite, w_on, w_set, w_kSet, a_csn, a_csd, a_csl, a_csx, a_slOd, a_slOl, w_kAs, w_kAsg, w_asg, w_kIf, w_if, w_ret, w_kDr, w_drop, w_raise, w_kFor, w_for, w_for0, w_pLnx, w_pLct, w_pLbk, w_pLrt, w_pLex, w_loop, w_kWt, w_kWf, w_kWd, w_kTt, w_kTf, w_try, w_pTnx, w_pTrt, w_pTbk, w_pTct, w_pTex, w_pk0, w_pk1, w_noEx, w_pNnx, w_pNrt, w_pNex, w_map, w_pMnx, w_pMrt, w_gO, w_gN, w_qB, w_pEnx, w_pErt, w_pEex, w_run, a_bk0, a_bkd, a_bkl, a_rho0, a_pind, a_pinl, a_nmG, a_nilG, a_consG, a_tupG, a_asgIx, a_setIx, a_augS, a_wp0, a_wp1, a_bR0, a_bR1, a_kd1, a_kd0, a_kdl, List.getElem?_cons_zero, List.getElem?_cons_succ, List.getElem?_nil, List.set_cons_zero, List.set_cons_succ, List.length_cons, List.length_nil, List.map_cons, List.map_nil, List.nil_append, List.cons_append, List.replicate_succ, List.replicate_zero, if_true, if_false, eq_self, decide_eq_true_eq, Bool.false_eq_true, and_true, true_and, Option.map_some, Option.map_none, not_true_eq_false, not_false_eq_true, forall_const, false_implies, true_implies, Nat.reduceAdd, Nat.reduceSub, Nat.reduceLeDiff, Nat.reduceLT, List.nodup_nil, List.nodup_cons, List.not_mem_nil, Bool.not_eq_true, decide_true, decide_false, Bool.not_true, Bool.not_false, reduceIte, reduceCtorEq, Nat.zero_add]
    refine lc_inv (fun r acc ρ => ∃ (bs : List Bool) (ds : List D) (e2 : Option Sl), acc = bs.map .bool ∧ bs.length + r.length = 4 ∧ TapeOk ds ∧ (∀ d ∈ r, ∃ i, d = .int i) ∧ ρ = [s0, s1, e2, none, e4, s5, some (.d (.int (0 + (j : Int)))), some (.l false (ls.map lnD)), none, s9, none, some (.l false ds), s12, none, none]) ?_ ?_ ⟨[], ds, none, rfl, by unfold intsD; simp, h3, fun d hd => (by
      unfold intsD at hd
      obtain ⟨k, _, rfl⟩ := List.mem_map.mp hd
      exact ⟨_, rfl⟩), rfl⟩
    · rintro acc ρ ⟨bs, ds, e2, rfl, hb, hT, _, rfl⟩
      obtain ⟨x, hx, ex⟩ := dg_bits (bs := bs) (by simpa using hb)
      obtain ⟨b, hb⟩ := isNot_spec hx
      simp only [w_ok, w_ex, w_bad, w_pure, w_lsome, w_lnone, w_lite, w_ite, w_iteR, w_bind, w_kB, a_nmX, a_nmO, a_nmT, a_valO, a_bop, a_opM, a_rdv, a_rds, a_sd, a_sl, a_tst, a_boolD, a_tru, a_truM, a_andB, a_orB, a_notB, a_andX, a_orX, a_notX, a_ifX, a_caX, a_caM, a_rdsn, a_rdsc, a_consR, a_consM, a_tupX, a_lstX, a_ownX, a_badM, a_tmD, a_frzM, a_frzd, a_frzl, a_isiX, a_isiM, a_negX, a_intD, a_ptM, a_slX, a_slM, a_own, a_mtX, a_extX, a_popX, a_isOwn, a_isOwnd, a_isOwnn, a_ext, a_lstOf, a_lstM, a_tupOf, a_tupM, a_sq1, a_sq2, a_itX, a_it1, a_it2, a_it3, a_rngX, a_fmtX, a_fmtM, a_js0, a_js1, a_strD, a_own1, a_iniX, a_iniM, a_fldM, a_isEM, a_lcX, a_callX, w_call, w_okC, w_fval, w_fex, w_qE, w_qL, a_as0, a_asv, a_ass, a_argd, a_argl, a_ln0, a_lnv, a_lns, a_ll0, a_lld, a_lls, a_pl0, a_pl1, a_setL, a_omap, w_pSnx, w_pSrt, w_pSbk, w_pSct, w_pSex, w_skip, w_seq, w_onx, w_ort, w_obk, w_oct, w_oex, w_obad, w_oite, w_oite, w_on, w_set, w_kSet, a_csn, a_csd, a_csl, a_csx, a_slOd, a_slOl, w_kAs, w_kAsg, w_asg, w_kIf, w_if, w_ret, w_kDr, w_drop, w_raise, w_kFor, w_for, w_for0, w_pLnx, w_pLct, w_pLbk, w_pLrt, w_pLex, w_loop, w_kWt, w_kWf, w_kWd, w_kTt, w_kTf, w_try, w_pTnx, w_pTrt, w_pTbk, w_pTct, w_pTex, w_pk0, w_pk1, w_noEx, w_pNnx, w_pNrt, w_pNex, w_map, w_pMnx, w_pMrt, w_gO, w_gN, w_qB, w_pEnx, w_pErt, w_pEex, w_run, a_bk0, a_bkd, a_bkl, a_rho0, a_pind, a_pinl, a_nmG, a_nilG, a_consG, a_tupG, a_asgIx, a_setIx, a_augS, a_wp0, a_wp1, a_bR0, a_bR1, a_kd1, a_kd0, a_kdl, List.getElem?_cons_zero, List.getElem?_cons_succ, List.getElem?_nil, List.set_cons_zero, List.set_cons_succ, List.length_cons, List.length_nil, List.map_cons, List.map_nil, List.nil_append, List.cons_append, List.replicate_succ, List.replicate_zero, if_true, if_false, eq_self, decide_eq_true_eq, Bool.false_eq_true, and_true, true_and, Option.map_some, Option.map_none, not_true_eq_false, not_false_eq_true, forall_const, false_implies, true_implies, Nat.reduceAdd, Nat.reduceSub, Nat.reduceLeDiff, Nat.reduceLT, List.nodup_nil, List.nodup_cons, List.not_mem_nil, Bool.not_eq_true, decide_true, decide_false, Bool.not_true, Bool.not_false, reduceIte, reduceCtorEq, Nat.zero_add, ex, f4, hb]
      cases b with
      | false =>
        simp only [w_ok, w_ex, w_bad, w_pure, w_lsome, w_lnone, w_lite, w_ite, w_iteR, w_bind, w_kB, a_nmX, a_nmO, a_nmT, a_valO, a_bop, a_opM, a_rdv, a_rds, a_sd, a_sl, a_tst, a_boolD, a_tru, a_truM, a_andB, a_orB, a_notB, a_andX, a_orX, a_notX, a_ifX, a_caX, a_caM, a_rdsn, a_rdsc, a_consR, a_consM, a_tupX, a_lstX, a_ownX, a_badM, a_tmD, a_frzM, a_frzd, a_frzl, a_isiX, a_isiM, a_negX, a_intD, a_ptM, a_slX, a_slM, a_own, a_mtX, a_extX, a_popX, a_isOwn, a_isOwnd, a_isOwnn, a_ext, a_lstOf, a_lstM, a_tupOf, a_tupM, a_sq1, a_sq2, a_itX, a_it1, a_it2, a_it3, a_rngX, a_fmtX, a_fmtM, a_js0, a_js1, a_strD, a_own1, a_iniX, a_iniM, a_fldM, a_isEM, a_lcX, a_callX, w_call, w_okC, w_fval, w_fex, w_qE, w_qL, a_as0, a_asv, a_ass, a_argd, a_argl, a_ln0, a_lnv, a_lns, a_ll0, a_lld, a_lls, a_pl0, a_pl1, a_setL, a_omap, w_pSnx, w_pSrt, w_pSbk, w_pSct, w_pSex, w_skip, w_seq, w_onx, w_ort, w_obk, w_oct, w_oex, w_obad, w_oite, w_oite, w_on, w_set, w_kSet, a_csn, a_csd, a_csl, a_csx, a_slOd, a_slOl, w_kAs, w_kAsg, w_asg, w_kIf, w_if, w_ret, w_kDr, w_drop, w_raise, w_kFor, w_for, w_for0, w_pLnx, w_pLct, w_pLbk, w_pLrt, w_pLex, w_loop, w_kWt, w_kWf, w_kWd, w_kTt, w_kTf, w_try, w_pTnx, w_pTrt, w_pTbk, w_pTct, w_pTex, w_pk0, w_pk1, w_noEx, w_pNnx, w_pNrt, w_pNex, w_map, w_pMnx, w_pMrt, w_gO, w_gN, w_qB, w_pEnx, w_pErt, w_pEex, w_run, a_bk0, a_bkd, a_bkl, a_rho0, a_pind, a_pinl, a_nmG, a_nilG, a_consG, a_tupG, a_asgIx, a_setIx, a_augS, a_wp0, a_wp1, a_bR0, a_bR1, a_kd1, a_kd0, a_kdl, List.getElem?_cons_zero, List.getElem?_cons_succ, List.getElem?_nil, List.set_cons_zero, List.set_cons_succ, List.length_cons, List.length_nil, List.map_cons, List.map_nil, List.nil_append, List.cons_append, List.replicate_succ, List.replicate_zero, if_true, if_false, eq_self, decide_eq_true_eq, Bool.false_eq_true, and_true, true_and, Option.map_some, Option.map_none, not_true_eq_false, not_false_eq_true, forall_const, false_implies, true_implies, Nat.reduceAdd, Nat.reduceSub, Nat.reduceLeDiff, Nat.reduceLT, List.nodup_nil, List.nodup_cons, List.not_mem_nil, Bool.not_eq_true, decide_true, decide_false, Bool.not_true, Bool.not_false, reduceIte, reduceCtorEq, Nat.zero_add]
        exact ⟨ls, ds, _, _, by omega, h2, hT, rfl, rfl, rfl⟩
      | true =>
        obtain ⟨u, ds2, u0, u1, T2, e2'⟩ := take_spec (q := false) (m := 30) hT (by decide) (by decide)
        obtain ⟨t, ds3, ht, T3, e3'⟩ := law_text_spec (q := false) (b := decide (u = 0)) T2
        have hal : (ls.map lnD).length < 1000000 := by rw [List.length_map]; omega
        simp only [w_ok, w_ex, w_bad, w_pure, w_lsome, w_lnone, w_lite, w_ite, w_iteR, w_bind, w_kB, a_nmX, a_nmO, a_nmT, a_valO, a_bop, a_opM, a_rdv, a_rds, a_sd, a_sl, a_tst, a_boolD, a_tru, a_truM, a_andB, a_orB, a_notB, a_andX, a_orX, a_notX, a_ifX, a_caX, a_caM, a_rdsn, a_rdsc, a_consR, a_consM, a_tupX, a_lstX, a_ownX, a_badM, a_tmD, a_frzM, a_frzd, a_frzl, a_isiX, a_isiM, a_negX, a_intD, a_ptM, a_slX, a_slM, a_own, a_mtX, a_extX, a_popX, a_isOwn, a_isOwnd, a_isOwnn, a_ext, a_lstOf, a_lstM, a_tupOf, a_tupM, a_sq1, a_sq2, a_itX, a_it1, a_it2, a_it3, a_rngX, a_fmtX, a_fmtM, a_js0, a_js1, a_strD, a_own1, a_iniX, a_iniM, a_fldM, a_isEM, a_lcX, a_callX, w_call, w_okC, w_fval, w_fex, w_qE, w_qL, a_as0, a_asv, a_ass, a_argd, a_argl, a_ln0, a_lnv, a_lns, a_ll0, a_lld, a_lls, a_pl0, a_pl1, a_setL, a_omap, w_pSnx, w_pSrt, w_pSbk, w_pSct, w_pSex, w_skip, w_seq, w_onx, w_ort, w_obk, w_oct, w_oex, w_obad, w_oite, w_oite, w_on, w_set, w_kSet, a_csn, a_csd, a_csl, a_csx, a_slOd, a_slOl, w_kAs, w_kAsg, w_asg, w_kIf, w_if, w_ret, w_kDr, w_drop, w_raise, w_kFor, w_for, w_for0, w_pLnx, w_pLct, w_pLbk, w_pLrt, w_pLex, w_loop, w_kWt, w_kWf, w_kWd, w_kTt, w_kTf, w_try, w_pTnx, w_pTrt, w_pTbk, w_pTct, w_pTex, w_pk0, w_pk1, w_noEx, w_pNnx, w_pNrt, w_pNex, w_map, w_pMnx, w_pMrt, w_gO, w_gN, w_qB, w_pEnx, w_pErt, w_pEex, w_run, a_bk0, a_bkd, a_bkl, a_rho0, a_pind, a_pinl, a_nmG, a_nilG, a_consG, a_tupG, a_asgIx, a_setIx, a_augS, a_wp0, a_wp1, a_bR0, a_bR1, a_kd1, a_kd0, a_kdl, List.getElem?_cons_zero, List.getElem?_cons_succ, List.getElem?_nil, List.set_cons_zero, List.set_cons_succ, List.length_cons, List.length_nil, List.map_cons, List.map_nil, List.nil_append, List.cons_append, List.replicate_succ, List.replicate_zero, if_true, if_false, eq_self, decide_eq_true_eq, Bool.false_eq_true, and_true, true_and, Option.map_some, Option.map_none, not_true_eq_false, not_false_eq_true, forall_const, false_implies, true_implies, Nat.reduceAdd, Nat.reduceSub, Nat.reduceLeDiff, Nat.reduceLT, List.nodup_nil, List.nodup_cons, List.not_mem_nil, Bool.not_eq_true, decide_true, decide_false, Bool.not_true, Bool.not_false, reduceIte, reduceCtorEq, Nat.zero_add, e2', eqD_int, e3', addD_int, appD_eq, hal]
        refine ⟨ls ++ [⟨t, 0 + (j : Int) + 1, x⟩], ds3, _, _, by rw [List.length_append]; simp; omega, fun y hy => ?_, T3, rfl, rfl, by rw [List.map_append]; rfl⟩
        rcases List.mem_append.mp hy with hy | hy
        · exact h2 y hy
        · rw [List.mem_singleton] at hy
          subst hy
          exact ⟨ht, hx⟩
    · rintro d r acc ρ ⟨bs, ds, e2, rfl, hb, hT, hi, rfl⟩
      obtain ⟨i, rfl⟩ := hi d List.mem_cons_self
      rw [List.length_cons] at hb
      obtain ⟨u, ds2, u0, u1, T2, e2'⟩ := take_spec (q := false) (m := 2) hT (by decide) (by decide)
      refine ⟨_, rfl, ?_⟩
      have hal : (bs.map PyData.bool).length < 1000000 := by rw [List.length_map]; omega
      simp only [w_ok, w_ex, w_bad, w_pure, w_lsome, w_lnone, w_lite, w_ite, w_iteR, w_bind, w_kB, a_nmX, a_nmO, a_nmT, a_valO, a_bop, a_opM, a_rdv, a_rds, a_sd, a_sl, a_tst, a_boolD, a_tru, a_truM, a_andB, a_orB, a_notB, a_andX, a_orX, a_notX, a_ifX, a_caX, a_caM, a_rdsn, a_rdsc, a_consR, a_consM, a_tupX, a_lstX, a_ownX, a_badM, a_tmD, a_frzM, a_frzd, a_frzl, a_isiX, a_isiM, a_negX, a_intD, a_ptM, a_slX, a_slM, a_own, a_mtX, a_extX, a_popX, a_isOwn, a_isOwnd, a_isOwnn, a_ext, a_lstOf, a_lstM, a_tupOf, a_tupM, a_sq1, a_sq2, a_itX, a_it1, a_it2, a_it3, a_rngX, a_fmtX, a_fmtM, a_js0, a_js1, a_strD, a_own1, a_iniX, a_iniM, a_fldM, a_isEM, a_lcX, a_callX, w_call, w_okC, w_fval, w_fex, w_qE, w_qL, a_as0, a_asv, a_ass, a_argd, a_argl, a_ln0, a_lnv, a_lns, a_ll0, a_lld, a_lls, a_pl0, a_pl1, a_setL, a_omap, w_pSnx, w_pSrt, w_pSbk, w_pSct, w_pSex, w_skip, w_seq, w_onx, w_ort, w_obk, w_oct, w_oex, w_obad, w_oite, w_oite, w_on, w_set, w_kSet, a_csn, a_csd, a_csl, a_csx, a_slOd, a_slOl, w_kAs, w_kAsg, w_asg, w_kIf, w_if, w_ret, w_kDr, w_drop, w_raise, w_kFor, w_for, w_for0, w_pLnx, w_pLct, w_pLbk, w_pLrt, w_pLex, w_loop, w_kWt, w_kWf, w_kWd, w_kTt, w_kTf, w_try, w_pTnx, w_pTrt, w_pTbk, w_pTct, w_pTex, w_pk0, w_pk1, w_noEx, w_pNnx, w_pNrt, w_pNex, w_map, w_pMnx, w_pMrt, w_gO, w_gN, w_qB, w_pEnx, w_pErt, w_pEex, w_run, a_bk0, a_bkd, a_bkl, a_rho0, a_pind, a_pinl, a_nmG, a_nilG, a_consG, a_tupG, a_asgIx, a_setIx, a_augS, a_wp0, a_wp1, a_bR0, a_bR1, a_kd1, a_kd0, a_kdl, List.getElem?_cons_zero, List.getElem?_cons_succ, List.getElem?_nil, List.set_cons_zero, List.set_cons_succ, List.length_cons, List.length_nil, List.map_cons, List.map_nil, List.nil_append, List.cons_append, List.replicate_succ, List.replicate_zero, if_true, if_false, eq_self, decide_eq_true_eq, Bool.false_eq_true, and_true, true_and, Option.map_some, Option.map_none, not_true_eq_false, not_false_eq_true, forall_const, false_implies, true_implies, Nat.reduceAdd, Nat.reduceSub, Nat.reduceLeDiff, Nat.reduceLT, List.nodup_nil, List.nodup_cons, List.not_mem_nil, Bool.not_eq_true, decide_true, decide_false, Bool.not_true, Bool.not_false, reduceIte, reduceCtorEq, Nat.zero_add, e2', eqD_int, hal]
      exact ⟨bs ++ [decide (u = 0)], ds2, _, by rw [List.map_append]; rfl, by rw [List.length_append]; simp; omega, T2, fun d hd => hi d (List.mem_cons_of_mem _ hd), rfl⟩
end EV

namespace EV
open PySem PySem.Spec PyProof.Rows L2 Ver
theorem get_pr {l : List D} {k : Nat} (hl : ∀ y ∈ l, Pr y) (h : k < l.length) : ∃ z d, l[k] = .tuple [z, d] ∧ Dg d ∧ getD (.list l) (.int (0 + (k : Int))) = some (.tuple [z, d]) ∧ getD (.tuple [z, d]) (.int 1) = some d := by
  obtain ⟨z, d, e, hd⟩ := hl l[k] (List.getElem_mem h)
  exact ⟨z, d, e, hd, by rw [Int.zero_add]; exact get_list (by rw [List.getElem?_eq_getElem h, e]), get_tup (k := 1) rfl⟩
theorem shown_cons {one two : Bool} {k : Nat} {y : D} {r : List D} : shownFrom one two k (y :: r) = if valB one two (sndD y) = true then .int k :: shownFrom one two (k + 1) r else shownFrom one two (k + 1) r := id rfl
theorem k05_shown {l : List D} (hl : ∀ y ∈ l, Pr y) (hn : l.length < 1000) {i j : Int} {one two : Bool} (hi : i = if one then 1 else 0) (hj : j = if two then 1 else 0) {s0 s1 s2 s4 s5 s7 s9 s11 s12 s13 : Option Sl} (h13 : s13 = some (.l false l) ∨ s13 = some (.d (.list l))) {e3 e6 : Option Sl} (f3 : canSet (some e3) = true) (f6 : canSet (some e6) = true) {P : Post}
    (hk : ∀ e3 e6, canSet (some e3) = true → canSet (some e6) = true → P.nx [s0, s1, s2, e3, s4, s5, e6, s7, some (.d (.int i)), s9, some (.l false (shownFrom one two 0 l)), s11, s12, s13, some (.d (.int j))]) :
    okO P (forS (nmG 6) (seqS (setS 3 (callX F_law_at 2 (consR (valO (bop getD (valO (bop getD (nmO 13) (nmO 6))) (valO (pureM (.int 1))))) (consR (valO (tupX (consM (nmX 8) (consM (nmX 14) (pureM []))))) (pureM []))))) (seqS (ifS (tru (nmO 3))
  (seqS (dropS (tmD (mtX appD 10 (nmX 6)))) skipS)
  skipS) skipS)) (intsD 0 l.length) [s0, s1, s2, e3, s4, s5, e6, s7, some (.d (.int i)), s9, some (.l false []), s11, s12, s13, some (.d (.int j))]) := by
  refine for_rng (fun k ρ => ∃ (acc : List D) (e3 e6 : Option Sl), acc ++ shownFrom one two k (l.drop k) = shownFrom one two 0 l ∧ canSet (some e3) = true ∧ canSet (some e6) = true ∧ ρ = [s0, s1, s2, e3, s4, s5, e6, s7, some (.d (.int i)), s9, some (.l false acc), s11, s12, s13, some (.d (.int j))]) ⟨[], e3, e6, rfl, f3, f6, rfl⟩ ?_ ?_
  · rintro ρ ⟨acc, e3, e6, h1, f3, f6, rfl⟩
    rw [List.drop_length, shownFrom, List.append_nil] at h1
    rw [h1]
    exact hk e3 e6 f3 f6
  · rintro k ρ hk' ⟨acc, e3, e6, h1, f3, f6, rfl⟩
    obtain ⟨z, d, ed, hd, g1, g2⟩ := get_pr hl hk'
    have ea := at_int hd hi hj
    rw [List.drop_eq_getElem_cons hk', ed, shown_cons] at h1
    have al : acc.length < 1000000 := by
      have e1 := congrArg List.length h1
      have e2 := @shown_len one two l 0
      rw [List.length_append] at e1
      omega
    have hs : sndD (.tuple [z, d]) = d := rfl
    rw [hs] at h1
    rcases h13 with rfl | rfl
    all_goals
      simp only [w_ok, w_ex, w_bad, w_pure, w_lsome, w_lnone, w_lite, w_ite, w_iteR, w_bind, w_kB, a_nmX, a_nmO, a_nmT, a_valO, a_bop, a_opM, a_rdv, a_rds, a_sd, a_sl, a_tst, a_boolD, a_tru, a_truM, a_andB, a_orB, a_notB, a_andX, a_orX, a_notX, a_ifX, a_caX, a_caM, a_rdsn, a_rdsc, a_consR, a_consM, a_tupX, a_lstX, a_ownX, a_badM, a_tmD, a_frzM, a_frzd, a_frzl, a_isiX, a_isiM, a_negX, a_intD, a_ptM, a_slX, a_slM, a_own, a_mtX, a_extX, a_popX, a_isOwn, a_isOwnd, a_isOwnn, a_ext, a_lstOf, a_lstM, a_tupOf, a_tupM, a_sq1, a_sq2, a_itX, a_it1, a_it2, a_it3, a_rngX, a_fmtX, a_fmtM, a_js0, a_js1, a_strD, a_own1, a_iniX, a_iniM, a_fldM, a_isEM, a_lcX, a_callX, w_call, w_okC, w_fval, w_fex, w_qE, w_qL, a_as0, a_asv, a_ass, a_argd, a_argl, a_ln0, a_lnv, a_lns, a_ll0, a_lld, a_lls, a_pl0, a_pl1, a_setL, a_omap, w_pSnx, w_pSrt, w_pSbk, w_pSct, w_pSex, w_skip, w_seq, w_onx, w_ort, w_obk, w_oct, w_oex, w_obad, w_oite, w_oite, w_on, w_set, w_kSet, a_csn, a_csd, a_csl, a_csx, a_slOd, a_slOl, w_kAs, w_kAsg, w_asg, w_kIf, w_if, w_ret, w_kDr, w_drop, w_raise, w_kFor, w_for, w_for0, w_pLnx, w_pLct, w_pLbk, w_pLrt, w_pLex, w_loop, w_kWt, w_kWf, w_kWd, w_kTt, w_kTf, w_try, w_pTnx, w_pTrt, w_pTbk, w_pTct, w_pTex, w_pk0, w_pk1, w_noEx, w_pNnx, w_pNrt, w_pNex, w_map, w_pMnx, w_pMrt, w_gO, w_gN, w_qB, w_pEnx, w_pErt, w_pEex, w_run, a_bk0, a_bkd, a_bkl, a_rho0, a_pind, a_pinl, a_nmG, a_nilG, a_consG, a_tupG, a_asgIx, a_setIx, a_augS, a_wp0, a_wp1, a_bR0, a_bR1, a_kd1, a_kd0, a_kdl, List.getElem?_cons_zero, List.getElem?_cons_succ, List.getElem?_nil, List.set_cons_zero, List.set_cons_succ, List.length_cons, List.length_nil, List.map_cons, List.map_nil, List.nil_append, List.cons_append, List.replicate_succ, List.replicate_zero, if_true, if_false, eq_self, decide_eq_true_eq, Bool.false_eq_true, and_true, true_and, Option.map_some, Option.map_none, not_true_eq_false, not_false_eq_true, forall_const, false_implies, true_implies, Nat.reduceAdd, Nat.reduceSub, Nat.reduceLeDiff, Nat.reduceLT, List.nodup_nil, List.nodup_cons, List.not_mem_nil, Bool.not_eq_true, decide_true, decide_false, Bool.not_true, Bool.not_false, reduceIte, reduceCtorEq, Nat.zero_add, f3, f6, g1, g2, ea, tru_bool]
      cases hv : valB one two d with
      | true =>
        rw [hv, if_pos rfl] at h1
        simp only [w_ok, w_ex, w_bad, w_pure, w_lsome, w_lnone, w_lite, w_ite, w_iteR, w_bind, w_kB, a_nmX, a_nmO, a_nmT, a_valO, a_bop, a_opM, a_rdv, a_rds, a_sd, a_sl, a_tst, a_boolD, a_tru, a_truM, a_andB, a_orB, a_notB, a_andX, a_orX, a_notX, a_ifX, a_caX, a_caM, a_rdsn, a_rdsc, a_consR, a_consM, a_tupX, a_lstX, a_ownX, a_badM, a_tmD, a_frzM, a_frzd, a_frzl, a_isiX, a_isiM, a_negX, a_intD, a_ptM, a_slX, a_slM, a_own, a_mtX, a_extX, a_popX, a_isOwn, a_isOwnd, a_isOwnn, a_ext, a_lstOf, a_lstM, a_tupOf, a_tupM, a_sq1, a_sq2, a_itX, a_it1, a_it2, a_it3, a_rngX, a_fmtX, a_fmtM, a_js0, a_js1, a_strD, a_own1, a_iniX, a_iniM, a_fldM, a_isEM, a_lcX, a_callX, w_call, w_okC, w_fval, w_fex, w_qE, w_qL, a_as0, a_asv, a_ass, a_argd, a_argl, a_ln0, a_lnv, a_lns, a_ll0, a_lld, a_lls, a_pl0, a_pl1, a_setL, a_omap, w_pSnx, w_pSrt, w_pSbk, w_pSct, w_pSex, w_skip, w_seq, w_onx, w_ort, w_obk, w_oct, w_oex, w_obad, w_oite, w_oite, w_on, w_set, w_kSet, a_csn, a_csd, a_csl, a_csx, a_slOd, a_slOl, w_kAs, w_kAsg, w_asg, w_kIf, w_if, w_ret, w_kDr, w_drop, w_raise, w_kFor, w_for, w_for0, w_pLnx, w_pLct, w_pLbk, w_pLrt, w_pLex, w_loop, w_kWt, w_kWf, w_kWd, w_kTt, w_kTf, w_try, w_pTnx, w_pTrt, w_pTbk, w_pTct, w_pTex, w_pk0, w_pk1, w_noEx, w_pNnx, w_pNrt, w_pNex, w_map, w_pMnx, w_pMrt, w_gO, w_gN, w_qB, w_pEnx, w_pErt, w_pEex, w_run, a_bk0, a_bkd, a_bkl, a_rho0, a_pind, a_pinl, a_nmG, a_nilG, a_consG, a_tupG, a_asgIx, a_setIx, a_augS, a_wp0, a_wp1, a_bR0, a_bR1, a_kd1, a_kd0, a_kdl, List.getElem?_cons_zero, List.getElem?_cons_succ, List.getElem?_nil, List.set_cons_zero, List.set_cons_succ, List.length_cons, List.length_nil, List.map_cons, List.map_nil, List.nil_append, List.cons_append, List.replicate_succ, List.replicate_zero, if_true, if_false, eq_self, decide_eq_true_eq, Bool.false_eq_true, and_true, true_and, Option.map_some, Option.map_none, not_true_eq_false, not_false_eq_true, forall_const, false_implies, true_implies, Nat.reduceAdd, Nat.reduceSub, Nat.reduceLeDiff, Nat.reduceLT, List.nodup_nil, List.nodup_cons, List.not_mem_nil, Bool.not_eq_true, decide_true, decide_false, Bool.not_true, Bool.not_false, reduceIte, reduceCtorEq, Nat.zero_add, appD_eq, al]
        exact ⟨acc ++ [.int (0 + (k : Int))], _, _, by rw [List.append_assoc, Int.zero_add]; exact h1, rfl, rfl, rfl⟩
      | false =>
        rw [hv, if_neg (by decide)] at h1
        simp only [w_ok, w_ex, w_bad, w_pure, w_lsome, w_lnone, w_lite, w_ite, w_iteR, w_bind, w_kB, a_nmX, a_nmO, a_nmT, a_valO, a_bop, a_opM, a_rdv, a_rds, a_sd, a_sl, a_tst, a_boolD, a_tru, a_truM, a_andB, a_orB, a_notB, a_andX, a_orX, a_notX, a_ifX, a_caX, a_caM, a_rdsn, a_rdsc, a_consR, a_consM, a_tupX, a_lstX, a_ownX, a_badM, a_tmD, a_frzM, a_frzd, a_frzl, a_isiX, a_isiM, a_negX, a_intD, a_ptM, a_slX, a_slM, a_own, a_mtX, a_extX, a_popX, a_isOwn, a_isOwnd, a_isOwnn, a_ext, a_lstOf, a_lstM, a_tupOf, a_tupM, a_sq1, a_sq2, a_itX, a_it1, a_it2, a_it3, a_rngX, a_fmtX, a_fmtM, a_js0, a_js1, a_strD, a_own1, a_iniX, a_iniM, a_fldM, a_isEM, a_lcX, a_callX, w_call, w_okC, w_fval, w_fex, w_qE, w_qL, a_as0, a_asv, a_ass, a_argd, a_argl, a_ln0, a_lnv, a_lns, a_ll0, a_lld, a_lls, a_pl0, a_pl1, a_setL, a_omap, w_pSnx, w_pSrt, w_pSbk, w_pSct, w_pSex, w_skip, w_seq, w_onx, w_ort, w_obk, w_oct, w_oex, w_obad, w_oite, w_oite, w_on, w_set, w_kSet, a_csn, a_csd, a_csl, a_csx, a_slOd, a_slOl, w_kAs, w_kAsg, w_asg, w_kIf, w_if, w_ret, w_kDr, w_drop, w_raise, w_kFor, w_for, w_for0, w_pLnx, w_pLct, w_pLbk, w_pLrt, w_pLex, w_loop, w_kWt, w_kWf, w_kWd, w_kTt, w_kTf, w_try, w_pTnx, w_pTrt, w_pTbk, w_pTct, w_pTex, w_pk0, w_pk1, w_noEx, w_pNnx, w_pNrt, w_pNex, w_map, w_pMnx, w_pMrt, w_gO, w_gN, w_qB, w_pEnx, w_pErt, w_pEex, w_run, a_bk0, a_bkd, a_bkl, a_rho0, a_pind, a_pinl, a_nmG, a_nilG, a_consG, a_tupG, a_asgIx, a_setIx, a_augS, a_wp0, a_wp1, a_bR0, a_bR1, a_kd1, a_kd0, a_kdl, List.getElem?_cons_zero, List.getElem?_cons_succ, List.getElem?_nil, List.set_cons_zero, List.set_cons_succ, List.length_cons, List.length_nil, List.map_cons, List.map_nil, List.nil_append, List.cons_append, List.replicate_succ, List.replicate_zero, if_true, if_false, eq_self, decide_eq_true_eq, Bool.false_eq_true, and_true, true_and, Option.map_some, Option.map_none, not_true_eq_false, not_false_eq_true, forall_const, false_implies, true_implies, Nat.reduceAdd, Nat.reduceSub, Nat.reduceLeDiff, Nat.reduceLT, List.nodup_nil, List.nodup_cons, List.not_mem_nil, Bool.not_eq_true, decide_true, decide_false, Bool.not_true, Bool.not_false, reduceIte, reduceCtorEq, Nat.zero_add]
        exact ⟨acc, _, _, h1, rfl, rfl, rfl⟩
theorem k05_two {l : List D} (hl : ∀ y ∈ l, Pr y) (hn : l.length < 1000) {i : Int} {one : Bool} (hi : i = if one then 1 else 0) {s0 s1 s2 s4 s5 s7 s9 s11 s12 : Option Sl} {P : Post} {e3 e6 e10 e14 s13 : Option Sl}
    (hk : ∀ e3 e6 e10 e14 s13, canSet (some e3) = true → canSet (some e6) = true → canSet (some e10) = true → canSet (some e14) = true → (s13 = some (.l false l) ∨ s13 = some (.d (.list l))) → P.nx [s0, s1, s2, e3, s4, s5, e6, s7, some (.d (.int i)), s9, e10, s11, s12, s13, e14])
    (f3 : canSet (some e3) = true) (f6 : canSet (some e6) = true) (f10 : canSet (some e10) = true) (f14 : canSet (some e14) = true) (h13 : s13 = some (.l false l) ∨ s13 = some (.d (.list l))) :
    okO P (forS (nmG 14) (seqS (setS 10 (ownX (pureM []))) (seqS (forM (rngX rng1D (consM (caX lenD (consR (nmO 13) (pureM []))) (pureM []))) (nmG 6) (seqS (setS 3 (callX F_law_at 2 (consR (valO (bop getD (valO (bop getD (nmO 13) (nmO 6))) (valO (pureM (.int 1))))) (consR (valO (tupX (consM (nmX 8) (consM (nmX 14) (pureM []))))) (pureM []))))) (seqS (ifS (tru (nmO 3))
  (seqS (dropS (tmD (mtX appD 10 (nmX 6)))) skipS)
  skipS) skipS))) (seqS (ifS (tst (bop neD (valO (frzM (callX Fpresent 2 (consR (valO (nmX 13)) (consR (valO (tupX (consM (nmX 8) (consM (nmX 14) (pureM []))))) (pureM [])))))) (nmO 10)))
  (seqS (retS (tmD (pureM (.bool false)))) skipS)
  skipS) skipS))) [.int 0, .int 1] [s0, s1, s2, e3, s4, s5, e6, s7, some (.d (.int i)), s9, e10, s11, s12, s13, e14]) := by
  refine for_inv (fun ds ρ => (∀ d ∈ ds, ∃ b : Bool, d = .int (if b then 1 else 0)) ∧ ∃ e3 e6 e10 e14 s13, canSet (some e3) = true ∧ canSet (some e6) = true ∧ canSet (some e10) = true ∧ canSet (some e14) = true ∧ (s13 = some (.l false l) ∨ s13 = some (.d (.list l))) ∧ ρ = [s0, s1, s2, e3, s4, s5, e6, s7, some (.d (.int i)), s9, e10, s11, s12, s13, e14]) ?_ ?_ ⟨fun d hd => ?_, e3, e6, e10, e14, s13, f3, f6, f10, f14, h13, rfl⟩
  · rintro ρ ⟨_, e3, e6, e10, e14, s13, f3, f6, f10, f14, h13, rfl⟩
    exact hk e3 e6 e10 e14 s13 f3 f6 f10 f14 h13
  · rintro d r ρ ⟨hb, e3, e6, e10, e14, s13, f3, f6, f10, f14, h13, rfl⟩
    obtain ⟨two, hd⟩ := hb d List.mem_cons_self
    generalize hj : (if two = true then (1 : Int) else 0) = j at hd
    subst hd
    have rn := rngN (n := l.length) (by omega)
    have hp := present_int hl hn hi hj.symm
    have hs : neD (.list (shownFrom one two 0 l)) (.list (shownFrom one two 0 l)) = some (.bool false) := ne_self (n := 1) (sh_list fun y hy => shown_sh y hy) (by omega) rfl
    rcases h13 with rfl | rfl
    all_goals
      simp only [w_ok, w_ex, w_bad, w_pure, w_lsome, w_lnone, w_lite, w_ite, w_iteR, w_bind, w_kB, a_nmX, a_nmO, a_nmT, a_valO, a_bop, a_opM, a_rdv, a_rds, a_sd, a_sl, a_tst, a_boolD, a_tru, a_truM, a_andB, a_orB, a_notB, a_andX, a_orX, a_notX, a_ifX, a_caX, a_caM, a_rdsn, a_rdsc, a_consR, a_consM, a_tupX, a_lstX, a_ownX, a_badM, a_tmD, a_frzM, a_frzd, a_frzl, a_isiX, a_isiM, a_negX, a_intD, a_ptM, a_slX, a_slM, a_own, a_mtX, a_extX, a_popX, a_isOwn, a_isOwnd, a_isOwnn, a_ext, a_lstOf, a_lstM, a_tupOf, a_tupM, a_sq1, a_sq2, a_itX, a_it1, a_it2, a_it3, a_rngX, a_fmtX, a_fmtM, a_js0, a_js1, a_strD, a_own1, a_iniX, a_iniM, a_fldM, a_isEM, a_lcX, a_callX, w_call, w_okC, w_fval, w_fex, w_qE, w_qL, a_as0, a_asv, a_ass, a_argd, a_argl, a_ln0, a_lnv, a_lns, a_ll0, a_lld, a_lls, a_pl0, a_pl1, a_setL, a_omap, w_pSnx, w_pSrt, w_pSbk, w_pSct, w_pSex, w_skip, w_seq, w_onx, w_ort, w_obk, w_oct, w_oex, w_obad, w_oite, w_oite, w_on, w_set, w_kSet, a_csn, a_csd, a_csl, a_csx, a_slOd, a_slOl, w_kAs, w_kAsg, w_asg, w_kIf, w_if, w_ret, w_kDr, w_drop, w_raise, w_kFor, w_for, w_for0, w_pLnx, w_pLct, w_pLbk, w_pLrt, w_pLex, w_loop, w_kWt, w_kWf, w_kWd, w_kTt, w_kTf, w_try, w_pTnx, w_pTrt, w_pTbk, w_pTct, w_pTex, w_pk0, w_pk1, w_noEx, w_pNnx, w_pNrt, w_pNex, w_map, w_pMnx, w_pMrt, w_gO, w_gN, w_qB, w_pEnx, w_pErt, w_pEex, w_run, a_bk0, a_bkd, a_bkl, a_rho0, a_pind, a_pinl, a_nmG, a_nilG, a_consG, a_tupG, a_asgIx, a_setIx, a_augS, a_wp0, a_wp1, a_bR0, a_bR1, a_kd1, a_kd0, a_kdl, List.getElem?_cons_zero, List.getElem?_cons_succ, List.getElem?_nil, List.set_cons_zero, List.set_cons_succ, List.length_cons, List.length_nil, List.map_cons, List.map_nil, List.nil_append, List.cons_append, List.replicate_succ, List.replicate_zero, if_true, if_false, eq_self, decide_eq_true_eq, Bool.false_eq_true, and_true, true_and, Option.map_some, Option.map_none, not_true_eq_false, not_false_eq_true, forall_const, false_implies, true_implies, Nat.reduceAdd, Nat.reduceSub, Nat.reduceLeDiff, Nat.reduceLT, List.nodup_nil, List.nodup_cons, List.not_mem_nil, Bool.not_eq_true, decide_true, decide_false, Bool.not_true, Bool.not_false, reduceIte, reduceCtorEq, Nat.zero_add, f10, f14, len_lst, rn]
      refine k05_shown hl hn hi hj.symm (by first | exact .inl rfl | exact .inr rfl) f3 f6 fun e3 e6 f3 f6 => ?_
      simp only [w_ok, w_ex, w_bad, w_pure, w_lsome, w_lnone, w_lite, w_ite, w_iteR, w_bind, w_kB, a_nmX, a_nmO, a_nmT, a_valO, a_bop, a_opM, a_rdv, a_rds, a_sd, a_sl, a_tst, a_boolD, a_tru, a_truM, a_andB, a_orB, a_notB, a_andX, a_orX, a_notX, a_ifX, a_caX, a_caM, a_rdsn, a_rdsc, a_consR, a_consM, a_tupX, a_lstX, a_ownX, a_badM, a_tmD, a_frzM, a_frzd, a_frzl, a_isiX, a_isiM, a_negX, a_intD, a_ptM, a_slX, a_slM, a_own, a_mtX, a_extX, a_popX, a_isOwn, a_isOwnd, a_isOwnn, a_ext, a_lstOf, a_lstM, a_tupOf, a_tupM, a_sq1, a_sq2, a_itX, a_it1, a_it2, a_it3, a_rngX, a_fmtX, a_fmtM, a_js0, a_js1, a_strD, a_own1, a_iniX, a_iniM, a_fldM, a_isEM, a_lcX, a_callX, w_call, w_okC, w_fval, w_fex, w_qE, w_qL, a_as0, a_asv, a_ass, a_argd, a_argl, a_ln0, a_lnv, a_lns, a_ll0, a_lld, a_lls, a_pl0, a_pl1, a_setL, a_omap, w_pSnx, w_pSrt, w_pSbk, w_pSct, w_pSex, w_skip, w_seq, w_onx, w_ort, w_obk, w_oct, w_oex, w_obad, w_oite, w_oite, w_on, w_set, w_kSet, a_csn, a_csd, a_csl, a_csx, a_slOd, a_slOl, w_kAs, w_kAsg, w_asg, w_kIf, w_if, w_ret, w_kDr, w_drop, w_raise, w_kFor, w_for, w_for0, w_pLnx, w_pLct, w_pLbk, w_pLrt, w_pLex, w_loop, w_kWt, w_kWf, w_kWd, w_kTt, w_kTf, w_try, w_pTnx, w_pTrt, w_pTbk, w_pTct, w_pTex, w_pk0, w_pk1, w_noEx, w_pNnx, w_pNrt, w_pNex, w_map, w_pMnx, w_pMrt, w_gO, w_gN, w_qB, w_pEnx, w_pErt, w_pEex, w_run, a_bk0, a_bkd, a_bkl, a_rho0, a_pind, a_pinl, a_nmG, a_nilG, a_consG, a_tupG, a_asgIx, a_setIx, a_augS, a_wp0, a_wp1, a_bR0, a_bR1, a_kd1, a_kd0, a_kdl, List.getElem?_cons_zero, List.getElem?_cons_succ, List.getElem?_nil, List.set_cons_zero, List.set_cons_succ, List.length_cons, List.length_nil, List.map_cons, List.map_nil, List.nil_append, List.cons_append, List.replicate_succ, List.replicate_zero, if_true, if_false, eq_self, decide_eq_true_eq, Bool.false_eq_true, and_true, true_and, Option.map_some, Option.map_none, not_true_eq_false, not_false_eq_true, forall_const, false_implies, true_implies, Nat.reduceAdd, Nat.reduceSub, Nat.reduceLeDiff, Nat.reduceLT, List.nodup_nil, List.nodup_cons, List.not_mem_nil, Bool.not_eq_true, decide_true, decide_false, Bool.not_true, Bool.not_false, reduceIte, reduceCtorEq, Nat.zero_add, hp, hs]
      exact ⟨fun d hd => hb d (List.mem_cons_of_mem _ hd), _, _, _, _, _, f3, f6, rfl, rfl, .inr rfl, rfl⟩
  · simp only [List.mem_cons, List.not_mem_nil, or_false] at hd
    rcases hd with rfl | rfl
    · exact ⟨false, rfl⟩
    · exact ⟨true, rfl⟩
end EV

namespace EV
open PySem PySem.Spec PyProof.Rows L2 Ver
theorem mrk_eq' : (Str.ofString "+-*/(){};,=<>!:.?&|") = MRK := rfl
theorem due_sh {t : Str} (ht : Tx 150 t) {r : Int} : Sh 7 (if bad1 (cs t) < (cs t).length then badD r (bad1 (cs t)) else .list (tksF t (.int r) 0)) ∧ noflat (if bad1 (cs t) < (cs t).length then badD r (bad1 (cs t)) else .list (tksF t (.int r) 0)) = true := by
  split
  · refine ⟨sh_tup (n := 6) fun d hd => ?_, rfl⟩
    simp only [List.mem_cons, List.not_mem_nil, or_false] at hd
    rcases hd with rfl | rfl | rfl | rfl
    · exact sh_str (sok_iff.mpr (by decide +kernel))
    · exact sh_int
    · exact sh_int
    · exact sh_bool
  · exact ⟨(sh_list fun y hy => tks_sh ht.2 rfl y hy).mono (by omega), rfl⟩
theorem law_tail {S due : D} {a r : D} {ls : List Ln} {n : Nat} {tx : D} {ds5 : List D} (l1 : ls.length ≤ n) (hn : n < 8) (l2 : ∀ x ∈ ls, LnOk x) {x4 x6 : Option Sl} (f4 : canSet (some x4) = true) (f6 : canSet (some x6) = true) :
    okO (pEnd [Sl.d S] (fun tm as => tm = Tm.d (.bool true) ∧ as = [Sl.d S]) noF) ((seqS (setS 13 (callX F_law_told 1 (consR (valO (frzM (lstOf (nmO 7)))) (pureM [])))) (seqS (ifS (tst (bop neD (nmO 13) (valO (frzM (callX F_law_due 1 (consR (valO (nmX 7)) (pureM [])))))))
  (seqS (retS (tmD (pureM (.bool false)))) skipS)
  skipS) (seqS (ifS (notB (tru (valO (isiX "list" (nmO 13)))))
  (seqS (retS (tmD (pureM (.bool true)))) skipS)
  skipS) (seqS (forM (itX (tupX (consM (pureM (.int 0)) (consM (pureM (.int 1)) (pureM []))))) (nmG 8) (seqS (forM (itX (tupX (consM (pureM (.int 0)) (consM (pureM (.int 1)) (pureM []))))) (nmG 14) (seqS (setS 10 (ownX (pureM []))) (seqS (forM (rngX rng1D (consM (caX lenD (consR (nmO 13) (pureM []))) (pureM []))) (nmG 6) (seqS (setS 3 (callX F_law_at 2 (consR (valO (bop getD (valO (bop getD (nmO 13) (nmO 6))) (valO (pureM (.int 1))))) (consR (valO (tupX (consM (nmX 8) (consM (nmX 14) (pureM []))))) (pureM []))))) (seqS (ifS (tru (nmO 3))
  (seqS (dropS (tmD (mtX appD 10 (nmX 6)))) skipS)
  skipS) skipS))) (seqS (ifS (tst (bop neD (valO (frzM (callX Fpresent 2 (consR (valO (nmX 13)) (consR (valO (tupX (consM (nmX 8) (consM (nmX 14) (pureM []))))) (pureM [])))))) (nmO 10)))
  (seqS (retS (tmD (pureM (.bool false)))) skipS)
  skipS) skipS)))) skipS)) (seqS (retS (tmD (pureM (.bool true)))) skipS))))) [some (.d S), some (.d a), none, none, x4, some (.d due), x6, some (.l false (ls.map lnD)), none, some (.d r), none, some (.l false ds5), some (.d tx), none, none]) := by
  have h9 : ∀ x ∈ ls, x.t.length ≤ 900 := fun x hx => by have := (l2 x hx).1.1; omega
  have et := told_spec' h9 (by omega)
  obtain ⟨tm, ed, ef⟩ := due_spec h9 (by omega)
  obtain ⟨sh, nf, hp⟩ := fr_sh l2
  have hne := ne_self sh (by omega) nf
  have ntk : frD (foldSp [] 0 ls) = frD (foldSp [] 0 ls) := rfl
  cases hfr : foldSp [] 0 ls with
  | ok l =>
    rw [hfr] at et ef hne
    obtain ⟨p1, p2⟩ := hp l hfr
    have hne : neD (.list l) (.list l) = some (.bool false) := hne
    have ef : frzT tm = .list l := ef
    simp only [w_ok, w_ex, w_bad, w_pure, w_lsome, w_lnone, w_lite, w_ite, w_iteR, w_bind, w_kB, a_nmX, a_nmO, a_nmT, a_valO, a_bop, a_opM, a_rdv, a_rds, a_sd, a_sl, a_tst, a_boolD, a_tru, a_truM, a_andB, a_orB, a_notB, a_andX, a_orX, a_notX, a_ifX, a_caX, a_caM, a_rdsn, a_rdsc, a_consR, a_consM, a_tupX, a_lstX, a_ownX, a_badM, a_tmD, a_frzM, a_frzd, a_frzl, a_isiX, a_isiM, a_negX, a_intD, a_ptM, a_slX, a_slM, a_own, a_mtX, a_extX, a_popX, a_isOwn, a_isOwnd, a_isOwnn, a_ext, a_lstOf, a_lstM, a_tupOf, a_tupM, a_sq1, a_sq2, a_itX, a_it1, a_it2, a_it3, a_rngX, a_fmtX, a_fmtM, a_js0, a_js1, a_strD, a_own1, a_iniX, a_iniM, a_fldM, a_isEM, a_lcX, a_callX, w_call, w_okC, w_fval, w_fex, w_qE, w_qL, a_as0, a_asv, a_ass, a_argd, a_argl, a_ln0, a_lnv, a_lns, a_ll0, a_lld, a_lls, a_pl0, a_pl1, a_setL, a_omap, w_pSnx, w_pSrt, w_pSbk, w_pSct, w_pSex, w_skip, w_seq, w_onx, w_ort, w_obk, w_oct, w_oex, w_obad, w_oite, w_oite, w_on, w_set, w_kSet, a_csn, a_csd, a_csl, a_csx, a_slOd, a_slOl, w_kAs, w_kAsg, w_asg, w_kIf, w_if, w_ret, w_kDr, w_drop, w_raise, w_kFor, w_for, w_for0, w_pLnx, w_pLct, w_pLbk, w_pLrt, w_pLex, w_loop, w_kWt, w_kWf, w_kWd, w_kTt, w_kTf, w_try, w_pTnx, w_pTrt, w_pTbk, w_pTct, w_pTex, w_pk0, w_pk1, w_noEx, w_pNnx, w_pNrt, w_pNex, w_map, w_pMnx, w_pMrt, w_gO, w_gN, w_qB, w_pEnx, w_pErt, w_pEex, w_run, a_bk0, a_bkd, a_bkl, a_rho0, a_pind, a_pinl, a_nmG, a_nilG, a_consG, a_tupG, a_asgIx, a_setIx, a_augS, a_wp0, a_wp1, a_bR0, a_bR1, a_kd1, a_kd0, a_kdl, List.getElem?_cons_zero, List.getElem?_cons_succ, List.getElem?_nil, List.set_cons_zero, List.set_cons_succ, List.length_cons, List.length_nil, List.map_cons, List.map_nil, List.nil_append, List.cons_append, List.replicate_succ, List.replicate_zero, if_true, if_false, eq_self, decide_eq_true_eq, Bool.false_eq_true, and_true, true_and, Option.map_some, Option.map_none, not_true_eq_false, not_false_eq_true, forall_const, false_implies, true_implies, Nat.reduceAdd, Nat.reduceSub, Nat.reduceLeDiff, Nat.reduceLT, List.nodup_nil, List.nodup_cons, List.not_mem_nil, Bool.not_eq_true, decide_true, decide_false, Bool.not_true, Bool.not_false, reduceIte, reduceCtorEq, Nat.zero_add, et, ed, ef, hne, isLst_list, tru_bool]
    generalize hdd : [PyData.int 0, PyData.int 1] = dd0
    refine @for_inv _ _ _ (fun dd ρ => (∀ d ∈ dd, ∃ b : Bool, d = .int (if b then 1 else 0)) ∧ ∃ e3 e6 e8 e10 e14 s13 s7, ρ = [some (.d S), some (.d a), none, e3, x4, some (.d due), e6, s7, e8, some (.d r), e10, some (.l false ds5), some (.d tx), s13, e14] ∧ canSet (some e3) = true ∧ canSet (some e6) = true ∧ canSet (some e8) = true ∧ canSet (some e10) = true ∧ canSet (some e14) = true ∧ (s13 = some (.l false l) ∨ s13 = some (.d (.list l)))) ?_ ?_ _ _ ⟨fun d hd => ?_, _, _, _, _, _, _, _, rfl, rfl, f6, rfl, rfl, rfl, .inl rfl⟩
    · rintro ρ ⟨_, e3, e6, e8, e10, e14, s13, s7, rfl, f3, f6, f8, f10, f14, h13⟩
      simp only [w_ok, w_ex, w_bad, w_pure, w_lsome, w_lnone, w_lite, w_ite, w_iteR, w_bind, w_kB, a_nmX, a_nmO, a_nmT, a_valO, a_bop, a_opM, a_rdv, a_rds, a_sd, a_sl, a_tst, a_boolD, a_tru, a_truM, a_andB, a_orB, a_notB, a_andX, a_orX, a_notX, a_ifX, a_caX, a_caM, a_rdsn, a_rdsc, a_consR, a_consM, a_tupX, a_lstX, a_ownX, a_badM, a_tmD, a_frzM, a_frzd, a_frzl, a_isiX, a_isiM, a_negX, a_intD, a_ptM, a_slX, a_slM, a_own, a_mtX, a_extX, a_popX, a_isOwn, a_isOwnd, a_isOwnn, a_ext, a_lstOf, a_lstM, a_tupOf, a_tupM, a_sq1, a_sq2, a_itX, a_it1, a_it2, a_it3, a_rngX, a_fmtX, a_fmtM, a_js0, a_js1, a_strD, a_own1, a_iniX, a_iniM, a_fldM, a_isEM, a_lcX, a_callX, w_call, w_okC, w_fval, w_fex, w_qE, w_qL, a_as0, a_asv, a_ass, a_argd, a_argl, a_ln0, a_lnv, a_lns, a_ll0, a_lld, a_lls, a_pl0, a_pl1, a_setL, a_omap, w_pSnx, w_pSrt, w_pSbk, w_pSct, w_pSex, w_skip, w_seq, w_onx, w_ort, w_obk, w_oct, w_oex, w_obad, w_oite, w_oite, w_on, w_set, w_kSet, a_csn, a_csd, a_csl, a_csx, a_slOd, a_slOl, w_kAs, w_kAsg, w_asg, w_kIf, w_if, w_ret, w_kDr, w_drop, w_raise, w_kFor, w_for, w_for0, w_pLnx, w_pLct, w_pLbk, w_pLrt, w_pLex, w_loop, w_kWt, w_kWf, w_kWd, w_kTt, w_kTf, w_try, w_pTnx, w_pTrt, w_pTbk, w_pTct, w_pTex, w_pk0, w_pk1, w_noEx, w_pNnx, w_pNrt, w_pNex, w_map, w_pMnx, w_pMrt, w_gO, w_gN, w_qB, w_pEnx, w_pErt, w_pEex, w_run, a_bk0, a_bkd, a_bkl, a_rho0, a_pind, a_pinl, a_nmG, a_nilG, a_consG, a_tupG, a_asgIx, a_setIx, a_augS, a_wp0, a_wp1, a_bR0, a_bR1, a_kd1, a_kd0, a_kdl, List.getElem?_cons_zero, List.getElem?_cons_succ, List.getElem?_nil, List.set_cons_zero, List.set_cons_succ, List.length_cons, List.length_nil, List.map_cons, List.map_nil, List.nil_append, List.cons_append, List.replicate_succ, List.replicate_zero, if_true, if_false, eq_self, decide_eq_true_eq, Bool.false_eq_true, and_true, true_and, Option.map_some, Option.map_none, not_true_eq_false, not_false_eq_true, forall_const, false_implies, true_implies, Nat.reduceAdd, Nat.reduceSub, Nat.reduceLeDiff, Nat.reduceLT, List.nodup_nil, List.nodup_cons, List.not_mem_nil, Bool.not_eq_true, decide_true, decide_false, Bool.not_true, Bool.not_false, reduceIte, reduceCtorEq, Nat.zero_add]
    · rintro d rr ρ ⟨hb, e3, e6, e8, e10, e14, s13, s7, rfl, f3, f6, f8, f10, f14, h13⟩
      obtain ⟨one, hd⟩ := hb d List.mem_cons_self
      generalize hi : (if one = true then (1 : Int) else 0) = i at hd
      subst hd
      simp only [w_ok, w_ex, w_bad, w_pure, w_lsome, w_lnone, w_lite, w_ite, w_iteR, w_bind, w_kB, a_nmX, a_nmO, a_nmT, a_valO, a_bop, a_opM, a_rdv, a_rds, a_sd, a_sl, a_tst, a_boolD, a_tru, a_truM, a_andB, a_orB, a_notB, a_andX, a_orX, a_notX, a_ifX, a_caX, a_caM, a_rdsn, a_rdsc, a_consR, a_consM, a_tupX, a_lstX, a_ownX, a_badM, a_tmD, a_frzM, a_frzd, a_frzl, a_isiX, a_isiM, a_negX, a_intD, a_ptM, a_slX, a_slM, a_own, a_mtX, a_extX, a_popX, a_isOwn, a_isOwnd, a_isOwnn, a_ext, a_lstOf, a_lstM, a_tupOf, a_tupM, a_sq1, a_sq2, a_itX, a_it1, a_it2, a_it3, a_rngX, a_fmtX, a_fmtM, a_js0, a_js1, a_strD, a_own1, a_iniX, a_iniM, a_fldM, a_isEM, a_lcX, a_callX, w_call, w_okC, w_fval, w_fex, w_qE, w_qL, a_as0, a_asv, a_ass, a_argd, a_argl, a_ln0, a_lnv, a_lns, a_ll0, a_lld, a_lls, a_pl0, a_pl1, a_setL, a_omap, w_pSnx, w_pSrt, w_pSbk, w_pSct, w_pSex, w_skip, w_seq, w_onx, w_ort, w_obk, w_oct, w_oex, w_obad, w_oite, w_oite, w_on, w_set, w_kSet, a_csn, a_csd, a_csl, a_csx, a_slOd, a_slOl, w_kAs, w_kAsg, w_asg, w_kIf, w_if, w_ret, w_kDr, w_drop, w_raise, w_kFor, w_for, w_for0, w_pLnx, w_pLct, w_pLbk, w_pLrt, w_pLex, w_loop, w_kWt, w_kWf, w_kWd, w_kTt, w_kTf, w_try, w_pTnx, w_pTrt, w_pTbk, w_pTct, w_pTex, w_pk0, w_pk1, w_noEx, w_pNnx, w_pNrt, w_pNex, w_map, w_pMnx, w_pMrt, w_gO, w_gN, w_qB, w_pEnx, w_pErt, w_pEex, w_run, a_bk0, a_bkd, a_bkl, a_rho0, a_pind, a_pinl, a_nmG, a_nilG, a_consG, a_tupG, a_asgIx, a_setIx, a_augS, a_wp0, a_wp1, a_bR0, a_bR1, a_kd1, a_kd0, a_kdl, List.getElem?_cons_zero, List.getElem?_cons_succ, List.getElem?_nil, List.set_cons_zero, List.set_cons_succ, List.length_cons, List.length_nil, List.map_cons, List.map_nil, List.nil_append, List.cons_append, List.replicate_succ, List.replicate_zero, if_true, if_false, eq_self, decide_eq_true_eq, Bool.false_eq_true, and_true, true_and, Option.map_some, Option.map_none, not_true_eq_false, not_false_eq_true, forall_const, false_implies, true_implies, Nat.reduceAdd, Nat.reduceSub, Nat.reduceLeDiff, Nat.reduceLT, List.nodup_nil, List.nodup_cons, List.not_mem_nil, Bool.not_eq_true, decide_true, decide_false, Bool.not_true, Bool.not_false, reduceIte, reduceCtorEq, Nat.zero_add, f8, it01]
      refine k05_two p1 (by omega) hi.symm (fun e3 e6 e10 e14 s13 f3 f6 f10 f14 h13 => ?_) f3 f6 f10 f14 h13
      simp only [w_ok, w_ex, w_bad, w_pure, w_lsome, w_lnone, w_lite, w_ite, w_iteR, w_bind, w_kB, a_nmX, a_nmO, a_nmT, a_valO, a_bop, a_opM, a_rdv, a_rds, a_sd, a_sl, a_tst, a_boolD, a_tru, a_truM, a_andB, a_orB, a_notB, a_andX, a_orX, a_notX, a_ifX, a_caX, a_caM, a_rdsn, a_rdsc, a_consR, a_consM, a_tupX, a_lstX, a_ownX, a_badM, a_tmD, a_frzM, a_frzd, a_frzl, a_isiX, a_isiM, a_negX, a_intD, a_ptM, a_slX, a_slM, a_own, a_mtX, a_extX, a_popX, a_isOwn, a_isOwnd, a_isOwnn, a_ext, a_lstOf, a_lstM, a_tupOf, a_tupM, a_sq1, a_sq2, a_itX, a_it1, a_it2, a_it3, a_rngX, a_fmtX, a_fmtM, a_js0, a_js1, a_strD, a_own1, a_iniX, a_iniM, a_fldM, a_isEM, a_lcX, a_callX, w_call, w_okC, w_fval, w_fex, w_qE, w_qL, a_as0, a_asv, a_ass, a_argd, a_argl, a_ln0, a_lnv, a_lns, a_ll0, a_lld, a_lls, a_pl0, a_pl1, a_setL, a_omap, w_pSnx, w_pSrt, w_pSbk, w_pSct, w_pSex, w_skip, w_seq, w_onx, w_ort, w_obk, w_oct, w_oex, w_obad, w_oite, w_oite, w_on, w_set, w_kSet, a_csn, a_csd, a_csl, a_csx, a_slOd, a_slOl, w_kAs, w_kAsg, w_asg, w_kIf, w_if, w_ret, w_kDr, w_drop, w_raise, w_kFor, w_for, w_for0, w_pLnx, w_pLct, w_pLbk, w_pLrt, w_pLex, w_loop, w_kWt, w_kWf, w_kWd, w_kTt, w_kTf, w_try, w_pTnx, w_pTrt, w_pTbk, w_pTct, w_pTex, w_pk0, w_pk1, w_noEx, w_pNnx, w_pNrt, w_pNex, w_map, w_pMnx, w_pMrt, w_gO, w_gN, w_qB, w_pEnx, w_pErt, w_pEex, w_run, a_bk0, a_bkd, a_bkl, a_rho0, a_pind, a_pinl, a_nmG, a_nilG, a_consG, a_tupG, a_asgIx, a_setIx, a_augS, a_wp0, a_wp1, a_bR0, a_bR1, a_kd1, a_kd0, a_kdl, List.getElem?_cons_zero, List.getElem?_cons_succ, List.getElem?_nil, List.set_cons_zero, List.set_cons_succ, List.length_cons, List.length_nil, List.map_cons, List.map_nil, List.nil_append, List.cons_append, List.replicate_succ, List.replicate_zero, if_true, if_false, eq_self, decide_eq_true_eq, Bool.false_eq_true, and_true, true_and, Option.map_some, Option.map_none, not_true_eq_false, not_false_eq_true, forall_const, false_implies, true_implies, Nat.reduceAdd, Nat.reduceSub, Nat.reduceLeDiff, Nat.reduceLT, List.nodup_nil, List.nodup_cons, List.not_mem_nil, Bool.not_eq_true, decide_true, decide_false, Bool.not_true, Bool.not_false, reduceIte, reduceCtorEq, Nat.zero_add]
      exact ⟨fun d hd => hb d (List.mem_cons_of_mem _ hd), _, _, _, _, _, _, _, rfl, f3, f6, rfl, f10, f14, h13⟩
    · subst hdd
      simp only [List.mem_cons, List.not_mem_nil, or_false] at hd
      rcases hd with rfl | rfl
      · exact ⟨false, rfl⟩
      · exact ⟨true, rfl⟩
  | bad p c =>
    rw [hfr] at et ef hne
    have hl : tyIs "list" (frD (.bad p c)) = false := id rfl
    simp only [w_ok, w_ex, w_bad, w_pure, w_lsome, w_lnone, w_lite, w_ite, w_iteR, w_bind, w_kB, a_nmX, a_nmO, a_nmT, a_valO, a_bop, a_opM, a_rdv, a_rds, a_sd, a_sl, a_tst, a_boolD, a_tru, a_truM, a_andB, a_orB, a_notB, a_andX, a_orX, a_notX, a_ifX, a_caX, a_caM, a_rdsn, a_rdsc, a_consR, a_consM, a_tupX, a_lstX, a_ownX, a_badM, a_tmD, a_frzM, a_frzd, a_frzl, a_isiX, a_isiM, a_negX, a_intD, a_ptM, a_slX, a_slM, a_own, a_mtX, a_extX, a_popX, a_isOwn, a_isOwnd, a_isOwnn, a_ext, a_lstOf, a_lstM, a_tupOf, a_tupM, a_sq1, a_sq2, a_itX, a_it1, a_it2, a_it3, a_rngX, a_fmtX, a_fmtM, a_js0, a_js1, a_strD, a_own1, a_iniX, a_iniM, a_fldM, a_isEM, a_lcX, a_callX, w_call, w_okC, w_fval, w_fex, w_qE, w_qL, a_as0, a_asv, a_ass, a_argd, a_argl, a_ln0, a_lnv, a_lns, a_ll0, a_lld, a_lls, a_pl0, a_pl1, a_setL, a_omap, w_pSnx, w_pSrt, w_pSbk, w_pSct, w_pSex, w_skip, w_seq, w_onx, w_ort, w_obk, w_oct, w_oex, w_obad, w_oite, w_oite, w_on, w_set, w_kSet, a_csn, a_csd, a_csl, a_csx, a_slOd, a_slOl, w_kAs, w_kAsg, w_asg, w_kIf, w_if, w_ret, w_kDr, w_drop, w_raise, w_kFor, w_for, w_for0, w_pLnx, w_pLct, w_pLbk, w_pLrt, w_pLex, w_loop, w_kWt, w_kWf, w_kWd, w_kTt, w_kTf, w_try, w_pTnx, w_pTrt, w_pTbk, w_pTct, w_pTex, w_pk0, w_pk1, w_noEx, w_pNnx, w_pNrt, w_pNex, w_map, w_pMnx, w_pMrt, w_gO, w_gN, w_qB, w_pEnx, w_pErt, w_pEex, w_run, a_bk0, a_bkd, a_bkl, a_rho0, a_pind, a_pinl, a_nmG, a_nilG, a_consG, a_tupG, a_asgIx, a_setIx, a_augS, a_wp0, a_wp1, a_bR0, a_bR1, a_kd1, a_kd0, a_kdl, List.getElem?_cons_zero, List.getElem?_cons_succ, List.getElem?_nil, List.set_cons_zero, List.set_cons_succ, List.length_cons, List.length_nil, List.map_cons, List.map_nil, List.nil_append, List.cons_append, List.replicate_succ, List.replicate_zero, if_true, if_false, eq_self, decide_eq_true_eq, Bool.false_eq_true, and_true, true_and, Option.map_some, Option.map_none, not_true_eq_false, not_false_eq_true, forall_const, false_implies, true_implies, Nat.reduceAdd, Nat.reduceSub, Nat.reduceLeDiff, Nat.reduceLT, List.nodup_nil, List.nodup_cons, List.not_mem_nil, Bool.not_eq_true, decide_true, decide_false, Bool.not_true, Bool.not_false, reduceIte, reduceCtorEq, Nat.zero_add, et, ed, ef, hne, hl, tru_bool]
  | many =>
    rw [hfr] at et ef hne
    have hl : tyIs "list" (frD .many) = false := id rfl
    simp only [w_ok, w_ex, w_bad, w_pure, w_lsome, w_lnone, w_lite, w_ite, w_iteR, w_bind, w_kB, a_nmX, a_nmO, a_nmT, a_valO, a_bop, a_opM, a_rdv, a_rds, a_sd, a_sl, a_tst, a_boolD, a_tru, a_truM, a_andB, a_orB, a_notB, a_andX, a_orX, a_notX, a_ifX, a_caX, a_caM, a_rdsn, a_rdsc, a_consR, a_consM, a_tupX, a_lstX, a_ownX, a_badM, a_tmD, a_frzM, a_frzd, a_frzl, a_isiX, a_isiM, a_negX, a_intD, a_ptM, a_slX, a_slM, a_own, a_mtX, a_extX, a_popX, a_isOwn, a_isOwnd, a_isOwnn, a_ext, a_lstOf, a_lstM, a_tupOf, a_tupM, a_sq1, a_sq2, a_itX, a_it1, a_it2, a_it3, a_rngX, a_fmtX, a_fmtM, a_js0, a_js1, a_strD, a_own1, a_iniX, a_iniM, a_fldM, a_isEM, a_lcX, a_callX, w_call, w_okC, w_fval, w_fex, w_qE, w_qL, a_as0, a_asv, a_ass, a_argd, a_argl, a_ln0, a_lnv, a_lns, a_ll0, a_lld, a_lls, a_pl0, a_pl1, a_setL, a_omap, w_pSnx, w_pSrt, w_pSbk, w_pSct, w_pSex, w_skip, w_seq, w_onx, w_ort, w_obk, w_oct, w_oex, w_obad, w_oite, w_oite, w_on, w_set, w_kSet, a_csn, a_csd, a_csl, a_csx, a_slOd, a_slOl, w_kAs, w_kAsg, w_asg, w_kIf, w_if, w_ret, w_kDr, w_drop, w_raise, w_kFor, w_for, w_for0, w_pLnx, w_pLct, w_pLbk, w_pLrt, w_pLex, w_loop, w_kWt, w_kWf, w_kWd, w_kTt, w_kTf, w_try, w_pTnx, w_pTrt, w_pTbk, w_pTct, w_pTex, w_pk0, w_pk1, w_noEx, w_pNnx, w_pNrt, w_pNex, w_map, w_pMnx, w_pMrt, w_gO, w_gN, w_qB, w_pEnx, w_pErt, w_pEex, w_run, a_bk0, a_bkd, a_bkl, a_rho0, a_pind, a_pinl, a_nmG, a_nilG, a_consG, a_tupG, a_asgIx, a_setIx, a_augS, a_wp0, a_wp1, a_bR0, a_bR1, a_kd1, a_kd0, a_kdl, List.getElem?_cons_zero, List.getElem?_cons_succ, List.getElem?_nil, List.set_cons_zero, List.set_cons_succ, List.length_cons, List.length_nil, List.map_cons, List.map_nil, List.nil_append, List.cons_append, List.replicate_succ, List.replicate_zero, if_true, if_false, eq_self, decide_eq_true_eq, Bool.false_eq_true, and_true, true_and, Option.map_some, Option.map_none, not_true_eq_false, not_false_eq_true, forall_const, false_implies, true_implies, Nat.reduceAdd, Nat.reduceSub, Nat.reduceLeDiff, Nat.reduceLT, List.nodup_nil, List.nodup_cons, List.not_mem_nil, Bool.not_eq_true, decide_true, decide_false, Bool.not_true, Bool.not_false, reduceIte, reduceCtorEq, Nat.zero_add, et, ed, ef, hne, hl, tru_bool]
theorem law_spec (ns : List Int) : Flaw [.d (.list (ns.map .int))] = .val (.d (.bool true)) [.d (.list (ns.map .int))] := by
  apply okF_eq
  unfold Flaw
  rw [w_run]
  unfold Blaw
  obtain ⟨ds0, T0, e0⟩ := tape_spec ns 0
  obtain ⟨u1, ds1, _, _, T1, e1⟩ := take_spec (q := false) (m := 3) T0 (by decide) (by decide)
  obtain ⟨t, ds2, ht, T2, e2⟩ := law_text_spec (q := false) (b := decide (u1 = 0)) T1
  obtain ⟨r, ds3, r0, r1, T3, e3⟩ := take_spec (q := false) (m := 50) T2 (by decide) (by decide)
  obtain ⟨n, ds4, n0, n1, T4, e4⟩ := take_spec (q := false) (m := 8) T3 (by decide) (by decide)
  obtain ⟨n, rfl⟩ : ∃ k : Nat, n = k := ⟨n.toNat, by omega⟩
  have ht9 : t.length ≤ 900 := by have := ht.1; omega
  have ew := wrong_spec ht9
  obtain ⟨tm, ec, ef⟩ := cut_spec (r := r) ht9 ⟨r0, by omega⟩
  have hsh := due_sh (r := r) ht
  have rn := rngN (n := n) (by omega)
  generalize hdue : (if bad1 (cs t) < (cs t).length then badD r (bad1 (cs t)) else PyData.list (tksF t (.int r) 0)) = due at ef hsh
  have hne := ne_self hsh.1 (by omega) hsh.2
  generalize ns.map PyData.int = S at *
  rw [mrk_eq']
  generalize MRK = mk
  simp only [w_ok, w_ex, w_bad, w_pure, w_lsome, w_lnone, w_lite, w_ite, w_iteR, w_bind, w_kB, a_nmX, a_nmO, a_nmT, a_valO, a_bop, a_opM, a_rdv, a_rds, a_sd, a_sl, a_tst, a_boolD, a_tru, a_truM, a_andB, a_orB, a_notB, a_andX, a_orX, a_notX, a_ifX, a_caX, a_caM, a_rdsn, a_rdsc, a_consR, a_consM, a_tupX, a_lstX, a_ownX, a_badM, a_tmD, a_frzM, a_frzd, a_frzl, a_isiX, a_isiM, a_negX, a_intD, a_ptM, a_slX, a_slM, a_own, a_mtX, a_extX, a_popX, a_isOwn, a_isOwnd, a_isOwnn, a_ext, a_lstOf, a_lstM, a_tupOf, a_tupM, a_sq1, a_sq2, a_itX, a_it1, a_it2, a_it3, a_rngX, a_fmtX, a_fmtM, a_js0, a_js1, a_strD, a_own1, a_iniX, a_iniM, a_fldM, a_isEM, a_lcX, a_callX, w_call, w_okC, w_fval, w_fex, w_qE, w_qL, a_as0, a_asv, a_ass, a_argd, a_argl, a_ln0, a_lnv, a_lns, a_ll0, a_lld, a_lls, a_pl0, a_pl1, a_setL, a_omap, w_pSnx, w_pSrt, w_pSbk, w_pSct, w_pSex, w_skip, w_seq, w_onx, w_ort, w_obk, w_oct, w_oex, w_obad, w_oite, w_oite, w_on, w_set, w_kSet, a_csn, a_csd, a_csl, a_csx, a_slOd, a_slOl, w_kAs, w_kAsg, w_asg, w_kIf, w_if, w_ret, w_kDr, w_drop, w_raise, w_kFor, w_for, w_for0, w_pLnx, w_pLct, w_pLbk, w_pLrt, w_pLex, w_loop, w_kWt, w_kWf, w_kWd, w_kTt, w_kTf, w_try, w_pTnx, w_pTrt, w_pTbk, w_pTct, w_pTex, w_pk0, w_pk1, w_noEx, w_pNnx, w_pNrt, w_pNex, w_map, w_pMnx, w_pMrt, w_gO, w_gN, w_qB, w_pEnx, w_pErt, w_pEex, w_run, a_bk0, a_bkd, a_bkl, a_rho0, a_pind, a_pinl, a_nmG, a_nilG, a_consG, a_tupG, a_asgIx, a_setIx, a_augS, a_wp0, a_wp1, a_bR0, a_bR1, a_kd1, a_kd0, a_kdl, List.getElem?_cons_zero, List.getElem?_cons_succ, List.getElem?_nil, List.set_cons_zero, List.set_cons_succ, List.length_cons, List.length_nil, List.map_cons, List.map_nil, List.nil_append, List.cons_append, List.replicate_succ, List.replicate_zero, if_true, if_false, eq_self, decide_eq_true_eq, Bool.false_eq_true, and_true, true_and, Option.map_some, Option.map_none, not_true_eq_false, not_false_eq_true, forall_const, false_implies, true_implies, Nat.reduceAdd, Nat.reduceSub, Nat.reduceLeDiff, Nat.reduceLT, List.nodup_nil, List.nodup_cons, List.not_mem_nil, Bool.not_eq_true, decide_true, decide_false, Bool.not_true, Bool.not_false, reduceIte, reduceCtorEq, Nat.zero_add, e0, ne_str, ne_int, Bool.not_true, e1, eqD_int, e2, e3, ew]
  have bd : (n : Int) < 8 := n1
  by_cases hb : bad1 (cs t) < (cs t).length
  · rw [if_pos hb] at hdue
    have nn : (0 : Int) ≤ (bad1 (cs t) : Int) := by omega
    have hd' : PyData.tuple [.str (Str.ofString "bad"), .int r, .int (bad1 (cs t) : Int), .bool true] = due := hdue
    simp only [w_ok, w_ex, w_bad, w_pure, w_lsome, w_lnone, w_lite, w_ite, w_iteR, w_bind, w_kB, a_nmX, a_nmO, a_nmT, a_valO, a_bop, a_opM, a_rdv, a_rds, a_sd, a_sl, a_tst, a_boolD, a_tru, a_truM, a_andB, a_orB, a_notB, a_andX, a_orX, a_notX, a_ifX, a_caX, a_caM, a_rdsn, a_rdsc, a_consR, a_consM, a_tupX, a_lstX, a_ownX, a_badM, a_tmD, a_frzM, a_frzd, a_frzl, a_isiX, a_isiM, a_negX, a_intD, a_ptM, a_slX, a_slM, a_own, a_mtX, a_extX, a_popX, a_isOwn, a_isOwnd, a_isOwnn, a_ext, a_lstOf, a_lstM, a_tupOf, a_tupM, a_sq1, a_sq2, a_itX, a_it1, a_it2, a_it3, a_rngX, a_fmtX, a_fmtM, a_js0, a_js1, a_strD, a_own1, a_iniX, a_iniM, a_fldM, a_isEM, a_lcX, a_callX, w_call, w_okC, w_fval, w_fex, w_qE, w_qL, a_as0, a_asv, a_ass, a_argd, a_argl, a_ln0, a_lnv, a_lns, a_ll0, a_lld, a_lls, a_pl0, a_pl1, a_setL, a_omap, w_pSnx, w_pSrt, w_pSbk, w_pSct, w_pSex, w_skip, w_seq, w_onx, w_ort, w_obk, w_oct, w_oex, w_obad, w_oite, w_oite, w_on, w_set, w_kSet, a_csn, a_csd, a_csl, a_csx, a_slOd, a_slOl, w_kAs, w_kAsg, w_asg, w_kIf, w_if, w_ret, w_kDr, w_drop, w_raise, w_kFor, w_for, w_for0, w_pLnx, w_pLct, w_pLbk, w_pLrt, w_pLex, w_loop, w_kWt, w_kWf, w_kWd, w_kTt, w_kTf, w_try, w_pTnx, w_pTrt, w_pTbk, w_pTct, w_pTex, w_pk0, w_pk1, w_noEx, w_pNnx, w_pNrt, w_pNex, w_map, w_pMnx, w_pMrt, w_gO, w_gN, w_qB, w_pEnx, w_pErt, w_pEex, w_run, a_bk0, a_bkd, a_bkl, a_rho0, a_pind, a_pinl, a_nmG, a_nilG, a_consG, a_tupG, a_asgIx, a_setIx, a_augS, a_wp0, a_wp1, a_bR0, a_bR1, a_kd1, a_kd0, a_kdl, List.getElem?_cons_zero, List.getElem?_cons_succ, List.getElem?_nil, List.set_cons_zero, List.set_cons_succ, List.length_cons, List.length_nil, List.map_cons, List.map_nil, List.nil_append, List.cons_append, List.replicate_succ, List.replicate_zero, if_true, if_false, eq_self, decide_eq_true_eq, Bool.false_eq_true, and_true, true_and, Option.map_some, Option.map_none, not_true_eq_false, not_false_eq_true, forall_const, false_implies, true_implies, Nat.reduceAdd, Nat.reduceSub, Nat.reduceLeDiff, Nat.reduceLT, List.nodup_nil, List.nodup_cons, List.not_mem_nil, Bool.not_eq_true, decide_true, decide_false, Bool.not_true, Bool.not_false, reduceIte, reduceCtorEq, Nat.zero_add, hb, geD_int, nn, hd', ec, ef, hne, e4, rn]
    refine k05_lines (by omega) T4 fun ls ds5 x4 x6 l1 l2 l3 f4 f6 => ?_
    exact law_tail l1 (by omega) l2 f4 f6
  · rw [if_neg hb] at hdue
    have nn : ¬ (0 : Int) ≤ -1 := by omega
    have lt := ltok_spec (row := .int r) ht9 hb
    simp only [w_ok, w_ex, w_bad, w_pure, w_lsome, w_lnone, w_lite, w_ite, w_iteR, w_bind, w_kB, a_nmX, a_nmO, a_nmT, a_valO, a_bop, a_opM, a_rdv, a_rds, a_sd, a_sl, a_tst, a_boolD, a_tru, a_truM, a_andB, a_orB, a_notB, a_andX, a_orX, a_notX, a_ifX, a_caX, a_caM, a_rdsn, a_rdsc, a_consR, a_consM, a_tupX, a_lstX, a_ownX, a_badM, a_tmD, a_frzM, a_frzd, a_frzl, a_isiX, a_isiM, a_negX, a_intD, a_ptM, a_slX, a_slM, a_own, a_mtX, a_extX, a_popX, a_isOwn, a_isOwnd, a_isOwnn, a_ext, a_lstOf, a_lstM, a_tupOf, a_tupM, a_sq1, a_sq2, a_itX, a_it1, a_it2, a_it3, a_rngX, a_fmtX, a_fmtM, a_js0, a_js1, a_strD, a_own1, a_iniX, a_iniM, a_fldM, a_isEM, a_lcX, a_callX, w_call, w_okC, w_fval, w_fex, w_qE, w_qL, a_as0, a_asv, a_ass, a_argd, a_argl, a_ln0, a_lnv, a_lns, a_ll0, a_lld, a_lls, a_pl0, a_pl1, a_setL, a_omap, w_pSnx, w_pSrt, w_pSbk, w_pSct, w_pSex, w_skip, w_seq, w_onx, w_ort, w_obk, w_oct, w_oex, w_obad, w_oite, w_oite, w_on, w_set, w_kSet, a_csn, a_csd, a_csl, a_csx, a_slOd, a_slOl, w_kAs, w_kAsg, w_asg, w_kIf, w_if, w_ret, w_kDr, w_drop, w_raise, w_kFor, w_for, w_for0, w_pLnx, w_pLct, w_pLbk, w_pLrt, w_pLex, w_loop, w_kWt, w_kWf, w_kWd, w_kTt, w_kTf, w_try, w_pTnx, w_pTrt, w_pTbk, w_pTct, w_pTex, w_pk0, w_pk1, w_noEx, w_pNnx, w_pNrt, w_pNex, w_map, w_pMnx, w_pMrt, w_gO, w_gN, w_qB, w_pEnx, w_pErt, w_pEex, w_run, a_bk0, a_bkd, a_bkl, a_rho0, a_pind, a_pinl, a_nmG, a_nilG, a_consG, a_tupG, a_asgIx, a_setIx, a_augS, a_wp0, a_wp1, a_bR0, a_bR1, a_kd1, a_kd0, a_kdl, List.getElem?_cons_zero, List.getElem?_cons_succ, List.getElem?_nil, List.set_cons_zero, List.set_cons_succ, List.length_cons, List.length_nil, List.map_cons, List.map_nil, List.nil_append, List.cons_append, List.replicate_succ, List.replicate_zero, if_true, if_false, eq_self, decide_eq_true_eq, Bool.false_eq_true, and_true, true_and, Option.map_some, Option.map_none, not_true_eq_false, not_false_eq_true, forall_const, false_implies, true_implies, Nat.reduceAdd, Nat.reduceSub, Nat.reduceLeDiff, Nat.reduceLT, List.nodup_nil, List.nodup_cons, List.not_mem_nil, Bool.not_eq_true, decide_true, decide_false, Bool.not_true, Bool.not_false, reduceIte, reduceCtorEq, Nat.zero_add, hb, geD_int, nn, lt, hdue, ec, ef, hne, e4, rn]
    refine k05_lines (by omega) T4 fun ls ds5 x4 x6 l1 l2 l3 f4 f6 => ?_
    exact law_tail l1 (by omega) l2 f4 f6
end EV

/-! ## BadToken's own __init__ -/
namespace EV
open PySem PySem.Spec PyProof.Rows L2 Ver
def inCls (s : Stmt) (i : Nat) : Stmt := match s with
  | .ClassDef _ _ _ b _ _ _ _ _ _ _ => b.getD i (.Pass ⟨0, 0, 0, 0⟩)
  | _ => .Pass ⟨0, 0, 0, 0⟩
abbrev sI_BadToken : Stmt := inCls (top 2) 0
theorem scI_BadToken : ScopeS ["self", "row", "column"] ["self", "row", "column"] (defScope sI_BadToken) := ⟨rfl, rfl, rfl, by decide +kernel, rfl, by decide +kernel, by decide +kernel, by decide +kernel⟩
theorem fit_txt : ∀ n : Fin 1000, (toString (n.val : Int) : Str).length ≤ 10 := by decide +kernel
theorem fit_fmt {v : V} {Q : V → Prop} (h : FitV v) (k : ∀ y : Str, y.length ≤ 1000 → Q (.str y)) : (∃ y : Str, v = .str y ∧ y.length ≤ sizeLine ∧ Q (.str y)) ∨ ∃ i : Int, v = .int i ∧ i.natAbs.log2 < 1920 ∧ Q (.str (toString i)) := by
  rcases h with ⟨y, rfl, hy⟩ | ⟨i, rfl, h0, h1⟩
  · exact .inl ⟨y, rfl, Nat.le_trans hy (by decide), k y hy⟩
  · refine .inr ⟨i, rfl, ?_, k _ ?_⟩
    · have : i.natAbs < 1000 := by omega
      have h2 : i.natAbs.log2 ≤ i.natAbs := Nat.log2_le_self _
      omega
    · obtain ⟨n, rfl⟩ : ∃ n : Nat, i = n := ⟨i.toNat, by omega⟩
      have := fit_txt ⟨n, by omega⟩
      exact Nat.le_trans this (by decide)
theorem fmt_t {i : Nat} {σ : L2.St} {H : Hp} {Q : VK} {v : V} (e : σ[i]? = some (some v)) (f : FitV v) (k : ∀ y : Str, y.length ≤ 1000 → Q (.str y) H) : tFmt (tVar i) σ H Q := ⟨v, e, fit_fmt (Q := fun x => Q x H) f k⟩
theorem slen (a b : Str) : (a ++ b).length = a.length + b.length := Array.size_append
section
variable {P : Program} {w : World} {K : PySem.W.Frag} {mg : Str → Option Value} {base : Heap}
theorem ok_I_BadToken {C cc fI : Addr} {file : Str} {dV kV doc pm cdv ct : Value} {an : Option Addr} (T : SupC K C cc fI cdv file "BadToken.__init__" "self" (PySem.W.ksFn "__init__" "BadToken.__init__" (defArgs sI_BadToken) (defBody sI_BadToken) (defScope sI_BadToken) dV kV doc pm an cdv ct cc))
    (hfile : ((P.main.file : Str) == file) = true) (htop : (P.main.scope.names.lookup ("super" : Str)).isSome = false) (hms : mg "super" = none) (n1 : PySem.W.findIn K (.ref C) "row" = some none) (n2 : PySem.W.findIn K (.ref C) "column" = some none) :
    FnOk P w K mg base (L2.CX P w) 1 fI (PySem.W.ksFn "__init__" "BadToken.__init__" (defArgs sI_BadToken) (defBody sI_BadToken) (defScope sI_BadToken) dV kV doc pm an cdv ct cc) ["self", "row", "column"] (spIni C ["row", "column"]) := by
  refine fn_super (k := 0) T scI_BadToken hfile htop hms rfl rfl (fun env => rfl) (fun env => rfl) (fun env => rfl) (fun vs H Q E h => ?_) (fun A outer s H vs Q E hr h => ?_)
  · obtain ⟨a, ws, rfl, hl, _⟩ := h
    show ws.length + 1 = 3
    rw [hl]
    rfl
  obtain ⟨a, ws, rfl, hl, hf, ha, q⟩ := h
  obtain ⟨v1, v2, rfl⟩ : ∃ v1 v2, ws = [v1, v2] := by
    match ws, hl with
    | [v1, v2], _ => exact ⟨v1, v2, rfl⟩
  refine ⟨_, _, pe_joined (PJ.cons pe_str (PJ.cons (pe_fmt (pv 1)) (PJ.cons pe_str (PJ.cons (pe_fmt (pv 2)) (PJ.cons pe_str PJ.nil))))),
    pss_cons (ps_ost (pv 0) (pv 1)) (pss_one (ps_ost (pv 0) (pv 2))), ⟨a, _, rfl, ha⟩, ?_⟩
  have f1 := hf v1 List.mem_cons_self
  have f2 := hf v2 (List.mem_cons_of_mem _ List.mem_cons_self)
  have big : 10000 ≤ sizeLine := by decide
  have e0 : (Str.empty : Str).length = 0 := rfl
  have e1 : ("row " : Str).length = 4 := rfl
  have e2 : (", column " : Str).length = 9 := rfl
  have e3 : (": no token" : Str).length = 10 := rfl
  refine ⟨_, rfl, by rw [slen, e0, e1]; omega, fmt_t rfl f1 fun y1 h1 => ⟨y1, rfl, by rw [slen, slen, e0, e1]; omega, ?_⟩⟩
  refine ⟨_, rfl, by rw [slen, slen, slen, e0, e1, e2]; omega, fmt_t rfl f2 fun y2 h2 => ⟨y2, rfl, by rw [slen, slen, slen, slen, e0, e1, e2]; omega, ?_⟩⟩
  refine ⟨_, rfl, by rw [slen, slen, slen, slen, slen, e0, e1, e2, e3]; omega, ?_⟩
  refine ⟨fun a1 ws1 e => by cases e; exact ha, ?_⟩
  refine ⟨v1, rfl, .ref a, rfl, a, C, rfl, T.oex, n1, .inl ⟨ha, fun dx hdx hne => ?_⟩⟩
  refine ⟨v2, rfl, .ref a, rfl, a, C, rfl, T.oex, n2, .inr ⟨dx, [("row", v1)], upd_same, by rw [upd_ne hne]; exact upd_same, (by show 1 ≤ 900; decide), ?_⟩⟩
  refine q dx _ hdx (by rw [upd_ne hne.symm]; exact upd_same) upd_same fun b hb1 hb2 => ?_
  rw [upd_ne hb2, upd_ne hb1, upd_ne hb2]
end
end EV

namespace EV
open PySem PySem.Spec PyProof.Rows L2 Ver
def fnL : List He.DefD := [He.dD s_law_mix "_law_mix", He.dD s_law_tape "_law_tape", He.dD s_law_take "_law_take", He.dD sholds "holds", He.dD s_kind_of "_kind_of", He.dD s_continues "_continues", He.dD stokens_of "tokens_of", He.dD sfold_tokens "fold_tokens", He.dD spresent "present", He.dD s_law_diagram "_law_diagram", He.dD s_law_run_of "_law_run_of", He.dD s_law_tokens "_law_tokens", He.dD s_law_fold_tokens "_law_fold_tokens", He.dD s_law_text "_law_text", He.dD s_law_wrong "_law_wrong", He.dD s_law_cut "_law_cut", He.dD s_law_told "_law_told", He.dD s_law_due "_law_due", He.dD s_law_at "_law_at", He.dD slaw "law"]
def faL : List He.Fa := [.glo "_law_mix", .glo "_law_tape", .glo "_law_take", .glo "holds", .glo "_kind_of", .glo "_continues", .glo "tokens_of", .glo "fold_tokens", .glo "present", .glo "_law_diagram", .glo "_law_run_of", .glo "_law_tokens", .glo "_law_fold_tokens", .glo "_law_text", .glo "_law_wrong", .glo "_law_cut", .glo "_law_told", .glo "_law_due", .glo "_law_at", .glo "law", .free "len", .free "int", .free "range", .free "isinstance", .free "enumerate", .free "list", .free "tuple", .free "bool", .free "str", .free "super", .str "MARKS" "+-*/(){};,=<>!:.?&|", .str "DIGITS" "0123456789", .str "LETTERS" "abcdefghijklmnopqrstuvwxyzABCDEFGHIJKLMNOPQRSTUVWXYZ", .int "MAX_TOKENS" 24, .glo "BadToken", .glo "TooMany", .glo "FoldError", .exc "TooMany", .exm "BadToken" "BadToken" true, .exm "TooMany" "BadToken" false, .exm "TooMany" "TooMany" true]
def msL : List He.MthD := [⟨"BadToken", "__init__", "BadToken.__init__", sI_BadToken⟩]
def exL (K : PySem.W.Frag) : Bool := (decide (PySem.W.kitOne K (.ref (He.ga K "BadToken")) (.ref (He.ga K "FoldError")) = some true)) && (decide (PySem.W.kitOne K (.ref (He.ga K "TooMany")) (.ref (He.ga K "FoldError")) = some true)) && (He.eqO (PySem.W.findIn K (.ref (He.ga K "BadToken")) "column") (some none)) && (He.eqO (PySem.W.findIn K (.ref (He.ga K "BadToken")) "row") (some none)) && (L2.xfB K (He.ga K "BadToken")) && (He.excB K (He.ga K "BadToken")) && (L2.xfB K (He.ga K "TooMany")) && (He.excB K (He.ga K "TooMany")) && (He.supB K ⟨"BadToken", "__init__", "BadToken.__init__", sI_BadToken⟩ "/claim/cut.py")
abbrev RL : PySem.W.OpenRow := PySem.W.OpenLaw.row PySem.Challenge.rw_oncefolded_k05_tokens
abbrev hkL : PySem.W.Hook := He.hookY 7 faL fnL [] [] exL msL
def obL (s : PySem.W.SharedT) : He.AlY := He.obsY 7 faL fnL [] [] exL msL (HandSHeadRun.getT s)
theorem obL_eq (s : PySem.W.SharedT) : obL s = hkL.obs s.abs := He.obsY_eq (HandSHeadRun.getT_eq s)
def lo0 : List Str := ["FoldError", "BadToken", "TooMany", "holds", "MARKS", "MAX_TOKENS", "LETTERS", "DIGITS", "tokens_of", "_kind_of", "_continues", "fold_tokens", "present", "_law_mix", "_law_tape", "_law_take", "_law_diagram", "_law_same", "_law_run_of", "_law_tokens", "_law_fold_tokens", "_law_text", "_law_wrong", "_law_cut", "_law_told", "_law_due", "_law_at"]
abbrev loL : List Str := lo0
theorem runL (w : World) : HandSHeadRun.RunEq RL (PySem.W.view RL.prog [31]) hkL obL 20000 loL w := by
  intro os
  kernel_rfl
section
variable {P : Program} {w : World} {K : PySem.W.Frag} {h : Heap} {mg : Str → Option Value} {fa : Addr}
theorem factsL (hfile : ((P.main.file : Str) == "/claim/cut.py") = true) (htop : (P.main.scope.names.lookup ("super" : Str)).isSome = false) (X : K.In h) (G : h.Ns mainGlobals mg) (hfa : mg ("law" : Str) = some (.ref fa)) (c : He.SaysX faL fnL [] [] exL w h K) (cm : (msL.map fun d => He.fnC K d.at_) = msL.map He.MthD.val) :
    ∃ fd : FuncData, (∀ (s : Shared) (v : Value), BindsTo s fd ⟨[v], []⟩ [("script", v)]) ∧ ∀ base : Heap, K.In base → base.Ns mainGlobals mg → FnOk P w K mg base (L2.CX P w) 6 fa fd ["script"] (spF ⟨K, [], mg⟩ 1 Flaw) := by
  obtain ⟨fd__law_mix, D__law_mix⟩ := c.t.d.def_ 0 (d := He.dD s_law_mix "_law_mix") rfl
  have F__law_mix := He.funD_to (x := "_law_mix") (st := s_law_mix) D__law_mix
  obtain ⟨fd__law_tape, D__law_tape⟩ := c.t.d.def_ 1 (d := He.dD s_law_tape "_law_tape") rfl
  have F__law_tape := He.funD_to (x := "_law_tape") (st := s_law_tape) D__law_tape
  obtain ⟨fd__law_take, D__law_take⟩ := c.t.d.def_ 2 (d := He.dD s_law_take "_law_take") rfl
  have F__law_take := He.funD_to (x := "_law_take") (st := s_law_take) D__law_take
  obtain ⟨fd_holds, D_holds⟩ := c.t.d.def_ 3 (d := He.dD sholds "holds") rfl
  have F_holds := He.funD_to (x := "holds") (st := sholds) D_holds
  obtain ⟨fd__kind_of, D__kind_of⟩ := c.t.d.def_ 4 (d := He.dD s_kind_of "_kind_of") rfl
  have F__kind_of := He.funD_to (x := "_kind_of") (st := s_kind_of) D__kind_of
  obtain ⟨fd__continues, D__continues⟩ := c.t.d.def_ 5 (d := He.dD s_continues "_continues") rfl
  have F__continues := He.funD_to (x := "_continues") (st := s_continues) D__continues
  obtain ⟨fd_tokens_of, D_tokens_of⟩ := c.t.d.def_ 6 (d := He.dD stokens_of "tokens_of") rfl
  have F_tokens_of := He.funD_to (x := "tokens_of") (st := stokens_of) D_tokens_of
  obtain ⟨fd_fold_tokens, D_fold_tokens⟩ := c.t.d.def_ 7 (d := He.dD sfold_tokens "fold_tokens") rfl
  have F_fold_tokens := He.funD_to (x := "fold_tokens") (st := sfold_tokens) D_fold_tokens
  obtain ⟨fd_present, D_present⟩ := c.t.d.def_ 8 (d := He.dD spresent "present") rfl
  have F_present := He.funD_to (x := "present") (st := spresent) D_present
  obtain ⟨fd__law_diagram, D__law_diagram⟩ := c.t.d.def_ 9 (d := He.dD s_law_diagram "_law_diagram") rfl
  have F__law_diagram := He.funD_to (x := "_law_diagram") (st := s_law_diagram) D__law_diagram
  obtain ⟨fd__law_run_of, D__law_run_of⟩ := c.t.d.def_ 10 (d := He.dD s_law_run_of "_law_run_of") rfl
  have F__law_run_of := He.funD_to (x := "_law_run_of") (st := s_law_run_of) D__law_run_of
  obtain ⟨fd__law_tokens, D__law_tokens⟩ := c.t.d.def_ 11 (d := He.dD s_law_tokens "_law_tokens") rfl
  have F__law_tokens := He.funD_to (x := "_law_tokens") (st := s_law_tokens) D__law_tokens
  obtain ⟨fd__law_fold_tokens, D__law_fold_tokens⟩ := c.t.d.def_ 12 (d := He.dD s_law_fold_tokens "_law_fold_tokens") rfl
  have F__law_fold_tokens := He.funD_to (x := "_law_fold_tokens") (st := s_law_fold_tokens) D__law_fold_tokens
  obtain ⟨fd__law_text, D__law_text⟩ := c.t.d.def_ 13 (d := He.dD s_law_text "_law_text") rfl
  have F__law_text := He.funD_to (x := "_law_text") (st := s_law_text) D__law_text
  obtain ⟨fd__law_wrong, D__law_wrong⟩ := c.t.d.def_ 14 (d := He.dD s_law_wrong "_law_wrong") rfl
  have F__law_wrong := He.funD_to (x := "_law_wrong") (st := s_law_wrong) D__law_wrong
  obtain ⟨fd__law_cut, D__law_cut⟩ := c.t.d.def_ 15 (d := He.dD s_law_cut "_law_cut") rfl
  have F__law_cut := He.funD_to (x := "_law_cut") (st := s_law_cut) D__law_cut
  obtain ⟨fd__law_told, D__law_told⟩ := c.t.d.def_ 16 (d := He.dD s_law_told "_law_told") rfl
  have F__law_told := He.funD_to (x := "_law_told") (st := s_law_told) D__law_told
  obtain ⟨fd__law_due, D__law_due⟩ := c.t.d.def_ 17 (d := He.dD s_law_due "_law_due") rfl
  have F__law_due := He.funD_to (x := "_law_due") (st := s_law_due) D__law_due
  obtain ⟨fd__law_at, D__law_at⟩ := c.t.d.def_ 18 (d := He.dD s_law_at "_law_at") rfl
  have F__law_at := He.funD_to (x := "_law_at") (st := s_law_at) D__law_at
  obtain ⟨fd_law, D_law⟩ := c.t.d.def_ 19 (d := He.dD slaw "law") rfl
  have F_law := He.funD_to (x := "law") (st := slaw) D_law
  have e := hfa.symm.trans (He.glo_ok X G (c.t.d.fact 19 (f := .glo "law") rfl))
  cases e
  have c__law_mix : Cal K mg "_law_mix" _ fd__law_mix ["number"] := ⟨He.glo_ok X G (c.t.d.fact 0 (f := .glo "_law_mix") rfl), F__law_mix.kp, F__law_mix.binds (ps := ["number"]) fun _ _ _ _ _ _ us hl => match us, hl with | [_], _ => rfl⟩
  have c__law_tape : Cal K mg "_law_tape" _ fd__law_tape ["script", "budget"] := ⟨He.glo_ok X G (c.t.d.fact 1 (f := .glo "_law_tape") rfl), F__law_tape.kp, F__law_tape.binds (ps := ["script", "budget"]) fun _ _ _ _ _ _ us hl => match us, hl with | [_, _], _ => rfl⟩
  have c__law_take : Cal K mg "_law_take" _ fd__law_take ["tape", "many"] := ⟨He.glo_ok X G (c.t.d.fact 2 (f := .glo "_law_take") rfl), F__law_take.kp, F__law_take.binds (ps := ["tape", "many"]) fun _ _ _ _ _ _ us hl => match us, hl with | [_, _], _ => rfl⟩
  have c_holds : Cal K mg "holds" _ fd_holds ["d", "configuration"] := ⟨He.glo_ok X G (c.t.d.fact 3 (f := .glo "holds") rfl), F_holds.kp, F_holds.binds (ps := ["d", "configuration"]) fun _ _ _ _ _ _ us hl => match us, hl with | [_, _], _ => rfl⟩
  have c__kind_of : Cal K mg "_kind_of" _ fd__kind_of ["sign"] := ⟨He.glo_ok X G (c.t.d.fact 4 (f := .glo "_kind_of") rfl), F__kind_of.kp, F__kind_of.binds (ps := ["sign"]) fun _ _ _ _ _ _ us hl => match us, hl with | [_], _ => rfl⟩
  have c__continues : Cal K mg "_continues" _ fd__continues ["kind", "sign"] := ⟨He.glo_ok X G (c.t.d.fact 5 (f := .glo "_continues") rfl), F__continues.kp, F__continues.binds (ps := ["kind", "sign"]) fun _ _ _ _ _ _ us hl => match us, hl with | [_, _], _ => rfl⟩
  have c_tokens_of : Cal K mg "tokens_of" _ fd_tokens_of ["text", "row"] := ⟨He.glo_ok X G (c.t.d.fact 6 (f := .glo "tokens_of") rfl), F_tokens_of.kp, F_tokens_of.binds (ps := ["text", "row"]) fun _ _ _ _ _ _ us hl => match us, hl with | [_, _], _ => rfl⟩
  have c_fold_tokens : Cal K mg "fold_tokens" _ fd_fold_tokens ["lines"] := ⟨He.glo_ok X G (c.t.d.fact 7 (f := .glo "fold_tokens") rfl), F_fold_tokens.kp, F_fold_tokens.binds (ps := ["lines"]) fun _ _ _ _ _ _ us hl => match us, hl with | [_], _ => rfl⟩
  have c_present : Cal K mg "present" _ fd_present ["folded", "configuration"] := ⟨He.glo_ok X G (c.t.d.fact 8 (f := .glo "present") rfl), F_present.kp, F_present.binds (ps := ["folded", "configuration"]) fun _ _ _ _ _ _ us hl => match us, hl with | [_, _], _ => rfl⟩
  have c__law_diagram : Cal K mg "_law_diagram" _ fd__law_diagram ["bits", "i"] := ⟨He.glo_ok X G (c.t.d.fact 9 (f := .glo "_law_diagram") rfl), F__law_diagram.kp, F__law_diagram.binds (ps := ["bits", "i"]) fun _ _ _ _ _ _ us hl => match us, hl with | [_, _], _ => rfl⟩
  have c__law_run_of : Cal K mg "_law_run_of" _ fd__law_run_of ["text", "at", "signs"] := ⟨He.glo_ok X G (c.t.d.fact 10 (f := .glo "_law_run_of") rfl), F__law_run_of.kp, F__law_run_of.binds (ps := ["text", "at", "signs"]) fun _ _ _ _ _ _ us hl => match us, hl with | [_, _, _], _ => rfl⟩
  have c__law_tokens : Cal K mg "_law_tokens" _ fd__law_tokens ["text", "row"] := ⟨He.glo_ok X G (c.t.d.fact 11 (f := .glo "_law_tokens") rfl), F__law_tokens.kp, F__law_tokens.binds (ps := ["text", "row"]) fun _ _ _ _ _ _ us hl => match us, hl with | [_, _], _ => rfl⟩
  have c__law_fold_tokens : Cal K mg "_law_fold_tokens" _ fd__law_fold_tokens ["lines"] := ⟨He.glo_ok X G (c.t.d.fact 12 (f := .glo "_law_fold_tokens") rfl), F__law_fold_tokens.kp, F__law_fold_tokens.binds (ps := ["lines"]) fun _ _ _ _ _ _ us hl => match us, hl with | [_], _ => rfl⟩
  have c__law_text : Cal K mg "_law_text" _ fd__law_text ["tape", "bad"] := ⟨He.glo_ok X G (c.t.d.fact 13 (f := .glo "_law_text") rfl), F__law_text.kp, F__law_text.binds (ps := ["tape", "bad"]) fun _ _ _ _ _ _ us hl => match us, hl with | [_, _], _ => rfl⟩
  have c__law_wrong : Cal K mg "_law_wrong" _ fd__law_wrong ["text"] := ⟨He.glo_ok X G (c.t.d.fact 14 (f := .glo "_law_wrong") rfl), F__law_wrong.kp, F__law_wrong.binds (ps := ["text"]) fun _ _ _ _ _ _ us hl => match us, hl with | [_], _ => rfl⟩
  have c__law_cut : Cal K mg "_law_cut" _ fd__law_cut ["text", "row"] := ⟨He.glo_ok X G (c.t.d.fact 15 (f := .glo "_law_cut") rfl), F__law_cut.kp, F__law_cut.binds (ps := ["text", "row"]) fun _ _ _ _ _ _ us hl => match us, hl with | [_, _], _ => rfl⟩
  have c__law_told : Cal K mg "_law_told" _ fd__law_told ["lines"] := ⟨He.glo_ok X G (c.t.d.fact 16 (f := .glo "_law_told") rfl), F__law_told.kp, F__law_told.binds (ps := ["lines"]) fun _ _ _ _ _ _ us hl => match us, hl with | [_], _ => rfl⟩
  have c__law_due : Cal K mg "_law_due" _ fd__law_due ["lines"] := ⟨He.glo_ok X G (c.t.d.fact 17 (f := .glo "_law_due") rfl), F__law_due.kp, F__law_due.binds (ps := ["lines"]) fun _ _ _ _ _ _ us hl => match us, hl with | [_], _ => rfl⟩
  have c__law_at : Cal K mg "_law_at" _ fd__law_at ["d", "row"] := ⟨He.glo_ok X G (c.t.d.fact 18 (f := .glo "_law_at") rfl), F__law_at.kp, F__law_at.binds (ps := ["d", "row"]) fun _ _ _ _ _ _ us hl => match us, hl with | [_, _], _ => rfl⟩
  have n_len := He.free_ok X G (c.t.d.fact 20 (f := .free "len") rfl)
  have n_int := He.free_ok X G (c.t.d.fact 21 (f := .free "int") rfl)
  have n_range := He.free_ok X G (c.t.d.fact 22 (f := .free "range") rfl)
  have n_isinstance := He.free_ok X G (c.t.d.fact 23 (f := .free "isinstance") rfl)
  have n_enumerate := He.free_ok X G (c.t.d.fact 24 (f := .free "enumerate") rfl)
  have n_list := He.free_ok X G (c.t.d.fact 25 (f := .free "list") rfl)
  have n_tuple := He.free_ok X G (c.t.d.fact 26 (f := .free "tuple") rfl)
  have n_bool := He.free_ok X G (c.t.d.fact 27 (f := .free "bool") rfl)
  have n_str := He.free_ok X G (c.t.d.fact 28 (f := .free "str") rfl)
  have n_super := He.free_ok X G (c.t.d.fact 29 (f := .free "super") rfl)
  have B : Blt mg := ⟨n_len, n_int, n_range, n_isinstance, n_enumerate, n_list, n_tuple, n_bool, n_str⟩
  have g_MARKS := He.str_ok X G (c.t.d.fact 30 (f := .str "MARKS" "+-*/(){};,=<>!:.?&|") rfl)
  have g_DIGITS := He.str_ok X G (c.t.d.fact 31 (f := .str "DIGITS" "0123456789") rfl)
  have g_LETTERS := He.str_ok X G (c.t.d.fact 32 (f := .str "LETTERS" "abcdefghijklmnopqrstuvwxyzABCDEFGHIJKLMNOPQRSTUVWXYZ") rfl)
  have g_MAX_TOKENS := He.int_ok X G (c.t.d.fact 33 (f := .int "MAX_TOKENS" 24) rfl)
  have g_BadToken := He.glo_ok X G (c.t.d.fact 34 (f := .glo "BadToken") rfl)
  have g_TooMany := He.glo_ok X G (c.t.d.fact 35 (f := .glo "TooMany") rfl)
  have g_FoldError := He.glo_ok X G (c.t.d.fact 36 (f := .glo "FoldError") rfl)
  have e_TooMany := He.exc_ok (c.t.d.fact 37 (f := .exc "TooMany") rfl)
  have m_BadToken_BadToken := He.exm_ok (c.t.d.fact 38 (f := .exm "BadToken" "BadToken" true) rfl)
  have m_TooMany_BadToken := He.exm_ok (c.t.d.fact 39 (f := .exm "TooMany" "BadToken" false) rfl)
  have m_TooMany_TooMany := He.exm_ok (c.t.d.fact 40 (f := .exm "TooMany" "TooMany" true) rfl)
  have xx : exL K = true := c.more
  unfold exL at xx
  simp only [Bool.and_eq_true] at xx
  obtain ⟨⟨⟨⟨⟨⟨⟨⟨x0, x1⟩, x2⟩, x3⟩, x4⟩, x5⟩, x6⟩, x7⟩, x8⟩ := xx
  have k_BadToken_FoldError := of_decide_eq_true x0
  have k_TooMany_FoldError := of_decide_eq_true x1
  have n_BadToken_column := He.eqO_ok x2
  have n_BadToken_row := He.eqO_ok x3
  have O_TooMany : Own1C ⟨K, [], mg⟩ "TooMany" (He.ga K "TooMany") He.veBase := ⟨PySem.F.excBase_ValueError, e_TooMany.1, g_TooMany, e_TooMany.2.1, e_TooMany.2.2.1, e_TooMany.2.2.2⟩
  have K_BadToken : CatC ⟨K, [], mg⟩ "BadToken" (He.ga K "BadToken") := ⟨g_BadToken, He.excB_ok (L2.xfB_ok x4) x5, L2.xfB_ok x4⟩
  have K_TooMany : CatC ⟨K, [], mg⟩ "TooMany" (He.ga K "TooMany") := ⟨g_TooMany, He.excB_ok (L2.xfB_ok x6) x7, L2.xfB_ok x6⟩
  refine ⟨fd_law, fun s v => ?_, fun base _ _ => ?_⟩
  · obtain ⟨oc, od, kV, doc, pm, an, cdv, ct, osl, rfl, _, _⟩ := F_law.ex
    exact .of_eq rfl
  obtain ⟨kV_BadToken, doc_BadToken, pm_BadToken, an_BadToken, ct_BadToken, T_BadToken, oe_BadToken, in_BadToken, ty_BadToken⟩ := He.supB_ok (ar := "self") (He.mths_at cm 0 (d := ⟨"BadToken", "__init__", "BadToken.__init__", sI_BadToken⟩) rfl) x8 ⟨_, rfl, rfl⟩
  have I_BadToken : IniC ⟨K, [], mg⟩ P w base "BadToken" ["row", "column"] 1 (He.ga K "BadToken") _ _ ["self", "row", "column"] := ⟨oe_BadToken, in_BadToken, ty_BadToken, ok_I_BadToken (P := P) (w := w) (mg := mg) (base := base) T_BadToken hfile htop n_super n_BadToken_row n_BadToken_column, Binds.all fun us hl => match us, hl with | [_, _, _], _ => rfl, g_BadToken⟩
  have G__law_mix := ok_law_mix (C := ⟨K, [], mg⟩) (P := P) (w := w) (base := base) (B := B) (F := F__law_mix)
  have G__law_tape := ok_law_tape (C := ⟨K, [], mg⟩) (P := P) (w := w) (base := base) (B := B) (F := F__law_tape)
  have G__law_take := ok_law_take (C := ⟨K, [], mg⟩) (P := P) (w := w) (base := base) (B := B) (F := F__law_take) (c_law_mix := c__law_mix) (G_law_mix := G__law_mix)
  have G_holds := okholds (C := ⟨K, [], mg⟩) (P := P) (w := w) (base := base) (B := B) (F := F_holds)
  have G__kind_of := ok_kind_of (C := ⟨K, [], mg⟩) (P := P) (w := w) (base := base) (B := B) (F := F__kind_of) (g_MARKS := g_MARKS) (g_DIGITS := g_DIGITS) (g_LETTERS := g_LETTERS)
  have G__continues := ok_continues (C := ⟨K, [], mg⟩) (P := P) (w := w) (base := base) (B := B) (F := F__continues) (g_DIGITS := g_DIGITS) (g_LETTERS := g_LETTERS)
  have G_tokens_of := oktokens_of (C := ⟨K, [], mg⟩) (P := P) (w := w) (base := base) (B := B) (F := F_tokens_of) (c_continues := c__continues) (G_continues := G__continues) (c_kind_of := c__kind_of) (G_kind_of := G__kind_of) (I_BadToken := I_BadToken)
  have G_fold_tokens := okfold_tokens (C := ⟨K, [], mg⟩) (P := P) (w := w) (base := base) (B := B) (F := F_fold_tokens) (g_MAX_TOKENS := g_MAX_TOKENS) (ctokens_of := c_tokens_of) (Gtokens_of := G_tokens_of) (O_TooMany := O_TooMany)
  have G_present := okpresent (C := ⟨K, [], mg⟩) (P := P) (w := w) (base := base) (B := B) (F := F_present) (cholds := c_holds) (Gholds := G_holds)
  have G__law_diagram := ok_law_diagram (C := ⟨K, [], mg⟩) (P := P) (w := w) (base := base) (B := B) (F := F__law_diagram) (c_self := c__law_diagram) 4
  have G__law_run_of := ok_law_run_of (C := ⟨K, [], mg⟩) (P := P) (w := w) (base := base) (B := B) (F := F__law_run_of)
  have G__law_tokens := ok_law_tokens (C := ⟨K, [], mg⟩) (P := P) (w := w) (base := base) (B := B) (F := F__law_tokens) (c_law_run_of := c__law_run_of) (G_law_run_of := G__law_run_of)
  have G__law_fold_tokens := ok_law_fold_tokens (C := ⟨K, [], mg⟩) (P := P) (w := w) (base := base) (B := B) (F := F__law_fold_tokens) (c_law_tokens := c__law_tokens) (G_law_tokens := G__law_tokens)
  have G__law_text := ok_law_text (C := ⟨K, [], mg⟩) (P := P) (w := w) (base := base) (B := B) (F := F__law_text) (c_law_take := c__law_take) (G_law_take := G__law_take)
  have G__law_wrong := ok_law_wrong (C := ⟨K, [], mg⟩) (P := P) (w := w) (base := base) (B := B) (F := F__law_wrong)
  have G__law_cut := ok_law_cut (C := ⟨K, [], mg⟩) (P := P) (w := w) (base := base) (B := B) (F := F__law_cut) (ctokens_of := c_tokens_of) (Gtokens_of := G_tokens_of) (g_BadToken := g_BadToken) (K_BadToken := K_BadToken) (g_FoldError := g_FoldError) (k_BadToken_FoldError := k_BadToken_FoldError) (n_BadToken_column := n_BadToken_column) (n_BadToken_row := n_BadToken_row) (m_BadToken_BadToken := m_BadToken_BadToken)
  have G__law_told := ok_law_told (C := ⟨K, [], mg⟩) (P := P) (w := w) (base := base) (B := B) (F := F__law_told) (cfold_tokens := c_fold_tokens) (Gfold_tokens := G_fold_tokens) (g_BadToken := g_BadToken) (K_BadToken := K_BadToken) (g_FoldError := g_FoldError) (k_BadToken_FoldError := k_BadToken_FoldError) (n_BadToken_column := n_BadToken_column) (n_BadToken_row := n_BadToken_row) (g_TooMany := g_TooMany) (m_TooMany_BadToken := m_TooMany_BadToken) (m_BadToken_BadToken := m_BadToken_BadToken) (K_TooMany := K_TooMany) (k_TooMany_FoldError := k_TooMany_FoldError) (m_TooMany_TooMany := m_TooMany_TooMany)
  have G__law_due := ok_law_due (C := ⟨K, [], mg⟩) (P := P) (w := w) (base := base) (B := B) (F := F__law_due) (c_law_tokens := c__law_tokens) (G_law_tokens := G__law_tokens) (c_law_wrong := c__law_wrong) (G_law_wrong := G__law_wrong)
  have G__law_at := ok_law_at (C := ⟨K, [], mg⟩) (P := P) (w := w) (base := base) (B := B) (F := F__law_at)
  exact oklaw (C := ⟨K, [], mg⟩) (P := P) (w := w) (base := base) (B := B) (F := F_law) (g_MARKS := g_MARKS) (g_MAX_TOKENS := g_MAX_TOKENS) (cpresent := c_present) (Gpresent := G_present) (c_law_at := c__law_at) (G_law_at := G__law_at) (c_law_due := c__law_due) (G_law_due := G__law_due) (c_law_told := c__law_told) (G_law_told := G__law_told) (c_law_take := c__law_take) (G_law_take := G__law_take) (c_law_text := c__law_text) (G_law_text := G__law_text) (c_law_diagram := c__law_diagram) (G_law_diagram := G__law_diagram) (c_law_cut := c__law_cut) (G_law_cut := G__law_cut) (c_law_tokens := c__law_tokens) (G_law_tokens := G__law_tokens) (c_law_wrong := c__law_wrong) (G_law_wrong := G__law_wrong) (c_law_tape := c__law_tape) (G_law_tape := G__law_tape)
end
end EV
open PySem PySem.W PySem.Calls PyProof.Rows
set_option maxRecDepth 100000 in
set_option maxHeartbeats 0 in
theorem PySem.Challenge.cw_oncefolded_k05_tokens_holds : PySem.Challenge.rw_oncefolded_k05_tokens.Holds := by
  w_on; o_law
  refine HandSHeadRun.head_any (r := OpenLaw.row PySem.Challenge.rw_oncefolded_k05_tokens) (q := view (OpenLaw.row PySem.Challenge.rw_oncefolded_k05_tokens).prog [31]) (H := EV.hkL) (ob := EV.obL) (M := 20000) (loose := EV.loL) (d := HandSHeadRun.topDef (OpenLaw.row PySem.Challenge.rw_oncefolded_k05_tokens).prog 31) (kwd := []) EV.obL_eq
    (by kernel_rfl) (fun s => by kernel_rfl) EV.runL (by kernel_rfl) (by kernel_rfl) (by kernel_rfl) (by rfl) (by first | assumption | decide +kernel) (by decide +kernel) ⟨rfl, rfl, rfl, rfl, rfl, by decide +kernel⟩ ?hw ?hc
  case hw => w_witness2
  case hc =>
    refine LamX.walk_ofTsE (l := PySem.Challenge.rw_oncefolded_k05_tokens) (n := 63) (k := 6) (x := "script") (CX := fun w => L2.CX (PySem.Challenge.rw_oncefolded_k05_tokens).prog w) rfl (by decide) (by kernel_rfl) ⟨rfl, by decide, by decide⟩ ?F ?hCX
    case F =>
      intro w mg fa h Y G hmg0
      obtain ⟨K, KX, c, cm⟩ := Y
      have hmg : mg ("law" : PySem.Str) = some (.ref fa) := by
        have e : (HandSHeadRun.topDef (OpenLaw.row PySem.Challenge.rw_oncefolded_k05_tokens).prog 31).name = ("law" : PySem.Str) := by kernel_rfl
        rw [← e]
        exact hmg0
      obtain ⟨fd, hb, hF⟩ := EV.factsL (P := (PySem.Challenge.rw_oncefolded_k05_tokens).prog) (w := w) (by kernel_rfl) (by kernel_rfl) KX G hmg c cm
      refine ⟨K, KX, fd, [], EV.spF ⟨K, [], mg⟩ 1 EV.Flaw, fun p hp => (by cases hp), fun p hp => (by cases hp), fun p hp => (by cases hp), hb, fun H a ns hl hbits hT hS => EV.entryF (fun P hP => (by cases hP)) hS (EV.law_spec ns) fun _ => rfl, fun base hK hN _ => hF base hK hN⟩
    case hCX => exact fun w H s e s1 hh => (let ⟨_, _, _, _, _, _, _, _, _, _, _, _, z⟩ := hh; z)


