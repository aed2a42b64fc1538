import PyProof.Rows.All
import Wide.All
import OpenK.AllK
import Wide.FinOn
import HandS.AnyAll
import HandS.GenOver
import HandS.GenBody
import HandS.GenYield
import HandS.GenList
import HandS.Replace
import HandS.ReplaceList
import HandS.ReplaceLit
import HandS.RaiseMore
import HandS.WordsExc
import HandS.ExcOwn
import HandS.ExcIs
import HandS.Style
import HandS.TupAny
import HandS.Base
import HandS.Call
import HandS.List
import HandS.Comp
import HandS.Ends
import HandS.Words
import HandS.WordsList
import HandS.Wide
import HandS.Codes
import HandS.Strs
import HandS.Rev
import HandS.RevRange
import HandS.Walk
import HandS.Conv
import HandS.IsInst
import HandS.FStr
import HandS.TupLe
import PyProof.StrLaws
import KE.KStateDown
import KE.KNestM
import HandS.More
import HandS.Defaults
import HandS.Head0
import HandS.Head1
import HandS.Head2
import HandS.HeadEnd
import HandS.HeadHook1
import HandS.HeadHook2
import HandS.HeadHook3
import HandS.HeadHook4
import HandS.HeadWalk
import HandS.EndTab
import PySem.Challenge.RW_oncefolded_k00_formulas
set_option Elab.async false
set_option linter.all false
set_option maxRecDepth 100000
set_option maxHeartbeats 1500000
/-! ## What is the same in every program: heaps that keep, data -/
namespace Ver
open PySem L2
/-- all that was tracked is as it was, but for the list at t -/
def But (t : Addr) (H H' : Hp) : Prop := ∀ b o, b ≠ t → H b = some o → H' b = some o
theorem But.refl {t : Addr} (H : Hp) : But t H H := fun _ _ _ h => h
theorem But.trans {t : Addr} {H H1 H2 : Hp} (a : But t H H1) (b : But t H1 H2) : But t H H2 := fun c o n h => b c o n (a c o n h)
theorem But.of {t : Addr} {H H' : Hp} (a : Same H H') : But t H H' := fun c o _ h => a c o h
theorem But.wr {t : Addr} {H : Hp} {o : HO} : But t H (upd H t o) := fun b u n h => by rw [upd_ne n]; exact h
theorem same_new {H : Hp} {p : Addr} (h : H p = none) (o : HO) : Same H (upd H p o) := fun b u q => by rw [upd_ne (ne_of_none q h)]; exact q
theorem But.seq {K : PySem.W.Frag} {t : Addr} {H H' : Hp} {a : Addr} {xs : List V} (e : But t H H') (n : a ≠ t) (h : SqL K H a xs) : SqL K H' a xs := by
  rcases h with (h | ⟨o, h⟩) | h
  · exact .inl (.inl (e _ _ n h))
  · exact .inl (.inr ⟨o, e _ _ n h⟩)
  · exact .inr h
theorem But.free {t : Addr} {H H' : Hp} (e : But t H H') {l : Addr} (n : l ≠ t) (h : H' l = none) : H l = none := by
  cases q : H l with
  | none => rfl
  | some o =>
    rw [e l o n q] at h
    cases h
theorem room5 {n : Nat} (h : n ≤ 1000) : n ≤ sizeLine := Nat.le_of_lt (small1000 h)
theorem But.put {t D : Addr} {H H' : Hp} {o : HO} (e : But t H H') (h : H D = none) : But t H (upd H' D o) := fun b u n q => by
  rw [upd_ne (ne_of_none q h)]
  exact e b u n q
theorem same_put {D : Addr} {H H' : Hp} {o : HO} (e : Same H H') (h : H D = none) : Same H (upd H' D o) := fun b u q => by
  rw [upd_ne (ne_of_none q h)]
  exact e b u q
/-- the tape of a law: a list at t that holds the script's own copy, at l, and four numbers -/
structure Tape (H : Hp) (t l : Addr) : Prop where
  cells : ∃ ns : List Int, H l = some (.lst (ns.map V.int))
  head : ∃ p v s b : Int, 0 ≤ p ∧ H t = some (.lst [.ref l, .int p, .int v, .int s, .int b])
  ne : l ≠ t
theorem Tape.same {H H' : Hp} {t l : Addr} (h : Tape H t l) (e : Same H H') : Tape H' t l := by
  obtain ⟨⟨ns, h1⟩, ⟨p, v, s, b, h2, h3⟩, h4⟩ := h
  exact ⟨⟨ns, e _ _ h1⟩, ⟨p, v, s, b, h2, e _ _ h3⟩, h4⟩
theorem Tape.nt {H : Hp} {t l a : Addr} (h : Tape H t l) (q : H a = none) : a ≠ t := by
  obtain ⟨_, ⟨p, v, s, b, _, h1⟩, _⟩ := h
  exact fun e => ne_of_none h1 q e.symm
theorem Tape.nl {H : Hp} {t l a : Addr} (h : Tape H t l) (q : H a = none) : a ≠ l := by
  obtain ⟨⟨ns, h1⟩, _, _⟩ := h
  exact fun e => ne_of_none h1 q e.symm
theorem Tape.put {H : Hp} {t l a : Addr} {o : HO} (h : Tape H t l) (q1 : a ≠ t) (q2 : a ≠ l) : Tape (upd H a o) t l := by
  obtain ⟨⟨ns, h1⟩, ⟨p, v, s, b, h2, h3⟩, h4⟩ := h
  exact ⟨⟨ns, by rw [upd_ne fun e => q2 e.symm]; exact h1⟩, ⟨p, v, s, b, h2, by rw [upd_ne fun e => q1 e.symm]; exact h3⟩, h4⟩
end Ver

/-! ## Data: bools, ints, texts, tuples of data, as they stand in a heap -/
namespace Ver
open PySem L2
mutual
def Dv (H : Hp) : V → PyData → Prop
  | v, .none => v = .non
  | v, .bool b => v = .bl b
  | v, .int i => v = .int i
  | v, .str x => v = .str x
  | v, .tuple ds => ∃ a xs, v = .ref a ∧ H a = some (.tup xs) ∧ DvAll H xs ds
  | _, .list _ => False
  | _, .dict _ => False
def DvAll (H : Hp) : List V → List PyData → Prop
  | xs, [] => xs = []
  | xs, d :: ds => ∃ x r, xs = x :: r ∧ Dv H x d ∧ DvAll H r ds
end
/-- the tuples are as they were -/
def KeepT (H H' : Hp) : Prop := ∀ a xs, H a = some (.tup xs) → H' a = some (.tup xs)
theorem KeepT.of {H H' : Hp} (e : Same H H') : KeepT H H' := fun a _ h => e a _ h
theorem But.keepT {t l : Addr} {H H' : Hp} (e : But t H H') (h : Tape H t l) : KeepT H H' := fun a xs q => e a _ (fun z => by
  obtain ⟨_, ⟨p, v, s, b, _, h1⟩, _⟩ := h
  rw [z, h1] at q
  cases q) q
mutual
theorem Dv.keep {H H' : Hp} (e : KeepT H H') : ∀ (d : PyData) (v : V), Dv H v d → Dv H' v d
  | .none, _, h => h
  | .bool _, _, h => h
  | .int _, _, h => h
  | .str _, _, h => h
  | .tuple ds, _, h => by
    unfold Dv at h ⊢
    obtain ⟨a, xs, h1, h2, h3⟩ := h
    exact ⟨a, xs, h1, e _ _ h2, DvAll.keep e ds xs h3⟩
  | .list _, _, h => by unfold Dv at h; exact h.elim
  | .dict _, _, h => by unfold Dv at h; exact h.elim
theorem DvAll.keep {H H' : Hp} (e : KeepT H H') : ∀ (ds : List PyData) (xs : List V), DvAll H xs ds → DvAll H' xs ds
  | [], _, h => h
  | d :: ds, _, h => by
    unfold DvAll at h ⊢
    obtain ⟨x, r, h1, h2, h3⟩ := h
    exact ⟨x, r, h1, Dv.keep e d x h2, DvAll.keep e ds r h3⟩
end
mutual
theorem Dv.dp {K : PySem.W.Frag} {H : Hp} : ∀ (d : PyData) (v : V), Dv H v d → Dp K H v d
  | .none, _, h => by unfold Dv at h; subst h; exact .non
  | .bool _, _, h => by unfold Dv at h; subst h; exact .bl _
  | .int _, _, h => by unfold Dv at h; subst h; exact .int _
  | .str _, _, h => by unfold Dv at h; subst h; exact .str _
  | .tuple ds, _, h => by
    unfold Dv at h
    obtain ⟨a, xs, rfl, h2, h3⟩ := h
    exact .tup (SqT.of h2) (DvAll.dp ds xs h3)
  | .list _, _, h => by unfold Dv at h; exact h.elim
  | .dict _, _, h => by unfold Dv at h; exact h.elim
theorem DvAll.dp {K : PySem.W.Frag} {H : Hp} : ∀ (ds : List PyData) (xs : List V), DvAll H xs ds → DpAll K H xs ds
  | [], _, h => by unfold DvAll at h; subst h; exact .nil
  | d :: ds, _, h => by
    unfold DvAll at h
    obtain ⟨x, r, rfl, h2, h3⟩ := h
    exact .cons (Dv.dp d x h2) (DvAll.dp ds r h3)
end
theorem DvAll.get {H : Hp} : ∀ {ds : List PyData} {xs : List V} {j : Nat} {d : PyData}, DvAll H xs ds → ds[j]? = some d → ∃ x, xs[j]? = some x ∧ Dv H x d
  | [], _, _, _, _, e => by simp at e
  | d0 :: ds, _, 0, d, h, e => by
    unfold DvAll at h
    obtain ⟨x, r, rfl, h2, _⟩ := h
    have : d0 = d := by simpa using e
    subst this
    exact ⟨x, rfl, h2⟩
  | d0 :: ds, _, j + 1, d, h, e => by
    unfold DvAll at h
    obtain ⟨x, r, rfl, _, h3⟩ := h
    obtain ⟨y, e1, e2⟩ := DvAll.get (j := j) (d := d) h3 (by simpa using e)
    exact ⟨y, by simpa using e1, e2⟩
theorem DvAll.length {H : Hp} : ∀ {ds : List PyData} {xs : List V}, DvAll H xs ds → xs.length = ds.length
  | [], _, h => by unfold DvAll at h; subst h; rfl
  | _ :: ds, _, h => by
    unfold DvAll at h
    obtain ⟨x, r, rfl, _, h3⟩ := h
    rw [List.length_cons, List.length_cons, DvAll.length h3]
theorem DvAll.append {H : Hp} : ∀ {ds es : List PyData} {xs ys : List V}, DvAll H xs ds → DvAll H ys es → DvAll H (xs ++ ys) (ds ++ es)
  | [], _, _, _, h, k => by unfold DvAll at h; subst h; exact k
  | _ :: ds, _, _, _, h, k => by
    unfold DvAll at h
    obtain ⟨x, r, rfl, h2, h3⟩ := h
    show DvAll H (x :: (r ++ _)) (_ :: (ds ++ _))
    unfold DvAll
    exact ⟨x, _, rfl, h2, DvAll.append h3 k⟩
theorem DvAll.take {H : Hp} : ∀ {ds : List PyData} {xs : List V} (n : Nat), DvAll H xs ds → DvAll H (xs.take n) (ds.take n)
  | _, _, 0, _ => by rw [List.take_zero, List.take_zero]; unfold DvAll; rfl
  | [], _, n + 1, h => by unfold DvAll at h; subst h; rw [List.take_nil, List.take_nil]; unfold DvAll; rfl
  | _ :: ds, _, n + 1, h => by
    unfold DvAll at h
    obtain ⟨x, r, rfl, h2, h3⟩ := h
    rw [List.take_succ_cons, List.take_succ_cons]
    unfold DvAll
    exact ⟨x, _, rfl, h2, DvAll.take n h3⟩
theorem DvAll.nil {H : Hp} : DvAll H [] [] := by unfold DvAll; rfl
theorem DvAll.cons {H : Hp} {x : V} {xs : List V} {d : PyData} {ds : List PyData} (a : Dv H x d) (b : DvAll H xs ds) : DvAll H (x :: xs) (d :: ds) := by
  unfold DvAll
  exact ⟨x, xs, rfl, a, b⟩
theorem Dv.tup {H : Hp} {a : Addr} {xs : List V} {ds : List PyData} (h : H a = some (.tup xs)) (k : DvAll H xs ds) : Dv H (.ref a) (.tuple ds) := by
  unfold Dv
  exact ⟨a, xs, rfl, h, k⟩
theorem Dv.of_tup {H : Hp} {v : V} {ds : List PyData} (h : Dv H v (.tuple ds)) : ∃ a xs, v = .ref a ∧ H a = some (.tup xs) ∧ DvAll H xs ds := by
  unfold Dv at h
  exact h
theorem Dv.of_bool {H : Hp} {v : V} {b : Bool} (h : Dv H v (.bool b)) : v = .bl b := by unfold Dv at h; exact h
theorem Dv.of_int {H : Hp} {v : V} {b : Int} (h : Dv H v (.int b)) : v = .int b := by unfold Dv at h; exact h
theorem Dv.of_str {H : Hp} {v : V} {b : Str} (h : Dv H v (.str b)) : v = .str b := by unfold Dv at h; exact h
theorem Dv.bool {H : Hp} {b : Bool} : Dv H (.bl b) (.bool b) := by unfold Dv; rfl
theorem Dv.int {H : Hp} {b : Int} : Dv H (.int b) (.int b) := by unfold Dv; rfl
theorem Dv.str {H : Hp} {b : Str} : Dv H (.str b) (.str b) := by unfold Dv; rfl
theorem Dv.non {H : Hp} : Dv H .non .none := by unfold Dv; rfl
/-- the class of a datum -/
def dTy : PyData → String
  | .none => "NoneType" | .bool _ => "bool" | .int _ => "int" | .str _ => "str" | .tuple _ => "tuple" | .list _ => "list" | .dict _ => "dict"
theorem Dv.ty {K : PySem.W.Frag} {H : Hp} : ∀ {d : PyData} {v : V}, Dv H v d → TyX K H v (.type (dTy d))
  | .none, _, h => by unfold Dv at h; subst h; exact .base .non
  | .bool _, _, h => by unfold Dv at h; subst h; exact .base (.bl _)
  | .int _, _, h => by unfold Dv at h; subst h; exact .base (.int _)
  | .str _, _, h => by unfold Dv at h; subst h; exact .base (.str _)
  | .tuple ds, _, h => by
    unfold Dv at h
    obtain ⟨a, xs, rfl, h2, h3⟩ := h
    exact .base (.tup h2)
  | .list _, _, h => by unfold Dv at h; exact h.elim
  | .dict _, _, h => by unfold Dv at h; exact h.elim
def isTup : PyData → Bool
  | .tuple _ => true
  | _ => false
def isBool : PyData → Bool
  | .bool _ => true
  | _ => false
def isInt : PyData → Bool
  | .int _ => true
  | .bool _ => true
  | _ => false
def isStr : PyData → Bool
  | .str _ => true
  | _ => false
theorem kit_tup {K : PySem.W.Frag} (d : PyData) : PySem.W.kitOne K (.type (dTy d)) (.type "tuple") = some (isTup d) := by cases d <;> simp only [dTy, isTup] <;> exact kit_ty (by decide +kernel)
theorem kit_bool {K : PySem.W.Frag} (d : PyData) : PySem.W.kitOne K (.type (dTy d)) (.type "bool") = some (isBool d) := by cases d <;> simp only [dTy, isBool] <;> exact kit_ty (by decide +kernel)
theorem kit_int {K : PySem.W.Frag} (d : PyData) : PySem.W.kitOne K (.type (dTy d)) (.type "int") = some (isInt d) := by cases d <;> simp only [dTy, isInt] <;> exact kit_ty (by decide +kernel)
theorem kit_str {K : PySem.W.Frag} (d : PyData) : PySem.W.kitOne K (.type (dTy d)) (.type "str") = some (isStr d) := by cases d <;> simp only [dTy, isStr] <;> exact kit_ty (by decide +kernel)
/-- what the slots of a def hold, as data -/
def EnvOk (σ : St) (H : Hp) (env : List (Nat × PyData)) : Prop := ∀ i d, (i, d) ∈ env → ∃ v, σ[i]? = some (some v) ∧ Dv H v d
theorem EnvOk.same {σ : St} {H H' : Hp} {env : List (Nat × PyData)} (h : EnvOk σ H env) (e : Same H H') : EnvOk σ H' env := fun i d m => by
  obtain ⟨v, h1, h2⟩ := h i d m
  exact ⟨v, h1, Dv.keep (KeepT.of e) d v h2⟩
/-- an expression that gives a datum, and lays new tuples alone -/
structure PD (X : Cx) (e : Expr) (env : List (Nat × PyData)) (d : PyData) : Prop where
  pe : PE X e (fun σ H Q => EnvOk σ H env ∧ ∀ v H', Same H H' → Dv H' v d → Q v H')
structure PDs (X : Cx) (es : List Expr) (env : List (Nat × PyData)) (ds : List PyData) : Prop where
  pa : PA X es (fun σ H Q => EnvOk σ H env ∧ ∀ xs H', Same H H' → DvAll H' xs ds → Q xs H')
/-- one reading given by another -/
theorem PE.weak {X : Cx} {e : Expr} {t u : TE} (h : PE X e t) (k : ∀ σ H Q, u σ H Q → t σ H Q) : PE X e u := ⟨fun pins s σ H Q I q => h.run pins s σ H Q I (k σ H Q q)⟩
theorem PT.weak {X : Cx} {e : Expr} {t u : TT} (h : PT X e t) (k : ∀ σ H Q, u σ H Q → t σ H Q) : PT X e u := ⟨fun pins s σ H Q I q => h.run pins s σ H Q I (k σ H Q q)⟩
theorem PA.weak {X : Cx} {es : List Expr} {t u : TA} (h : PA X es t) (k : ∀ σ H Q, u σ H Q → t σ H Q) : PA X es u := ⟨fun pos pins s σ H Q I q => h.run pos pins s σ H Q I (k σ H Q q)⟩
section
variable {X : Cx} {env : List (Nat × PyData)}
theorem pd_int {i j pos} : PD X (.Constant (.int i) j pos) env (.int i) := ⟨PE.weak pe_int fun _ H _ q => q.2 _ H (Same.refl H) Dv.int⟩
theorem pd_bl {b j pos} : PD X (.Constant (.bool b) j pos) env (.bool b) := ⟨PE.weak pe_bl fun _ H _ q => q.2 _ H (Same.refl H) Dv.bool⟩
theorem pd_str {x j pos} : PD X (.Constant (.str x) j pos) env (.str x) := ⟨PE.weak pe_str fun _ H _ q => q.2 _ H (Same.refl H) Dv.str⟩
theorem pd_non {j pos} : PD X (.Constant .none j pos) env .none := ⟨PE.weak pe_non fun _ H _ q => q.2 _ H (Same.refl H) Dv.non⟩
theorem pd_neg {i : Int} {j pos pos2} : PD X (.UnaryOp .USub (.Constant (.int i) j pos) pos2) env (.int (-i)) := ⟨PE.weak (pe_un un_neg pe_int) fun _ H _ q => ⟨_, rfl, q.2 _ H (Same.refl H) Dv.int⟩⟩
theorem pd_v (i : Nat) {d : PyData} {x : Str} {pos : Pos} (h : PE X (.Name x pos) (tVar i)) (m : (i, d) ∈ env) : PD X (.Name x pos) env d := ⟨PE.weak h fun σ H Q q => by
  obtain ⟨v, h1, h2⟩ := q.1 i d m
  exact ⟨v, h1, q.2 v H (Same.refl H) h2⟩⟩
theorem pds_nil : PDs X [] env [] := ⟨PA.weak pa_nil fun _ H _ q => q.2 [] H (Same.refl H) DvAll.nil⟩
theorem pds_cons {e : Expr} {es : List Expr} {d : PyData} {ds : List PyData} (a : PD X e env d) (b : PDs X es env ds) (hs : starEach (e :: es) X.env = (false, eval e X.env) :: starEach es X.env := by rfl) : PDs X (e :: es) env (d :: ds) :=
  ⟨PA.weak (pa_cons a.pe b.pa hs) fun σ H Q q => ⟨q.1, fun v H1 g1 h1 => ⟨q.1.same g1, fun xs H2 g2 h2 => q.2 _ H2 (g1.trans g2) (DvAll.cons (Dv.keep (KeepT.of g2) d v h1) h2)⟩⟩⟩
theorem pd_tup {es : List Expr} {ds : List PyData} {x1 pos} (h : PDs X es env ds) (hl : ds.length ≤ 1000) : PD X (.Tuple es x1 pos) env (.tuple ds) :=
  ⟨PE.weak (pe_tup h.pa) fun σ H Q q => ⟨q.1, fun xs H1 g1 h1 => ⟨by rw [h1.length]; exact room5 hl, fun p hp => q.2 _ _ (g1.trans (same_new hp _)) (Dv.tup upd_same (DvAll.keep (KeepT.of (same_new hp _)) _ _ h1))⟩⟩⟩
theorem pd_ix {a : Expr} {ds : List PyData} {d : PyData} {i j : Nat} {p1 pos} (h : PD X a env (.tuple ds)) (e : ds[i]? = some d) (hs : PlainIx (Expr.Constant (.int i) j p1) := by exact fun _ _ => rfl) : PD X (.Subscript a (.Constant (.int i) j p1) pos) env d :=
  ⟨PE.weak (pe_ix ix_tup h.pe pe_int hs) fun σ H Q q => ⟨q.1, fun v H1 g1 h1 => by
    obtain ⟨b, xs, rfl, h2, h3⟩ := Dv.of_tup h1
    obtain ⟨x, e1, e2⟩ := DvAll.get h3 e
    exact ⟨b, xs, _, x, rfl, rfl, SqT.of h2, at_of rfl e1, q.2 x H1 g1 e2⟩⟩⟩
/-- a list of data -/
theorem pe_lstD {es : List Expr} {ds : List PyData} {pos} (h : PDs X es env ds) (hl : ds.length ≤ 1000) : PE X (.List es pos) (fun σ H Q => EnvOk σ H env ∧ ∀ p xs H', H p = none → Same H H' → H' p = some (.lst xs) → DvAll H' xs ds → Q (.ref p) H') :=
  PE.weak (pe_lst h.pa) fun σ H Q q => ⟨q.1, fun xs H1 g1 h1 => ⟨by rw [h1.length]; exact room5 hl, fun p hp => q.2 p xs _ (g1.free hp) (g1.trans (same_new hp _)) upd_same (DvAll.keep (KeepT.of (same_new hp _)) _ _ h1)⟩⟩
/-- d + (..) -/
theorem pd_cat {a b : Expr} {ds es : List PyData} {pos} (h : PD X a env (.tuple ds)) (k : PD X b env (.tuple es)) (h0 : ds ≠ []) (k0 : es ≠ []) (hl : ds.length + es.length ≤ 1000) : PD X (.BinOp a .Add b pos) env (.tuple (ds ++ es)) :=
  ⟨PE.weak (pe_op op_catT h.pe k.pe) fun σ H Q q => ⟨q.1, fun v H1 g1 h1 => ⟨q.1.same g1, fun u H2 g2 h2 => by
    obtain ⟨a1, xs, rfl, e1, e2⟩ := Dv.of_tup h1
    obtain ⟨a2, ys, rfl, e3, e4⟩ := Dv.of_tup h2
    refine ⟨a1, a2, xs, ys, rfl, rfl, SqT.of (g2 _ _ e1), SqT.of e3, ?_, ?_, ?_, fun _ p hp => ?_⟩
    · rintro rfl
      have := e2.length
      cases ds with
      | nil => exact h0 rfl
      | cons _ _ => cases this
    · rw [e2.length, e4.length]
      exact room5 hl
    · rintro rfl
      have := e4.length
      cases es with
      | nil => exact absurd rfl k0
      | cons _ _ => cases this
    · exact q.2 _ _ ((g1.trans g2).trans (same_new hp _)) (Dv.tup upd_same (DvAll.keep (KeepT.of (same_new hp _)) _ _ (DvAll.append (DvAll.keep (KeepT.of g2) _ _ e2) e4)))⟩⟩⟩
end
end Ver
namespace Ver
open PySem L2
section
variable {X : Cx} {env : List (Nat × PyData)}
/-- d[:n], n below the length -/
theorem pd_take {a : Expr} {ds : List PyData} {n j : Nat} {p1 p2 pos} (h : PD X a env (.tuple ds)) (hl : n < ds.length) : PD X (.Subscript a (.Slice none (some (.Constant (.int n) j p1)) none p2) pos) env (.tuple (ds.take n)) :=
  ⟨PE.weak (pe_slice sl_tup h.pe po_none (po_some pe_int)) fun σ H Q q => ⟨q.1, fun v H1 g1 h1 => by
    obtain ⟨b, xs, rfl, h2, h3⟩ := Dv.of_tup h1
    have e := h3.length
    refine ⟨_, rfl, b, xs, rfl, SqT.of h2, ?_, fun p hp => ?_⟩
    · rw [HT.sIx_nat]
      omega
    · refine q.2 _ _ (g1.trans (same_new hp _)) (Dv.tup upd_same (DvAll.keep (KeepT.of (same_new hp _)) _ _ ?_))
      have ec : cutV xs none (some (n : Int)) = xs.take n := by
        show (xs.drop 0).take (HT.sIx xs.length xs.length (some (n : Int)) - 0) = xs.take n
        rw [HT.sIx_nat, List.drop_zero, Nat.min_eq_left (by omega)]
        rfl
      rw [ec]
      exact DvAll.take n h3⟩⟩
/-- a + b, any two tuples -/
theorem pd_catA {a b : Expr} {ds es : List PyData} {pos} (h : PD X a env (.tuple ds)) (k : PD X b env (.tuple es)) (hl : ds.length + es.length ≤ 1000) : PD X (.BinOp a .Add b pos) env (.tuple (ds ++ es)) :=
  ⟨PE.weak (pe_op op_catA h.pe k.pe) fun σ H Q q => ⟨q.1, fun v H1 g1 h1 => ⟨q.1.same g1, fun u H2 g2 h2 => by
    obtain ⟨a1, xs, rfl, e1, e2⟩ := Dv.of_tup h1
    obtain ⟨a2, ys, rfl, e3, e4⟩ := Dv.of_tup h2
    have l1 := e2.length
    have l2 := e4.length
    have e2' := DvAll.keep (KeepT.of g2) _ _ e2
    refine ⟨a1, a2, xs, ys, rfl, rfl, SqT.of (g2 _ _ e1), SqT.of e3, room5 (by omega), ?_, ?_, fun _ _ p hp => ?_⟩
    · rintro rfl
      have : ds = [] := List.length_eq_zero_iff.mp l1.symm
      subst this
      exact q.2 _ _ (g1.trans g2) (Dv.tup e3 e4)
    · rintro _ rfl
      have : es = [] := List.length_eq_zero_iff.mp l2.symm
      subst this
      rw [List.append_nil] at q
      exact q.2 _ _ (g1.trans g2) (Dv.tup (g2 _ _ e1) e2')
    · exact q.2 _ _ ((g1.trans g2).trans (same_new hp _)) (Dv.tup upd_same (DvAll.keep (KeepT.of (same_new hp _)) _ _ (DvAll.append e2' e4)))⟩⟩⟩
/-- a reading that holds for each of many, and is wanted for one -/
theorem PE.ex {ι : Type} {e : Expr} {t : ι → TE} (h : ∀ i, PE X e (t i)) : PE X e (fun σ H Q => ∃ i, t i σ H Q) := ⟨fun pins s σ H Q I ⟨i, q⟩ => (h i).run pins s σ H Q I q⟩
end
end Ver

/-! ## Rules of our own: xs.extend(a tuple), x is True of anything -/
namespace Ver
open PySem PySem.Spec PyProof.Rows L2
theorem meets_extend_tup (l b : Addr) (items : Array Value) (n : Nat) (its2 : Array Value) (hlong : ¬ (!items.isEmpty && Builtin.List.listTooLong (items.size + its2.size)) = true) (hs1 : items.size ≤ sizeLine) (hs2 : items.size + its2.size ≤ sizeLine + 1) :
    Meets (Builtin.«list.extend» ⟨[.ref l, .ref b], []⟩) (fun _ R s => s.heap.get? l = some { cls := .type "list", dict := none, data := .seq items n, slots := #[] } ∧ IsTup s.heap b its2 ∧ R (.ok (.ret Value.none)) { s with heap := s.heap.update l (Obj.mapSeq fun x => x ++ its2), toks := s.toks }) := by
  intro prog w A R s ⟨hl, ⟨o, ho, hc, n2, hd⟩, h⟩
  show wpAny _ A.in1 (Builtin.List.listExtendWith (.ref l) (.ref b) .none) _ _ s
  unfold Builtin.List.listExtendWith
  refine wpAny_bind (wpAny_typeOf ⟨o, ho, hc⟩ ?_)
  have h1 : (Builtin.List.listSameRef (.ref l) (.ref b) || Value.type "tuple" == Value.type "list" || Value.type "tuple" == Value.type "tuple") = true := by simp
  simp only [h1, if_true]
  refine wpAny_bind ?_
  unfold Builtin.List.listItems
  refine wpAny_bind (wpAny_seqItems ho hd (wpAny_pure ?_))
  refine wpAny_bind ?_
  refine wpAny_bind (wpAny_seqItems hl rfl (wpAny_pure ?_))
  rw [if_neg hlong]
  show wpAny _ A.in1 (updateSeq l (· ++ its2) >>= fun _ => ret .none) _ _ s
  refine wpAny_bind (wpAny_updateSeq hl rfl ?_ hs1 (by rw [Array.size_append]; exact hs2))
  exact wpAny_pure h
section
variable {X : Cx}
def rExtT (K : PySem.W.Frag) : V → List V → Hp → VK → Prop := fun x vs H Q => ∃ l b xs zs, x = .ref l ∧ vs = [.ref b] ∧ H l = some (.lst xs) ∧ SqT K H b zs ∧ xs.length + zs.length ≤ sizeLine ∧ Q .non (upd H l (.lst (xs ++ zs)))
theorem mt_extT : MtM X "list.extend" (rExtT X.K) := by
  intro pins s σ H x vs v us Q I rx rv h
  obtain ⟨l, b, xs, zs, rfl, rfl, hH, hB, hz, q⟩ := h
  cases rx
  obtain ⟨u, rfl, ru⟩ := rv.one
  cases ru
  obtain ⟨z, its, n, r, hl, e⟩ := I.lstM hH
  obtain ⟨its2, r2, e2, z2⟩ := I.tuple hB
  have hl2 := r2.length
  have hsz : its.toArray.size + its2.toArray.size ≤ sizeLine := by rw [List.size_toArray, List.size_toArray]; omega
  have hno : ¬ (!its.toArray.isEmpty && Builtin.List.listTooLong (its.toArray.size + its2.toArray.size)) = true := by
    rw [notLongL hsz, Bool.and_false]
    exact Bool.false_ne_true
  refine call_meets F.slot_list_extend ⟨_, e, rfl⟩ F.entry_list_extend (F.args_list_extend_2 _ _) (meets_extend_tup l b its.toArray n its2.toArray hno (by rw [List.size_toArray]; omega) (by omega)) ⟨e, e2, ?_⟩
  refine ⟨.non, _, I.lset (its' := its ++ its2) hH e (by simp) (r.append r2) ?_, rfl, q⟩
  rw [List.length_append]
  omega
/-- x is True, x is False: x a bool or any object -/
def isB (b : Bool) : V → Bool
  | .bl a => decide (a = b)
  | _ => false
theorem op_isAny : OpR X (compareOp .Is) (fun x y H Q => ∃ b, y = .bl b ∧ ((∃ a, x = .bl a) ∨ ∃ a, x = .ref a) ∧ Q (.bl (isB b x)) H) := by
  intro pins s σ H x y v u Q I rx ry h
  obtain ⟨b, rfl, hx, q⟩ := h
  cases (show u = Value.bool b from ry)
  rcases hx with ⟨a, rfl⟩ | ⟨a, rfl⟩
  · cases (show v = Value.bool a from rx)
    by_cases e : a = b
    · subst e
      refine wpAny_is_self rfl ⟨.bl true, H, I, rfl, ?_⟩
      have z : isB a (.bl a) = true := decide_eq_true rfl
      rwa [z] at q
    · refine wpAny_is_other rfl (fun z => e (Value.bool.inj z)) ⟨.bl false, H, I, rfl, ?_⟩
      have z : isB b (.bl a) = false := decide_eq_false e
      rwa [z] at q
  · cases (show v = Value.ref a from rx)
    exact wpAny_is_other rfl (fun z => nomatch z) ⟨.bl false, H, I, rfl, q⟩
end
end Ver
/-! ## Tuples whose object is known to have no dict: t.index(x) -/
namespace Ver
open PySem PySem.Spec PyProof.Rows L2
theorem same_tup {K : PySem.W.Frag} {H H' : Hp} {a : Addr} {xs : List V} (e : Same H H') (h : SqT K H a xs) : SqT K H' a xs := by
  rcases h with (h | ⟨o, h⟩) | h
  · exact .inl (.inl (e _ _ h))
  · exact .inl (.inr ⟨o, e _ _ h⟩)
  · exact .inr h
/-- the tuple of the switches: texts, an exact object without a dict -/
def SwT (H : Hp) (s : Addr) (sw : List Str) : Prop := ∃ o : Obj, o.cls = .type "tuple" ∧ o.dict = none ∧ H s = some (.frz o (.tup (sw.map V.str)))
theorem SwT.sq {K : PySem.W.Frag} {H : Hp} {s : Addr} {sw : List Str} (h : SwT H s sw) : SqT K H s (sw.map V.str) := by
  obtain ⟨o, _, _, h⟩ := h
  exact .inl (.inr ⟨o, h⟩)
theorem SwT.same {H H' : Hp} {s : Addr} {sw : List Str} (h : SwT H s sw) (e : Same H H') : SwT H' s sw := by
  obtain ⟨o, h1, h2, h⟩ := h
  exact ⟨o, h1, h2, e _ _ h⟩
theorem SwT.but {H H' : Hp} {s t l : Addr} {sw : List Str} (h : SwT H s sw) (e : But t H H') (T : Tape H t l) : SwT H' s sw := by
  obtain ⟨o, h1, h2, h⟩ := h
  refine ⟨o, h1, h2, e _ _ (fun z => ?_) h⟩
  obtain ⟨_, ⟨p, v, x, b, _, k⟩, _⟩ := T
  rw [z, k] at h
  cases h
section
variable {X : Cx}
theorem call_tuple_fz : CallR X (.type "tuple") (fun xs H Q => ∃ p ys, xs = [.ref p] ∧ SqL X.K H p ys ∧ ∀ (l : Addr) (o : Obj), o.cls = .type "tuple" → o.dict = none → H l = none → Q (.ref l) (upd H l (.frz o (.tup ys)))) := by
  intro pins s σ H xs us Q I r h
  obtain ⟨p, ys, rfl, hq, q⟩ := h
  obtain ⟨u, rfl, rx⟩ := vals1 r
  cases rx
  obtain ⟨its, r', pl, hz⟩ := I.list hq
  have hlen := r'.length
  refine call_tuple_list pl.isList (fun h' kp => ?_) (by simp only [List.size_toArray] <;> omega)
  have I1 : Inv X pins σ H { s with heap := h' } := I.kept (t' := s.toks) kp
  have I2 : Inv X pins σ (upd H h'.objs.size (.frz { cls := .type "tuple", data := .seq its.toArray } (.tup ys))) { s with heap := h'.push { cls := .type "tuple", data := .seq its.toArray } } :=
    I1.laid (t' := s.toks) (fun b o e => Heap.get?_push_of_some _ e) (Nat.le_refl _) ⟨Heap.get?_push_size _ rfl, hz, its, r', IsTup.new _ _⟩
  exact ⟨.ref h'.objs.size, _, I2, rfl, q _ _ rfl rfl (I1.hok.fresh (Nat.le_refl _))⟩
variable {e : Expr} {es : List Expr} {t : TA} {pos : Pos}
theorem pe_tup_fz {x1} (h : PA X es t) : PE X (.Tuple es x1 pos) (fun σ H Q => t σ H fun xs H1 => xs.length ≤ sizeLine ∧ ∀ (p : Addr) (o : Obj), o.cls = .type "tuple" → o.dict = none → H1 p = none → Q (.ref p) (upd H1 p (.frz o (.tup xs)))) := by
  refine ⟨fun pins s σ H Q I hw => wpAny_Tuple_spliced (thn (h.run pos pins s σ H _ I hw) fun us s1 ⟨xs, H1, I1, r, z, q⟩ => ⟨by rw [← r.length]; exact z, ?_⟩)⟩
  have nf : H1 s1.heap.objs.size = none := I1.hok.fresh (Nat.le_refl _)
  refine ⟨.ref s1.heap.objs.size, upd H1 s1.heap.objs.size (.frz { cls := .type "tuple", data := .seq us.toArray } (.tup xs)), I1.laid (t' := s1.toks) (fun b u e => Heap.get?_push_of_some _ e) (Nat.le_refl _) ?_, rfl, q _ _ rfl rfl nf⟩
  exact ⟨Heap.get?_push_size _ rfl, z, us, r, ⟨_, Heap.get?_push_size _ rfl, rfl, _, rfl⟩⟩
variable {o : Expr} {to : TE} {name : Str} {apos cpos : Pos} {id : String} {r : V → List V → Hp → VK → Prop}
theorem pe_bmT (slot : Slot "tuple" name id) (hty : typeOf (.builtin id) = pure (.type "method_descriptor")) (hm : MtR X id r) (ho : PE X o to) (ha : PA X (e :: es) t)
    (hbase : attributeBase o name X.env (eval o X.env) = eval o X.env := by rfl)
    (hfew : ((backTo cpos (starEach (e :: es) X.env)).all (fun x => !x.1) && (backToKw cpos (keywordEach [] X.env)).all (fun x => x.1.isSome)
      && decide ((e :: es).length + ([] : List Keyword).length + (if ([] : List Keyword).isEmpty then 0 else 1) < 30)) = true := by rfl)
    (hline : (apos.endLine == cpos.line) = true := by rfl) (hs : starEach (e :: es) X.env = (false, eval e X.env) :: starEach es X.env := by rfl) (hplain : (backTo cpos (starEach es X.env)).any (·.1) = false := by rfl) :
    PE X (.Call (.Attribute o name apos) (e :: es) [] cpos) (fun σ H Q => to σ H fun x H1 => (∃ (p : Addr) (ob : Obj) (ys : List V), x = .ref p ∧ H1 p = some (.frz ob (.tup ys)) ∧ ob.cls = .type "tuple" ∧ ob.dict = none) ∧ t σ H1 fun xs H2 => r x xs H2 Q) := by
  refine ⟨fun pins s σ H Q I h => ?_⟩
  refine wpAny_Call_method_late hbase hfew hline rfl (thn (ho.run pins s σ H _ I h) fun v s1 ⟨x, H1, I1, r1, ⟨p, ob, ys, hx, hp, hc, hd⟩, q1⟩ => ?_)
  subst hx
  cases (show v = Value.ref p from r1)
  obtain ⟨e1, _⟩ := (show ObjOk X.prog X.w H1 s1.heap p (.frz ob (.tup ys)) from I1.hok p _ hp)
  refine ⟨"tuple", id, PySem.F.plainAttrs_tuple, slot, hty, ⟨ob, e1, hc⟩, (fun a z => by cases z; exact ⟨ob, e1, hd⟩), ?_⟩
  have hA := ha.run cpos pins s1 σ H1 _ I1 q1
  rw [hs] at hA ⊢
  refine Calls.callWith_builtin (by show (false || (backTo cpos (starEach es X.env)).any (·.1)) = false; rw [hplain] <;> rfl) (Calls.evalArgs_plain ?_)
  exact thn hA fun us s2 ⟨vs, H2, I2, r2, q2⟩ => hm pins s2 σ H2 (.ref p) vs (.ref p) us Q I2 rfl r2 q2
end
end Ver

/-! ## Formulas and their texts: the mathematics -/
namespace Ver
open PySem L2
inductive Fm where
  | yes | no
  | sw (x : Str)
  | not (f : Fm)
  | and (f g : Fm)
  | or (f g : Fm)
  deriving DecidableEq
namespace Fm
def toD : Fm → PyData
  | yes => .tuple [.str "yes"]
  | no => .tuple [.str "no"]
  | sw x => .tuple [.str "switch", .str x]
  | not f => .tuple [.str "not", toD f]
  | and f g => .tuple [.str "and", toD f, toD g]
  | or f g => .tuple [.str "or", toD f, toD g]
def dep : Fm → Nat
  | yes | no | sw _ => 1
  | not f => dep f + 1
  | and f g | or f g => max (dep f) (dep g) + 1
def size : Fm → Nat
  | yes | no | sw _ => 1
  | not f => size f + 1
  | and f g | or f g => size f + size g + 1
/-- its names are switches -/
def Over (s : List Str) : Fm → Prop
  | yes | no => True
  | sw x => x ∈ s
  | not f => Over s f
  | and f g | or f g => Over s f ∧ Over s g
theorem size_pos : ∀ f : Fm, 1 ≤ size f
  | yes | no | sw _ => Nat.le_refl _
  | not f => Nat.le_add_left _ _
  | and f g | or f g => Nat.le_add_left _ _
theorem shaped {s : List Str} (hs : ∀ x ∈ s, PyData.strOk x = true) {f : Fm} (h : Over s f) (hd : dep f ≤ 60) : SeqAt.shaped (toD f) = true := by
  have h1 : ∀ f : Fm, Over s f → (toD f).canLay0 = true := by
    intro f
    induction f with
    | yes => intro _; simp only [toD, PyData.canLay0, PyData.canLayAll0]; decide +kernel
    | no => intro _; simp only [toD, PyData.canLay0, PyData.canLayAll0]; decide +kernel
    | sw x => intro h; simp only [toD, PyData.canLay0, PyData.canLayAll0, hs x h, Bool.and_true]; decide +kernel
    | not f a => intro h; simp only [toD, PyData.canLay0, PyData.canLayAll0, a h, Bool.and_true]; decide +kernel
    | and f g a b => intro h; simp only [toD, PyData.canLay0, PyData.canLayAll0, a h.1, b h.2, Bool.and_true]; decide +kernel
    | or f g a b => intro h; simp only [toD, PyData.canLay0, PyData.canLayAll0, a h.1, b h.2, Bool.and_true]; decide +kernel
  have h2 : ∀ f : Fm, (toD f).depth = dep f := by
    intro f
    induction f with
    | yes => simp [toD, PyData.depth, PyData.depthAll, dep]
    | no => simp [toD, PyData.depth, PyData.depthAll, dep]
    | sw x => simp [toD, PyData.depth, PyData.depthAll, dep]
    | not f a => simp [toD, PyData.depth, PyData.depthAll, dep, a]
    | and f g a b => simp [toD, PyData.depth, PyData.depthAll, dep, a, b]
    | or f g a b => simp [toD, PyData.depth, PyData.depthAll, dep, a, b]
  unfold SeqAt.shaped
  rw [h1 f h, h2]
  simp
  omega
end Fm
/-- the codes of a text -/
abbrev cl (x : Str) : List Nat := x.cps.toList
theorem cl_app (x y : Str) : cl (x ++ y) = cl x ++ cl y := by
  show (x ++ y).cps.toList = _
  rw [Str.cps_append, Array.toList_append]
theorem cl_len (x : Str) : (cl x).length = x.length := rfl
theorem cl_inj {x y : Str} (h : cl x = cl y) : x = y := Str.ext' (Array.toList_inj.mp h)
/-- small letters -/
def lett (c : Nat) : Bool := decide (97 ≤ c) && decide (c ≤ 122)
def flush : List Nat → List (List Nat)
  | [] => []
  | a => [a]
def sgn (c : Nat) : List (List Nat) := if c = 32 then [] else [[c]]
/-- a text's signs: runs of letters, and single other signs, without spaces -/
def lexA (acc : List Nat) : List Nat → List (List Nat)
  | [] => flush acc
  | c :: r => if lett c then lexA (acc ++ [c]) r else flush acc ++ (sgn c ++ lexA [] r)
theorem lexA_cons (acc : List Nat) (c : Nat) (r : List Nat) : lexA acc (c :: r) = if lett c then lexA (acc ++ [c]) r else flush acc ++ (sgn c ++ lexA [] r) := rfl
theorem lex_cut {c : Nat} (h : lett c = false) : ∀ (u : List Nat) (acc v : List Nat), lexA acc (u ++ c :: v) = lexA acc u ++ (sgn c ++ lexA [] v)
  | [], acc, v => by
    show lexA acc (c :: v) = flush acc ++ _
    rw [lexA_cons, h]
    rfl
  | d :: u, acc, v => by
    show lexA acc (d :: (u ++ c :: v)) = lexA acc (d :: u) ++ _
    rw [lexA_cons, lexA_cons]
    split
    · exact lex_cut h u _ v
    · rw [lex_cut h u [] v]
      simp only [List.append_assoc]
theorem lex_word : ∀ (u acc : List Nat), (∀ c ∈ u, lett c = true) → lexA acc u = flush (acc ++ u)
  | [], acc, _ => by rw [List.append_nil]; rfl
  | c :: u, acc, h => by
    rw [lexA_cons, h c List.mem_cons_self]
    show lexA (acc ++ [c]) u = _
    rw [lex_word u _ fun d hd => h d (List.mem_cons_of_mem _ hd), List.append_assoc]
    rfl
/-- spaces alone -/
def Gap (g : List Nat) : Prop := ∀ c ∈ g, c = 32
theorem lex_gap : ∀ (g v : List Nat), Gap g → lexA [] (g ++ v) = lexA [] v
  | [], _, _ => rfl
  | c :: g, v, h => by
    have e := h c List.mem_cons_self
    subst e
    show lexA [] (32 :: (g ++ v)) = _
    rw [lexA_cons]
    exact lex_gap g v fun d hd => h d (List.mem_cons_of_mem _ hd)
/-- what stands ahead of a gap and a sign -/
theorem lex_gcut {c : Nat} (h : lett c = false) (h32 : c ≠ 32) (u g v : List Nat) (hg : Gap g) : lexA [] (u ++ (g ++ c :: v)) = lexA [] u ++ ([c] :: lexA [] v) := by
  have e : sgn c = [[c]] := by unfold sgn; rw [if_neg h32]
  cases g with
  | nil =>
    show lexA [] (u ++ c :: v) = _
    rw [lex_cut h, e]
    rfl
  | cons d g =>
    have ed := hg d List.mem_cons_self
    subst ed
    show lexA [] (u ++ 32 :: (g ++ c :: v)) = _
    rw [lex_cut (by decide)]
    show lexA [] u ++ ([] ++ lexA [] (g ++ c :: v)) = _
    rw [List.nil_append, lex_gap _ _ fun d hd => hg d (List.mem_cons_of_mem _ hd)]
    show lexA [] u ++ lexA [] ([] ++ c :: v) = _
    rw [lex_cut h, e]
    rfl
/-! ### the grammar, over signs; chains from the left -/
mutual
inductive TP (s : List Str) : Fm → List (List Nat) → Prop
  | name {x : Str} (h : x ∈ s) : TP s (.sw x) [cl x]
  | yes : TP s .yes [[49]]
  | no : TP s .no [[48]]
  | not {f : Fm} {ws : List (List Nat)} (h : TP s f ws) : TP s (.not f) ([33] :: ws)
  | par {f : Fm} {ws : List (List Nat)} (h : TE s f ws) : TP s f ([40] :: (ws ++ [[41]]))
inductive TB (s : List Str) : Fm → List (List Nat) → Prop
  | one {f : Fm} {ws : List (List Nat)} (h : TP s f ws) : TB s f ws
  | and {f g : Fm} {ws vs : List (List Nat)} (h : TB s f ws) (k : TP s g vs) : TB s (.and f g) (ws ++ [38] :: vs)
inductive TE (s : List Str) : Fm → List (List Nat) → Prop
  | one {f : Fm} {ws : List (List Nat)} (h : TB s f ws) : TE s f ws
  | or {f g : Fm} {ws vs : List (List Nat)} (h : TE s f ws) (k : TB s g vs) : TE s (.or f g) (ws ++ [124] :: vs)
end
/-- a drawn formula and its text, with bounds -/
structure Drawn (s : List Str) (R : Fm → List (List Nat) → Prop) (L D S : Nat) (f : Fm) (txt : Str) : Prop where
  rel : R f (lexA [] (cl txt))
  over : f.Over s
  len : txt.length ≤ L
  dep : f.dep ≤ D
  size : f.size ≤ S
theorem Drawn.mono {s : List Str} {R R' : Fm → List (List Nat) → Prop} {L D S L' D' S' : Nat} {f : Fm} {txt : Str} (h : Drawn s R L D S f txt) (hr : ∀ f ws, R f ws → R' f ws) (h1 : L ≤ L') (h2 : D ≤ D') (h3 : S ≤ S') : Drawn s R' L' D' S' f txt :=
  ⟨hr _ _ h.rel, h.over, Nat.le_trans h.len h1, Nat.le_trans h.dep h2, Nat.le_trans h.size h3⟩
theorem c33 : cl "!" = [33] := by decide +kernel
theorem c38 : cl "&" = [38] := by decide +kernel
theorem c40 : cl "(" = [40] := by decide +kernel
theorem c41 : cl ")" = [41] := by decide +kernel
theorem c48 : cl "0" = [48] := by decide +kernel
theorem c49 : cl "1" = [49] := by decide +kernel
theorem c124 : cl "|" = [124] := by decide +kernel
theorem Drawn.name {s : List Str} {x : Str} (h : x ∈ s) (hl : ∀ c ∈ cl x, lett c = true) (h0 : cl x ≠ []) (h6 : x.length ≤ 6) : Drawn s (TP s) 6 1 1 (.sw x) x := by
  refine ⟨?_, h, h6, Nat.le_refl _, Nat.le_refl _⟩
  rw [lex_word _ _ hl, List.nil_append]
  cases e : cl x with
  | nil => exact absurd e h0
  | cons a r =>
    show TP s (.sw x) [a :: r]
    rw [← e]
    exact .name h
theorem Drawn.yes {s : List Str} : Drawn s (TP s) 6 1 1 .yes "1" := by
  refine ⟨?_, True.intro, by decide +kernel, Nat.le_refl _, Nat.le_refl _⟩
  rw [c49]
  exact .yes
theorem Drawn.no {s : List Str} : Drawn s (TP s) 6 1 1 .no "0" := by
  refine ⟨?_, True.intro, by decide +kernel, Nat.le_refl _, Nat.le_refl _⟩
  rw [c48]
  exact .no
theorem Drawn.not {s : List Str} {L D S : Nat} {f : Fm} {txt g : Str} (h : Drawn s (TP s) L D S f txt) (hg : Gap (cl g)) (h2 : g.length ≤ 2) : Drawn s (TP s) (L + 3) (D + 1) (S + 1) (.not f) ("!" ++ g ++ txt) := by
  have h3 := h.len
  have l1 : ("!" : Str).length = 1 := rfl
  refine ⟨?_, h.over, ?_, Nat.succ_le_succ h.dep, Nat.succ_le_succ h.size⟩
  · rw [cl_app, cl_app, c33, List.append_assoc]
    show TP s (.not f) (lexA [] ([] ++ 33 :: (cl g ++ cl txt)))
    rw [lex_cut (by decide), lex_gap _ _ hg]
    exact .not h.rel
  · rw [Str.length_append, Str.length_append]
    omega
theorem Drawn.par {s : List Str} {L D S : Nat} {f : Fm} {txt g g' : Str} (h : Drawn s (TE s) L D S f txt) (hg : Gap (cl g)) (h2 : g.length ≤ 2) (hg' : Gap (cl g')) (h2' : g'.length ≤ 2) : Drawn s (TP s) (L + 6) D S f ("(" ++ g ++ txt ++ g' ++ ")") := by
  have h3 := h.len
  have l1 : ("(" : Str).length = 1 := rfl
  have l2 : (")" : Str).length = 1 := rfl
  refine ⟨?_, h.over, ?_, h.dep, h.size⟩
  · rw [cl_app, cl_app, cl_app, cl_app, c40, c41]
    have e : [40] ++ cl g ++ cl txt ++ cl g' ++ [41] = [] ++ 40 :: (cl g ++ (cl txt ++ (cl g' ++ 41 :: []))) := by simp
    rw [e, lex_cut (by decide), lex_gap _ _ hg, lex_gcut (by decide) (by decide) _ _ _ hg']
    exact .par h.rel
  · simp only [Str.length_append]
    omega
theorem Drawn.and {s : List Str} {L D S L' D' S' : Nat} {f f' : Fm} {txt txt' g g' : Str} (h : Drawn s (TB s) L D S f txt) (k : Drawn s (TP s) L' D' S' f' txt') (hg : Gap (cl g)) (h2 : g.length ≤ 2) (hg' : Gap (cl g')) (h2' : g'.length ≤ 2) :
    Drawn s (TB s) (L + (L' + 5)) (max D D' + 1) (S + S' + 1) (.and f f') (txt ++ g ++ "&" ++ g' ++ txt') := by
  have h3 := h.len
  have k3 := k.len
  have h4 := h.dep
  have k4 := k.dep
  have h5 := h.size
  have k5 := k.size
  have l1 : ("&" : Str).length = 1 := rfl
  refine ⟨?_, ⟨h.over, k.over⟩, ?_, ?_, ?_⟩
  · rw [cl_app, cl_app, cl_app, cl_app, c38]
    have e : cl txt ++ cl g ++ [38] ++ cl g' ++ cl txt' = cl txt ++ (cl g ++ 38 :: (cl g' ++ cl txt')) := by simp
    rw [e, lex_gcut (by decide) (by decide) _ _ _ hg, lex_gap _ _ hg']
    exact .and h.rel k.rel
  · simp only [Str.length_append]
    omega
  · show max f.dep f'.dep + 1 ≤ _
    omega
  · show f.size + f'.size + 1 ≤ _
    omega
theorem Drawn.or {s : List Str} {L D S L' D' S' : Nat} {f f' : Fm} {txt txt' g g' : Str} (h : Drawn s (TE s) L D S f txt) (k : Drawn s (TB s) L' D' S' f' txt') (hg : Gap (cl g)) (h2 : g.length ≤ 2) (hg' : Gap (cl g')) (h2' : g'.length ≤ 2) :
    Drawn s (TE s) (L + (L' + 5)) (max D D' + 1) (S + S' + 1) (.or f f') (txt ++ g ++ "|" ++ g' ++ txt') := by
  have h3 := h.len
  have k3 := k.len
  have h4 := h.dep
  have k4 := k.dep
  have h5 := h.size
  have k5 := k.size
  have l1 : ("|" : Str).length = 1 := rfl
  refine ⟨?_, ⟨h.over, k.over⟩, ?_, ?_, ?_⟩
  · rw [cl_app, cl_app, cl_app, cl_app, c124]
    have e : cl txt ++ cl g ++ [124] ++ cl g' ++ cl txt' = cl txt ++ (cl g ++ 124 :: (cl g' ++ cl txt')) := by simp
    rw [e, lex_gcut (by decide) (by decide) _ _ _ hg, lex_gap _ _ hg']
    exact .or h.rel k.rel
  · simp only [Str.length_append]
    omega
  · show max f.dep f'.dep + 1 ≤ _
    omega
  · show f.size + f'.size + 1 ≤ _
    omega
/-- the bounds, by the depth that is left -/
def lP : Nat → Nat
  | 0 => 6
  | n + 1 => 9 * lP n + 46
def dP : Nat → Nat
  | 0 => 1
  | n + 1 => dP n + 5
def sP : Nat → Nat
  | 0 => 1
  | n + 1 => 9 * sP n + 8
def lB (n : Nat) : Nat := 3 * lP n + 10
def dB (n : Nat) : Nat := dP n + 2
def sB (n : Nat) : Nat := 3 * sP n + 2
def lE (n : Nat) : Nat := 9 * lP n + 40
def dE (n : Nat) : Nat := dP n + 4
def sE (n : Nat) : Nat := 9 * sP n + 8
end Ver

/-! ## The truth of a formula: the mathematics -/
namespace Ver
open PySem L2
def ixOf (x : Str) : List Str → Nat
  | [] => 0
  | y :: r => if y = x then 0 else ixOf x r + 1
theorem ixOf_get {x : Str} : ∀ {s : List Str}, x ∈ s → s[ixOf x s]? = some x ∧ ∀ m, m < ixOf x s → s[m]? ≠ some x
  | [], h => by cases h
  | y :: r, h => by
    unfold ixOf
    by_cases e : y = x
    · rw [if_pos e]
      exact ⟨by rw [e]; rfl, fun m hm => by omega⟩
    · rw [if_neg e]
      have hr : x ∈ r := by
        rcases List.mem_cons.mp h with z | z
        · exact absurd z.symm e
        · exact z
      obtain ⟨h1, h2⟩ := ixOf_get hr
      refine ⟨by simpa using h1, fun m hm => ?_⟩
      cases m with
      | zero => intro z; exact e (Option.some.inj z)
      | succ m => intro z; exact h2 m (by omega) (by simpa using z)
theorem ixOf_lt {x : Str} {s : List Str} (h : x ∈ s) : ixOf x s < s.length := (List.getElem?_eq_some_iff.mp (ixOf_get h).1).1
def ev (s : List Str) (c : List Int) : Fm → Bool
  | .yes => true
  | .no => false
  | .sw x => decide (c.getD (ixOf x s) 0 = 1)
  | .not f => !ev s c f
  | .and f g => ev s c f && ev s c g
  | .or f g => ev s c f || ev s c g
theorem Fm.of_node {H : Hp} {v : V} {ds : List PyData} (h : Dv H v (.tuple ds)) : ∃ a xs, v = .ref a ∧ H a = some (.tup xs) ∧ DvAll H xs ds := h.of_tup
/-- the two ways of a test whose answer is known -/
theorem iteDF {p A B : Prop} [Decidable p] (h : ¬ p) (k : B) : if decide p = true then A else B := by
  rw [decide_eq_false h]
  exact iteF k
theorem iteDT {p A B : Prop} [Decidable p] (h : p) (k : A) : if decide p = true then A else B := by
  rw [decide_eq_true h]
  exact iteT k
theorem tYN : (V.str "yes" : V) ≠ V.str "no" := by decide +kernel
theorem tYS : (V.str "yes" : V) ≠ V.str "switch" := by decide +kernel
theorem tYT : (V.str "yes" : V) ≠ V.str "not" := by decide +kernel
theorem tYA : (V.str "yes" : V) ≠ V.str "and" := by decide +kernel
theorem tYO : (V.str "yes" : V) ≠ V.str "or" := by decide +kernel
theorem tNS : (V.str "no" : V) ≠ V.str "switch" := by decide +kernel
theorem tNT : (V.str "no" : V) ≠ V.str "not" := by decide +kernel
theorem tNA : (V.str "no" : V) ≠ V.str "and" := by decide +kernel
theorem tNO : (V.str "no" : V) ≠ V.str "or" := by decide +kernel
theorem tST : (V.str "switch" : V) ≠ V.str "not" := by decide +kernel
theorem tSA : (V.str "switch" : V) ≠ V.str "and" := by decide +kernel
theorem tSO : (V.str "switch" : V) ≠ V.str "or" := by decide +kernel
theorem tTA : (V.str "not" : V) ≠ V.str "and" := by decide +kernel
theorem tTO : (V.str "not" : V) ≠ V.str "or" := by decide +kernel
theorem tAO : (V.str "and" : V) ≠ V.str "or" := by decide +kernel
end Ver

/-! ## is_true: formulas in a list, the last part first -/
namespace Ver
open PySem L2
def pre : Fm → List Fm
  | .yes => [.yes]
  | .no => [.no]
  | .sw x => [.sw x]
  | .not f => .not f :: pre f
  | .and f g => .and f g :: (pre g ++ pre f)
  | .or f g => .or f g :: (pre g ++ pre f)
def kids : Fm → List Fm
  | .not f => [f]
  | .and f g => [f, g]
  | .or f g => [f, g]
  | _ => []
theorem pre_kids (f : Fm) : pre f = f :: ((kids f).reverse.flatMap pre) := by
  cases f <;> simp [pre, kids]
theorem pre_len : ∀ f : Fm, (pre f).length = f.size
  | .yes | .no | .sw _ => rfl
  | .not f => by show (pre f).length + 1 = _; rw [pre_len f]; rfl
  | .and f g => by show (pre g ++ pre f).length + 1 = _; rw [List.length_append, pre_len f, pre_len g]; show _ = f.size + g.size + 1; omega
  | .or f g => by show (pre g ++ pre f).length + 1 = _; rw [List.length_append, pre_len f, pre_len g]; show _ = f.size + g.size + 1; omega
theorem pre_over {s : List Str} : ∀ f : Fm, f.Over s → ∀ g ∈ pre f, g.Over s
  | .yes, _, g, hg => by rw [List.mem_singleton.mp hg]; exact True.intro
  | .no, _, g, hg => by rw [List.mem_singleton.mp hg]; exact True.intro
  | .sw x, h, g, hg => by rw [List.mem_singleton.mp hg]; exact h
  | .not f, h, g, hg => by
    rcases List.mem_cons.mp hg with e | e
    · rw [e]; exact h
    · exact pre_over f h g e
  | .and f k, h, g, hg => by
    rcases List.mem_cons.mp hg with e | e
    · rw [e]; exact h
    · rcases List.mem_append.mp e with e | e
      · exact pre_over k h.2 g e
      · exact pre_over f h.1 g e
  | .or f k, h, g, hg => by
    rcases List.mem_cons.mp hg with e | e
    · rw [e]; exact h
    · rcases List.mem_append.mp e with e | e
      · exact pre_over k h.2 g e
      · exact pre_over f h.1 g e
/-- the machine: the stack's top is the head -/
def step (s : List Str) (c : List Int) : Fm → List Bool → Option (List Bool)
  | .not _, b :: r => some ((!b) :: r)
  | .and _ _, y :: x :: r => some ((x && y) :: r)
  | .or _ _, y :: x :: r => some ((x || y) :: r)
  | .not _, _ => none
  | .and _ _, _ => none
  | .or _ _, _ => none
  | f, r => some (ev s c f :: r)
def run (s : List Str) (c : List Int) : List Fm → List Bool → Option (List Bool)
  | [], st => some st
  | f :: r, st => (step s c f st).bind (run s c r)
theorem run_pre (s : List Str) (c : List Int) : ∀ (f : Fm) (rest : List Fm) (st : List Bool), run s c ((pre f).reverse ++ rest) st = run s c rest (ev s c f :: st)
  | .yes, rest, st => rfl
  | .no, rest, st => rfl
  | .sw x, rest, st => rfl
  | .not f, rest, st => by
    show run s c ((Fm.not f :: pre f).reverse ++ rest) st = _
    rw [List.reverse_cons, List.append_assoc, run_pre s c f]
    rfl
  | .and f g, rest, st => by
    show run s c ((Fm.and f g :: (pre g ++ pre f)).reverse ++ rest) st = _
    rw [List.reverse_cons, List.reverse_append, List.append_assoc, List.append_assoc, run_pre s c f, run_pre s c g]
    rfl
  | .or f g, rest, st => by
    show run s c ((Fm.or f g :: (pre g ++ pre f)).reverse ++ rest) st = _
    rw [List.reverse_cons, List.reverse_append, List.append_assoc, List.append_assoc, run_pre s c f, run_pre s c g]
    rfl
/-- the stack never grows above the number of the parts that were read -/
theorem step_len {s : List Str} {c : List Int} {f : Fm} {st st' : List Bool} (h : step s c f st = some st') : st'.length ≤ st.length + 1 := by
  cases f with
  | not f => match st, h with
    | b :: r, h => cases h; simp
  | and f g => match st, h with
    | b :: x :: r, h => cases h; simp
  | or f g => match st, h with
    | b :: x :: r, h => cases h; simp
  | yes => cases h; simp
  | no => cases h; simp
  | sw x => cases h; simp
end Ver

/-! ## Reading signs: the mathematics -/
namespace Ver
open PySem L2
abbrev Tok' := List Nat
/-- one sign alone -/
def single (s : List Str) (t : Tok') : Option Fm := if t = [48] then some .no else if t = [49] then some .yes else (s.find? fun x => decide (cl x = t)).map Fm.sw
/-- further parts behind a sign, joined from the left; j: at most so many signs are left -/
def lp (c : Tok') (mk : Fm → Fm → Fm) (P : List Tok' → Option (Fm × List Tok')) : Nat → Fm → List Tok' → Option (Fm × List Tok')
  | 0, f, r => some (f, r)
  | j + 1, f, r => match r with
    | [] => some (f, [])
    | t :: r' => if t = c then (match P r' with
      | none => none
      | some (g, r'') => lp c mk P j (mk f g) r'') else some (f, t :: r')
def chainOf (c : Tok') (mk : Fm → Fm → Fm) (P : List Tok' → Option (Fm × List Tok')) (ts : List Tok') : Option (Fm × List Tok') := match P ts with
  | none => none
  | some (f, r) => lp c mk P r.length f r
def rdP (s : List Str) : Nat → List Tok' → Option (Fm × List Tok')
  | 0, _ => none
  | m + 1, ts => match ts with
    | [] => none
    | t :: r => if t = [33] then (match rdP s m r with
        | none => none
        | some (f, r') => some (.not f, r'))
      else if t = [40] then (match chainOf [124] .or (chainOf [38] .and (rdP s m)) r with
        | none => none
        | some (f, r') => match r' with
          | [] => none
          | u :: r'' => if u = [41] then some (f, r'') else none)
      else (single s t).map fun f => (f, r)
def rdB (s : List Str) (m : Nat) : List Tok' → Option (Fm × List Tok') := chainOf [38] .and (rdP s m)
def rdE (s : List Str) (m : Nat) : List Tok' → Option (Fm × List Tok') := chainOf [124] .or (rdB s m)
/-- what a reader takes is no longer than what it is given -/
def Cuts (P : List Tok' → Option (Fm × List Tok')) : Prop := ∀ ts f r, P ts = some (f, r) → r.length < ts.length
theorem lp_cuts {c : Tok'} {mk : Fm → Fm → Fm} {P : List Tok' → Option (Fm × List Tok')} (hP : Cuts P) : ∀ (j : Nat) (f g : Fm) (r r' : List Tok'), lp c mk P j f r = some (g, r') → r'.length ≤ r.length
  | 0, f, g, r, r', h => by cases h; exact Nat.le_refl _
  | j + 1, f, g, [], r', h => by cases h; exact Nat.le_refl _
  | j + 1, f, g, t :: r, r', h => by
    unfold lp at h
    simp only at h
    by_cases e : t = c
    · rw [if_pos e] at h
      cases q : P r with
      | none => rw [q] at h; cases h
      | some x =>
        obtain ⟨g0, r0⟩ := x
        rw [q] at h
        have h1 := lp_cuts hP j _ _ _ _ h
        have h2 := hP _ _ _ q
        rw [List.length_cons]
        omega
    · rw [if_neg e] at h
      cases h
      exact Nat.le_refl _
theorem chain_cuts {c : Tok'} {mk : Fm → Fm → Fm} {P : List Tok' → Option (Fm × List Tok')} (hP : Cuts P) : Cuts (chainOf c mk P) := fun ts f r h => by
  unfold chainOf at h
  cases q : P ts with
  | none => rw [q] at h; cases h
  | some x =>
    obtain ⟨g0, r0⟩ := x
    rw [q] at h
    have h1 := lp_cuts hP _ _ _ _ _ h
    have h2 := hP _ _ _ q
    omega
theorem rdP_cuts (s : List Str) : ∀ m, Cuts (rdP s m)
  | 0 => fun ts f r h => by cases h
  | m + 1 => fun ts f r h => by
    cases ts with
    | nil => cases h
    | cons t ts =>
      unfold rdP at h
      simp only at h
      rw [List.length_cons]
      by_cases e1 : t = [33]
      · rw [if_pos e1] at h
        cases q : rdP s m ts with
        | none => rw [q] at h; cases h
        | some x =>
          obtain ⟨g0, r0⟩ := x
          rw [q] at h
          cases h
          have := rdP_cuts s m _ _ _ q
          omega
      · rw [if_neg e1] at h
        by_cases e2 : t = [40]
        · rw [if_pos e2] at h
          cases q : chainOf [124] .or (chainOf [38] .and (rdP s m)) ts with
          | none => rw [q] at h; cases h
          | some x =>
            obtain ⟨g0, r0⟩ := x
            rw [q] at h
            have := chain_cuts (chain_cuts (rdP_cuts s m)) _ _ _ q
            cases r0 with
            | nil => cases h
            | cons u r0 =>
              simp only at h
              by_cases e3 : u = [41]
              · rw [if_pos e3] at h
                cases h
                rw [List.length_cons] at this
                omega
              · rw [if_neg e3] at h
                cases h
        · rw [if_neg e2] at h
          cases q : single s t with
          | none => rw [q] at h; cases h
          | some x =>
            rw [q] at h
            cases h
            omega
/-- enough turns are enough -/
theorem lp_fuel {c : Tok'} {mk : Fm → Fm → Fm} {P : List Tok' → Option (Fm × List Tok')} (hP : Cuts P) : ∀ (j k : Nat) (f : Fm) (r : List Tok'), r.length ≤ j → r.length ≤ k → lp c mk P j f r = lp c mk P k f r
  | 0, 0, _, _, _, _ => rfl
  | 0, k + 1, f, [], _, _ => rfl
  | j + 1, 0, f, [], _, _ => rfl
  | j + 1, k + 1, f, [], _, _ => rfl
  | 0, k + 1, f, t :: r, h, _ => by cases h
  | j + 1, 0, f, t :: r, _, h => by cases h
  | j + 1, k + 1, f, t :: r, h1, h2 => by
    unfold lp
    simp only
    split
    · cases q : P r with
      | none => rfl
      | some x =>
        obtain ⟨g0, r0⟩ := x
        have := hP _ _ _ q
        rw [List.length_cons] at h1 h2
        exact lp_fuel hP j k _ _ (by omega) (by omega)
    · rfl
def loop (c : Tok') (mk : Fm → Fm → Fm) (P : List Tok' → Option (Fm × List Tok')) (f : Fm) (r : List Tok') : Option (Fm × List Tok') := lp c mk P r.length f r
theorem loop_stop {c : Tok'} {mk : Fm → Fm → Fm} {P : List Tok' → Option (Fm × List Tok')} {f : Fm} {r : List Tok'} (h : r.head? ≠ some c) : loop c mk P f r = some (f, r) := by
  cases r with
  | nil => rfl
  | cons t r =>
    unfold loop
    rw [List.length_cons]
    unfold lp
    simp only
    rw [if_neg (fun e => h (by rw [e]; rfl))]
theorem loop_step {c : Tok'} {mk : Fm → Fm → Fm} {P : List Tok' → Option (Fm × List Tok')} (hP : Cuts P) {f : Fm} {r : List Tok'} : loop c mk P f (c :: r) = match P r with
    | none => none
    | some (g, r') => loop c mk P (mk f g) r' := by
  show lp c mk P (r.length + 1) f (c :: r) = _
  unfold lp
  simp only [if_pos]
  cases q : P r with
  | none => rfl
  | some x =>
    obtain ⟨g0, r0⟩ := x
    have := hP _ _ _ q
    exact lp_fuel hP _ _ _ _ (by omega) (Nat.le_refl _)
/-! ### what is written by the grammar is read -/
theorem single_name {s : List Str} {x : Str} (h : x ∈ s) (hx : ∀ c ∈ cl x, lett c = true) (hne : cl x ≠ []) : single s (cl x) = some (.sw x) := by
  have no : ∀ k, lett k = false → cl x ≠ [k] := fun k hk e => by
    have := hx k (by rw [e]; exact List.mem_singleton.mpr rfl)
    rw [hk] at this
    cases this
  unfold single
  rw [if_neg (no 48 (by decide)), if_neg (no 49 (by decide))]
  have : s.find? (fun y => decide (cl y = cl x)) = some x := by
    induction s with
    | nil => cases h
    | cons y s ih =>
      rw [List.find?_cons]
      by_cases e : cl y = cl x
      · rw [decide_eq_true e, cl_inj e]
      · rw [decide_eq_false e]
        refine ih ?_
        rcases List.mem_cons.mp h with z | z
        · exact absurd (by rw [z]) e
        · exact z
  rw [this]
  rfl
mutual
theorem TP.reads {s : List Str} (hs : ∀ x ∈ s, (∀ c ∈ cl x, lett c = true) ∧ cl x ≠ []) {f : Fm} {ws : List Tok'} (h : TP s f ws) : ∀ (m : Nat) (rest : List Tok'), ws.length ≤ m → rdP s m (ws ++ rest) = some (f, rest) := by
  match h with
  | .name (x := x) hx =>
    intro m rest hm
    obtain ⟨m, rfl⟩ : ∃ k, m = k + 1 := ⟨m - 1, by simp at hm; omega⟩
    have no : ∀ k, lett k = false → cl x ≠ [k] := fun k hk e => by
      have := (hs x hx).1 k (by rw [e]; exact List.mem_singleton.mpr rfl)
      rw [hk] at this
      cases this
    show rdP s (m + 1) (cl x :: rest) = _
    unfold rdP
    simp only
    rw [if_neg (no 33 (by decide)), if_neg (no 40 (by decide)), single_name hx (hs x hx).1 (hs x hx).2]
    rfl
  | .yes =>
    intro m rest hm
    obtain ⟨m, rfl⟩ : ∃ k, m = k + 1 := ⟨m - 1, by simp at hm; omega⟩
    rfl
  | .no =>
    intro m rest hm
    obtain ⟨m, rfl⟩ : ∃ k, m = k + 1 := ⟨m - 1, by simp at hm; omega⟩
    rfl
  | .not (ws := ws) h0 =>
    intro m rest hm
    obtain ⟨m, rfl⟩ : ∃ k, m = k + 1 := ⟨m - 1, by simp at hm; omega⟩
    show rdP s (m + 1) ([33] :: (ws ++ rest)) = _
    unfold rdP
    simp only [if_pos]
    rw [TP.reads hs h0 m rest (by simp at hm; omega)]
  | .par (ws := ws) h0 =>
    intro m rest hm
    obtain ⟨m, rfl⟩ : ∃ k, m = k + 1 := ⟨m - 1, by simp at hm; omega⟩
    have e : [40] :: (ws ++ [[41]]) ++ rest = [40] :: (ws ++ [41] :: rest) := by simp
    rw [e]
    unfold rdP
    simp only
    rw [if_neg (by decide), if_pos True.intro]
    have := TE.reads hs h0 m ([41] :: rest) (by simp at hm; omega) (by simp)
    have e2 : chainOf [124] .or (chainOf [38] .and (rdP s m)) (ws ++ [41] :: rest) = loop [124] .or (rdB s m) _ ([41] :: rest) := this
    rw [e2, loop_stop (by simp)]
    simp
theorem TB.reads {s : List Str} (hs : ∀ x ∈ s, (∀ c ∈ cl x, lett c = true) ∧ cl x ≠ []) {f : Fm} {ws : List Tok'} (h : TB s f ws) : ∀ (m : Nat) (rest : List Tok'), ws.length ≤ m → rdB s m (ws ++ rest) = loop [38] .and (rdP s m) f rest := by
  match h with
  | .one h0 =>
    intro m rest hm
    show chainOf [38] .and (rdP s m) (ws ++ rest) = _
    unfold chainOf
    rw [TP.reads hs h0 m rest hm]
    rfl
  | .and (g := g) (ws := ws) (vs := vs) h0 k0 =>
    intro m rest hm
    simp at hm
    have e : ws ++ [38] :: vs ++ rest = ws ++ ([38] :: (vs ++ rest)) := by simp
    rw [e, TB.reads hs h0 m _ (by omega), loop_step (rdP_cuts s m), TP.reads hs k0 m rest (by omega)]
theorem TE.reads {s : List Str} (hs : ∀ x ∈ s, (∀ c ∈ cl x, lett c = true) ∧ cl x ≠ []) {f : Fm} {ws : List Tok'} (h : TE s f ws) : ∀ (m : Nat) (rest : List Tok'), ws.length ≤ m → rest.head? ≠ some [38] → rdE s m (ws ++ rest) = loop [124] .or (rdB s m) f rest := by
  match h with
  | .one h0 =>
    intro m rest hm hr
    show chainOf [124] .or (rdB s m) (ws ++ rest) = _
    unfold chainOf
    rw [TB.reads hs h0 m rest hm, loop_stop hr]
    rfl
  | .or (g := g) (ws := ws) (vs := vs) h0 k0 =>
    intro m rest hm hr
    simp at hm
    have e : ws ++ [124] :: vs ++ rest = ws ++ ([124] :: (vs ++ rest)) := by simp
    rw [e, TE.reads hs h0 m _ (by omega) (by simp), loop_step (show Cuts (rdB s m) from chain_cuts (rdP_cuts s m)), TB.reads hs k0 m rest (by omega), loop_stop hr]
end
end Ver

/-! ## The law's reader: signs reduced till one is left -/
namespace Ver
open PySem L2
/-- a reader with two states (an operand is wanted; one has been read) and a depth -/
def acc : List Nat → Bool → Nat → Bool
  | [], want, d => !want && decide (d = 0)
  | c :: r, true, d => if c = 120 then acc r false d else if c = 33 then acc r true d else if c = 40 then acc r true (d + 1) else false
  | c :: r, false, d => if c = 38 ∨ c = 124 then acc r true d else if c = 41 then (match d with
    | 0 => false
    | d + 1 => acc r false d) else false
/-- the four things that are reduced to x -/
def olds : List (List Nat) := [[33, 120], [40, 120, 41], [120, 38, 120], [120, 124, 120]]
theorem acc_old {o : List Nat} (h : o ∈ olds) (v : List Nat) (want : Bool) (d : Nat) : acc (o ++ v) want d = acc (120 :: v) want d := by
  simp only [olds, List.mem_cons, List.mem_nil_iff, or_false] at h
  rcases h with rfl | rfl | rfl | rfl <;> cases want <;> simp [acc]
theorem acc_t (c : Nat) (r : List Nat) (d : Nat) : acc (c :: r) true d = if c = 120 then acc r false d else if c = 33 then acc r true d else if c = 40 then acc r true (d + 1) else false := rfl
theorem acc_f0 (c : Nat) (r : List Nat) : acc (c :: r) false 0 = if c = 38 ∨ c = 124 then acc r true 0 else if c = 41 then false else false := rfl
theorem acc_f1 (c : Nat) (r : List Nat) (d : Nat) : acc (c :: r) false (d + 1) = if c = 38 ∨ c = 124 then acc r true (d + 1) else if c = 41 then acc r false d else false := rfl
theorem acc_ctx {a b : List Nat} (h : ∀ want d, acc a want d = acc b want d) : ∀ (u : List Nat) (want : Bool) (d : Nat), acc (u ++ a) want d = acc (u ++ b) want d
  | [], want, d => h want d
  | c :: u, true, d => by
    rw [List.cons_append, List.cons_append, acc_t, acc_t, acc_ctx h u, acc_ctx h u, acc_ctx h u]
  | c :: u, false, 0 => by
    rw [List.cons_append, List.cons_append, acc_f0, acc_f0, acc_ctx h u]
  | c :: u, false, d + 1 => by
    rw [List.cons_append, List.cons_append, acc_f1, acc_f1, acc_ctx h u, acc_ctx h u]
theorem acc_red {o : List Nat} (h : o ∈ olds) (u v : List Nat) : acc (u ++ (o ++ v)) true 0 = acc (u ++ (120 :: v)) true 0 := acc_ctx (fun want d => acc_old h v want d) u true 0
/-- nothing to reduce -/
def Stuck (w : List Nat) : Prop := ∀ o ∈ olds, ∀ u v, w ≠ u ++ (o ++ v)
/-- operands with signs between them alone -/
theorem acc_flat : ∀ (w : List Nat) (d : Nat), acc w false d = true → (∀ c ∈ w, c ≠ 33 ∧ c ≠ 40) → (w = [] ∧ d = 0) ∨ (∃ v, w = 41 :: v ∧ 0 < d) ∨ ∃ (o : Nat) (v : List Nat), w = o :: 120 :: v ∧ (o = 38 ∨ o = 124)
  | [], d, h, _ => by
    simp [acc] at h
    exact .inl ⟨rfl, h⟩
  | c :: r, d, h, hc => by
    unfold acc at h
    by_cases e : c = 38 ∨ c = 124
    · rw [if_pos e] at h
      cases r with
      | nil => simp [acc] at h
      | cons b r =>
        have hb := hc b (List.mem_cons_of_mem _ List.mem_cons_self)
        unfold acc at h
        by_cases e1 : b = 120
        · subst e1
          exact .inr (.inr ⟨c, r, rfl, e⟩)
        · rw [if_neg e1, if_neg hb.1, if_neg hb.2] at h
          cases h
    · rw [if_neg e] at h
      by_cases e1 : c = 41
      · rw [if_pos e1] at h
        cases d with
        | zero => cases h
        | succ d =>
          subst e1
          exact .inr (.inl ⟨r, rfl, by omega⟩)
      · rw [if_neg e1] at h
        cases h
/-- the last ! or ( of a row -/
theorem last_pre : ∀ w : List Nat, (∀ c ∈ w, c ≠ 33 ∧ c ≠ 40) ∨ ∃ (u : List Nat) (c : Nat) (v : List Nat), w = u ++ c :: v ∧ (c = 33 ∨ c = 40) ∧ ∀ b ∈ v, b ≠ 33 ∧ b ≠ 40
  | [] => .inl fun c h => by cases h
  | a :: w => by
    rcases last_pre w with h | ⟨u, c, v, rfl, hc, hv⟩
    · by_cases e : a = 33 ∨ a = 40
      · exact .inr ⟨[], a, w, rfl, e, h⟩
      · refine .inl fun c hc => ?_
        rcases List.mem_cons.mp hc with z | z
        · rw [z]
          exact ⟨fun q => e (.inl q), fun q => e (.inr q)⟩
        · exact h c z
    · exact .inr ⟨a :: u, c, v, rfl, hc, hv⟩
/-- the state behind a part of a row that is taken -/
theorem acc_split : ∀ (u w : List Nat) (want : Bool) (d : Nat), acc (u ++ w) want d = true → ∃ (want' : Bool) (d' : Nat), acc w want' d' = true ∧ ∀ w', acc (u ++ w') want d = acc w' want' d'
  | [], w, want, d, h => ⟨want, d, h, fun _ => rfl⟩
  | c :: u, w, true, d, h => by
    rw [List.cons_append, acc_t] at h
    by_cases e1 : c = 120
    · rw [if_pos e1] at h
      obtain ⟨x, y, z, q⟩ := acc_split u w false d h
      exact ⟨x, y, z, fun w' => by rw [← q w', List.cons_append, acc_t, if_pos e1]⟩
    · rw [if_neg e1] at h
      by_cases e2 : c = 33
      · rw [if_pos e2] at h
        obtain ⟨x, y, z, q⟩ := acc_split u w true d h
        exact ⟨x, y, z, fun w' => by rw [← q w', List.cons_append, acc_t, if_neg e1, if_pos e2]⟩
      · rw [if_neg e2] at h
        by_cases e3 : c = 40
        · rw [if_pos e3] at h
          obtain ⟨x, y, z, q⟩ := acc_split u w true (d + 1) h
          exact ⟨x, y, z, fun w' => by rw [← q w', List.cons_append, acc_t, if_neg e1, if_neg e2, if_pos e3]⟩
        · rw [if_neg e3] at h
          cases h
  | c :: u, w, false, 0, h => by
    rw [List.cons_append, acc_f0] at h
    by_cases e1 : c = 38 ∨ c = 124
    · rw [if_pos e1] at h
      obtain ⟨x, y, z, q⟩ := acc_split u w true 0 h
      exact ⟨x, y, z, fun w' => by rw [← q w', List.cons_append, acc_f0, if_pos e1]⟩
    · rw [if_neg e1] at h
      simp at h
  | c :: u, w, false, d + 1, h => by
    rw [List.cons_append, acc_f1] at h
    by_cases e1 : c = 38 ∨ c = 124
    · rw [if_pos e1] at h
      obtain ⟨x, y, z, q⟩ := acc_split u w true (d + 1) h
      exact ⟨x, y, z, fun w' => by rw [← q w', List.cons_append, acc_f1, if_pos e1]⟩
    · rw [if_neg e1] at h
      by_cases e2 : c = 41
      · rw [if_pos e2] at h
        obtain ⟨x, y, z, q⟩ := acc_split u w false d h
        exact ⟨x, y, z, fun w' => by rw [← q w', List.cons_append, acc_f1, if_neg e1, if_pos e2]⟩
      · rw [if_neg e2] at h
        cases h
theorem red_mem : ([33, 120] ∈ olds) ∧ ([40, 120, 41] ∈ olds) ∧ ([120, 38, 120] ∈ olds) ∧ ([120, 124, 120] ∈ olds) := by simp [olds]
/-- what is taken and can't be reduced is x alone -/
theorem stuck_x {w : List Nat} (h : acc w true 0 = true) (hs : Stuck w) : w = [120] := by
  obtain ⟨m1, m2, m3, m4⟩ := red_mem
  have opx : ∀ (p v : List Nat) (o : Nat), w = p ++ 120 :: o :: 120 :: v → (o = 38 ∨ o = 124) → False := fun p v o e ho => by
    rcases ho with rfl | rfl
    · exact hs _ m3 p v e
    · exact hs _ m4 p v e
  rcases last_pre w with hn | ⟨u, c, v, rfl, hc, hv⟩
  · cases w with
    | nil => simp [acc] at h
    | cons b r =>
      have hb := hn b List.mem_cons_self
      unfold acc at h
      by_cases e : b = 120
      · rw [if_pos e] at h
        subst e
        rcases acc_flat r 0 h (fun c hc => hn c (List.mem_cons_of_mem _ hc)) with ⟨rfl, _⟩ | ⟨_, _, hd⟩ | ⟨o, v, rfl, ho⟩
        · rfl
        · omega
        · exact (opx [] v o rfl ho).elim
      · rw [if_neg e, if_neg hb.1, if_neg hb.2] at h
        cases h
  · exfalso
    obtain ⟨want, d, h1, _⟩ := acc_split u (c :: v) true 0 h
    cases want with
    | false =>
      unfold acc at h1
      rcases hc with rfl | rfl <;> simp at h1
    | true =>
      have nxt : ∀ d', acc v true d' = true → ∃ v', v = 120 :: v' ∧ acc v' false d' = true := fun d' q => by
        cases v with
        | nil => simp [acc] at q
        | cons b v' =>
          have hb := hv b List.mem_cons_self
          unfold acc at q
          by_cases e : b = 120
          · rw [if_pos e] at q
            exact ⟨v', by rw [e], q⟩
          · rw [if_neg e, if_neg hb.1, if_neg hb.2] at q
            cases q
      rcases hc with rfl | rfl
      · have h2 : acc v true d = true := by simpa [acc] using h1
        obtain ⟨v', rfl, _⟩ := nxt d h2
        exact hs _ m1 u v' rfl
      · have h2 : acc v true (d + 1) = true := by simpa [acc] using h1
        obtain ⟨v', rfl, h3⟩ := nxt (d + 1) h2
        rcases acc_flat v' (d + 1) h3 (fun c hc => hv c (List.mem_cons_of_mem _ hc)) with ⟨_, e⟩ | ⟨v2, rfl, _⟩ | ⟨o, v2, rfl, ho⟩
        · omega
        · exact hs _ m2 u v2 rfl
        · exact opx (u ++ [40]) v2 o (by simp) ho
/-! ### replacing all of one kind -/
open PySem.StrLaws in
theorem repl_acc {o : List Nat} (ho : o ∈ olds) : ∀ (n : Nat) (l : List Nat), l.length ≤ n → ∀ u, acc (u ++ replL o [120] l) true 0 = acc (u ++ l) true 0
  | 0, l, hl, u => by
    have : l = [] := List.length_eq_zero_iff.mp (by omega)
    subst this
    rw [replL_nil]
  | n + 1, [], _, u => by rw [replL_nil]
  | n + 1, c :: r, hl, u => by
    have hne : o ≠ [] := by
      rintro rfl
      simp [olds] at ho
    by_cases h : (c :: r).take o.length = o
    · rw [replL_hit hne h]
      have e : c :: r = o ++ (c :: r).drop o.length := by
        have := List.take_append_drop o.length (c :: r)
        rw [h] at this
        exact this.symm
      have hl2 : ((c :: r).drop o.length).length ≤ n := by
        rw [List.length_drop]
        have : 0 < o.length := List.length_pos_iff.mpr hne
        omega
      have ih := repl_acc ho n _ hl2 (u ++ [120])
      rw [List.append_assoc, List.append_assoc] at ih
      rw [show u ++ ([120] ++ replL o [120] ((c :: r).drop o.length)) = u ++ [120] ++ replL o [120] ((c :: r).drop o.length) by simp] 
      rw [show u ++ [120] ++ replL o [120] ((c :: r).drop o.length) = u ++ ([120] ++ replL o [120] ((c :: r).drop o.length)) by simp, ih]
      rw [show u ++ ([120] ++ (c :: r).drop o.length) = u ++ (120 :: (c :: r).drop o.length) by simp, ← acc_red ho, ← e]
    · rw [replL_miss h]
      have ih := repl_acc ho n r (by rw [List.length_cons] at hl; omega) (u ++ [c])
      simpa using ih
open PySem.StrLaws in
theorem repl_len {o : List Nat} (ho : 2 ≤ o.length) : ∀ (n : Nat) (l : List Nat), l.length ≤ n → (replL o [120] l = l ∧ ∀ u v, l ≠ u ++ (o ++ v)) ∨ (replL o [120] l).length < l.length
  | 0, l, hl => by
    have : l = [] := List.length_eq_zero_iff.mp (by omega)
    subst this
    refine .inl ⟨replL_nil, fun u v e => ?_⟩
    have := congrArg List.length e
    simp at this
    omega
  | n + 1, [], _ => by
    refine .inl ⟨replL_nil, fun u v e => ?_⟩
    have := congrArg List.length e
    simp at this
    omega
  | n + 1, c :: r, hl => by
    have hne : o ≠ [] := by
      rintro rfl
      simp at ho
    by_cases h : (c :: r).take o.length = o
    · right
      rw [replL_hit hne h, List.length_append]
      have hle : o.length ≤ (c :: r).length := by
        have := congrArg List.length h
        rw [List.length_take] at this
        omega
      have hl2 : ((c :: r).drop o.length).length ≤ n := by
        rw [List.length_drop]
        omega
      have hd : ((c :: r).drop o.length).length + o.length = (c :: r).length := by
        rw [List.length_drop]
        omega
      have h1 : ([120] : List Nat).length = 1 := rfl
      rcases repl_len ho n _ hl2 with ⟨e, _⟩ | e
      · rw [e]
        omega
      · omega
    · rw [replL_miss h]
      rcases repl_len ho n r (by rw [List.length_cons] at hl; omega) with ⟨e, k⟩ | e
      · left
        refine ⟨by rw [e], fun u v z => ?_⟩
        cases u with
        | nil =>
          apply h
          have z' : c :: r = o ++ v := z
          rw [z', List.take_left' rfl]
        | cons a u =>
          have z' := (List.cons.inj z).2
          exact k u v z'
      · right
        rw [List.length_cons, List.length_cons]
        omega
/-- one round -/
def round (l : List Nat) : List Nat := olds.foldl (fun l o => StrLaws.replL o [120] l) l
theorem round_acc (l : List Nat) : acc (round l) true 0 = acc l true 0 := by
  obtain ⟨m1, m2, m3, m4⟩ := red_mem
  have r : ∀ {o : List Nat} (ho : o ∈ olds) (l : List Nat), acc (StrLaws.replL o [120] l) true 0 = acc l true 0 := fun ho l => repl_acc ho l.length l (Nat.le_refl _) []
  show acc (StrLaws.replL _ [120] (StrLaws.replL _ [120] (StrLaws.replL _ [120] (StrLaws.replL _ [120] l)))) true 0 = _
  rw [r m4, r m3, r m2, r m1]
theorem round_len (l : List Nat) : (round l = l ∧ Stuck l) ∨ (round l).length < l.length := by
  have r : ∀ {o : List Nat} (ho : 2 ≤ o.length) (l : List Nat), (StrLaws.replL o [120] l = l ∧ ∀ u v, l ≠ u ++ (o ++ v)) ∨ (StrLaws.replL o [120] l).length < l.length := fun ho l => repl_len ho l.length l (Nat.le_refl _)
  show (StrLaws.replL [120, 124, 120] [120] (StrLaws.replL [120, 38, 120] [120] (StrLaws.replL [40, 120, 41] [120] (StrLaws.replL [33, 120] [120] l))) = l ∧ Stuck l) ∨ (StrLaws.replL [120, 124, 120] [120] (StrLaws.replL [120, 38, 120] [120] (StrLaws.replL [40, 120, 41] [120] (StrLaws.replL [33, 120] [120] l)))).length < l.length
  have le : ∀ {o : List Nat} (ho : 2 ≤ o.length) (l : List Nat), (StrLaws.replL o [120] l).length ≤ l.length := fun ho l => by
    rcases r ho l with ⟨e, _⟩ | e
    · rw [e]; exact Nat.le_refl _
    · omega
  have a1 : 2 ≤ ([33, 120] : List Nat).length := by decide
  have a2 : 2 ≤ ([40, 120, 41] : List Nat).length := by decide
  have a3 : 2 ≤ ([120, 38, 120] : List Nat).length := by decide
  have a4 : 2 ≤ ([120, 124, 120] : List Nat).length := by decide
  rcases r a1 l with ⟨e1, k1⟩ | e1
  · rw [e1]
    rcases r a2 l with ⟨e2, k2⟩ | e2
    · rw [e2]
      rcases r a3 l with ⟨e3, k3⟩ | e3
      · rw [e3]
        rcases r a4 l with ⟨e4, k4⟩ | e4
        · refine .inl ⟨e4, fun o ho => ?_⟩
          simp only [olds, List.mem_cons, List.mem_nil_iff, or_false] at ho
          rcases ho with rfl | rfl | rfl | rfl
          · exact k1
          · exact k2
          · exact k3
          · exact k4
        · exact .inr e4
      · exact .inr (Nat.lt_of_le_of_lt (le a4 _) e3)
    · exact .inr (Nat.lt_of_le_of_lt (Nat.le_trans (le a4 _) (le a3 _)) e2)
  · exact .inr (Nat.lt_of_le_of_lt (Nat.le_trans (le a4 _) (Nat.le_trans (le a3 _) (le a2 _))) e1)
def rounds : Nat → List Nat → List Nat
  | 0, l => l
  | n + 1, l => rounds n (round l)
theorem rounds_acc : ∀ (n : Nat) (l : List Nat), acc (rounds n l) true 0 = acc l true 0
  | 0, _ => rfl
  | n + 1, l => (rounds_acc n (round l)).trans (round_acc l)
theorem rounds_fix : ∀ (n : Nat) (l : List Nat), round l = l → rounds n l = l
  | 0, _, _ => rfl
  | n + 1, l, h => by
    show rounds n (round l) = l
    rw [h]
    exact rounds_fix n l h
theorem rounds_stuck : ∀ (n : Nat) (l : List Nat), l.length ≤ n → Stuck (rounds n l)
  | 0, l, h => by
    have : l = [] := List.length_eq_zero_iff.mp (by omega)
    subst this
    intro o ho u v e
    have h1 := congrArg List.length e
    have h2 : 2 ≤ o.length := by
      simp only [olds, List.mem_cons, List.mem_nil_iff, or_false] at ho
      rcases ho with rfl | rfl | rfl | rfl <;> decide
    rw [List.length_append, List.length_append] at h1
    have h3 : (rounds 0 ([] : List Nat)).length = 0 := rfl
    omega
  | n + 1, l, h => by
    rcases round_len l with ⟨e, k⟩ | e
    · rw [rounds_fix (n + 1) l e]
      exact k
    · exact rounds_stuck n (round l) (by omega)
theorem rounds_mono : ∀ (n k : Nat) (l : List Nat), rounds (n + k) l = rounds k (rounds n l)
  | 0, k, l => by rw [Nat.zero_add]; rfl
  | n + 1, k, l => by
    rw [show n + 1 + k = (n + k) + 1 by omega]
    exact rounds_mono n k (round l)
/-- what the law's reader says of a row of at most 70 signs -/
theorem rounds_says {l : List Nat} (h : l.length ≤ 70) : (rounds 70 l = [120]) ↔ acc l true 0 = true := by
  rw [← rounds_acc 70 l]
  constructor
  · intro e
    rw [e]
    rfl
  · intro e
    exact stuck_x e (rounds_stuck 70 l h)
end Ver

/-! ## What is reduced to x is what is read -/
namespace Ver
open PySem L2
inductive LE : List Nat → Prop
  | x : LE [120]
  | not {w : List Nat} (h : LE w) : LE (33 :: w)
  | par {w : List Nat} (h : LE w) : LE (40 :: (w ++ [41]))
  | and {u v : List Nat} (h : LE u) (k : LE v) : LE (u ++ 38 :: v)
  | or {u v : List Nat} (h : LE u) (k : LE v) : LE (u ++ 124 :: v)
theorem LE.subst {e : List Nat} (he : LE e) {w : List Nat} (h : LE w) : ∀ u v, w = u ++ 120 :: v → LE (u ++ (e ++ v)) := by
  induction h with
  | x =>
    intro u v h
    cases u with
    | nil =>
      have := (List.cons.inj h).2
      subst this
      rw [List.append_nil]
      exact he
    | cons a u => simp at h
  | not h ih =>
    intro u v q
    cases u with
    | nil => simp at q
    | cons a u =>
      have q2 := (List.cons.inj q).2
      have e := (List.cons.inj q).1
      subst e
      exact .not (ih u v q2)
  | @par w h ih =>
    intro u v q
    cases u with
    | nil => simp at q
    | cons a u =>
      have q2 : w ++ [41] = u ++ 120 :: v := (List.cons.inj q).2
      have e := (List.cons.inj q).1
      subst e
      rcases List.eq_nil_or_concat v with rfl | ⟨v', b, rfl⟩
      · have := congrArg List.getLast? q2
        simp at this
      · have q' : w ++ [41] = (u ++ 120 :: v') ++ [b] := by rw [q2]; simp
        obtain ⟨q1, q2⟩ := List.append_inj' q' rfl
        have hb : b = 41 := by simpa using q2.symm
        subst hb
        have := LE.par (ih u v' q1)
        simpa using this
  | @and a b h k ih1 ih2 =>
    intro u v q
    rcases List.append_eq_append_iff.mp q with ⟨m, q1, q2⟩ | ⟨m, q1, q2⟩
    · cases m with
      | nil => simp at q2
      | cons c m =>
        have q3 : b = m ++ 120 :: v := (List.cons.inj q2).2
        have e := (List.cons.inj q2).1
        subst e
        have := LE.and h (ih2 m v q3)
        rw [q1]
        simpa using this
    · cases m with
      | nil => simp at q2
      | cons c m =>
        have q3 : v = m ++ 38 :: b := (List.cons.inj q2).2
        have e := (List.cons.inj q2).1
        subst e
        have := LE.and (ih1 u m q1) k
        rw [q3]
        simpa using this
  | @or a b h k ih1 ih2 =>
    intro u v q
    rcases List.append_eq_append_iff.mp q with ⟨m, q1, q2⟩ | ⟨m, q1, q2⟩
    · cases m with
      | nil => simp at q2
      | cons c m =>
        have q3 : b = m ++ 120 :: v := (List.cons.inj q2).2
        have e := (List.cons.inj q2).1
        subst e
        have := LE.or h (ih2 m v q3)
        rw [q1]
        simpa using this
    · cases m with
      | nil => simp at q2
      | cons c m =>
        have q3 : v = m ++ 124 :: b := (List.cons.inj q2).2
        have e := (List.cons.inj q2).1
        subst e
        have := LE.or (ih1 u m q1) k
        rw [q3]
        simpa using this
theorem LE.old {o : List Nat} (h : o ∈ olds) : LE o := by
  simp only [olds, List.mem_cons, List.mem_nil_iff, or_false] at h
  rcases h with rfl | rfl | rfl | rfl
  · exact .not .x
  · exact .par .x
  · exact LE.and (u := [120]) (v := [120]) .x .x
  · exact LE.or (u := [120]) (v := [120]) .x .x
theorem acc_LE : ∀ (n : Nat) (w : List Nat), w.length ≤ n → acc w true 0 = true → LE w
  | 0, w, hl, h => by
    have : w = [] := List.length_eq_zero_iff.mp (by omega)
    subst this
    simp [acc] at h
  | n + 1, w, hl, h => by
    by_cases hs : Stuck w
    · rw [stuck_x h hs]
      exact .x
    · have : ∃ o ∈ olds, ∃ u v, w = u ++ (o ++ v) := by
        by_cases q : ∃ o ∈ olds, ∃ u v, w = u ++ (o ++ v)
        · exact q
        · exact absurd (fun o ho u v e => q ⟨o, ho, u, v, e⟩) hs
      obtain ⟨o, ho, u, v, rfl⟩ := this
      rw [acc_red ho] at h
      have h2 : 2 ≤ o.length := by
        simp only [olds, List.mem_cons, List.mem_nil_iff, or_false] at ho
        rcases ho with rfl | rfl | rfl | rfl <;> decide
      have hl2 : (u ++ 120 :: v).length ≤ n := by
        rw [List.length_append, List.length_append] at hl
        rw [List.length_append, List.length_cons]
        omega
      exact LE.subst (.old ho) (acc_LE n _ hl2 h) u v rfl
/-- a sign as the law's reader sees it -/
def absT (s : List Str) (t : Tok') : Nat := if (single s t).isSome then 120 else if t = [33] then 33 else if t = [40] then 40 else if t = [41] then 41 else if t = [38] then 38 else if t = [124] then 124 else 63
/-- names are rows of letters -/
abbrev Named (s : List Str) : Prop := ∀ x ∈ s, (∀ c ∈ cl x, lett c = true) ∧ cl x ≠ []
theorem single_not {s : List Str} (hs : Named s) {k : Nat} (h : lett k = false) (h0 : k ≠ 48) (h1 : k ≠ 49) : single s [k] = none := by
  unfold single
  rw [if_neg (fun e => h0 (List.cons.inj e).1), if_neg (fun e => h1 (List.cons.inj e).1)]
  have : s.find? (fun x => decide (cl x = [k])) = none := by
    rw [List.find?_eq_none]
    intro x hx
    rw [decide_eq_true_eq]
    intro e
    have := (hs x hx).1 k (by rw [e]; exact List.mem_singleton.mpr rfl)
    rw [h] at this
    cases this
  rw [this]
  rfl
theorem single_tp {s : List Str} {t : Tok'} {f : Fm} (h : single s t = some f) : TP s f [t] := by
  unfold single at h
  by_cases e0 : t = [48]
  · rw [if_pos e0] at h
    cases h
    rw [e0]
    exact .no
  · rw [if_neg e0] at h
    by_cases e1 : t = [49]
    · rw [if_pos e1] at h
      cases h
      rw [e1]
      exact .yes
    · rw [if_neg e1] at h
      cases q : s.find? (fun x => decide (cl x = t)) with
      | none => rw [q] at h; cases h
      | some x =>
        rw [q] at h
        cases h
        have h1 := List.find?_some q
        have h2 := List.mem_of_find?_eq_some q
        rw [← of_decide_eq_true h1]
        exact .name h2
theorem abs_x {s : List Str} {t : Tok'} (h : absT s t = 120) : ∃ f, TP s f [t] := by
  unfold absT at h
  cases q : single s t with
  | some f => exact ⟨f, single_tp q⟩
  | none =>
    rw [q] at h
    simp only [Option.isSome_none, Bool.false_eq_true, if_false] at h
    repeat (split at h; · omega)
    omega
theorem abs_op {s : List Str} {t : Tok'} {k : Nat} (h : absT s t = k) (hk : k = 33 ∨ k = 40 ∨ k = 41 ∨ k = 38 ∨ k = 124) : t = [k] := by
  unfold absT at h
  split at h
  · omega
  split at h
  · rename_i e; rw [e, h]
  split at h
  · rename_i e; rw [e, h]
  split at h
  · rename_i e; rw [e, h]
  split at h
  · rename_i e; rw [e, h]
  split at h
  · rename_i e; rw [e, h]
  omega
theorem TB.bang {s : List Str} {f : Fm} {ws : List Tok'} (h : TB s f ws) : ∃ f', TB s f' ([33] :: ws) := by
  match h with
  | .one h0 => exact ⟨_, .one (.not h0)⟩
  | .and h0 k0 =>
    obtain ⟨f', h1⟩ := TB.bang h0
    exact ⟨_, .and h1 k0⟩
theorem TE.bang {s : List Str} {f : Fm} {ws : List Tok'} (h : TE s f ws) : ∃ f', TE s f' ([33] :: ws) := by
  match h with
  | .one h0 =>
    obtain ⟨f', h1⟩ := TB.bang h0
    exact ⟨_, .one h1⟩
  | .or h0 k0 =>
    obtain ⟨f', h1⟩ := TE.bang h0
    exact ⟨_, .or h1 k0⟩
theorem TB.amp {s : List Str} {f g : Fm} {ws vs : List Tok'} (h : TB s f ws) (k : TB s g vs) : ∃ f', TB s f' (ws ++ [38] :: vs) := by
  match k with
  | .one k0 => exact ⟨_, .and h k0⟩
  | .and (g := g1) (ws := us) (vs := ls) k0 k1 =>
    obtain ⟨f', h1⟩ := TB.amp h k0
    have := TB.and h1 k1
    exact ⟨.and f' g1, by simpa using this⟩
theorem TE.ampB {s : List Str} {f g : Fm} {ws vs : List Tok'} (h : TE s f ws) (k : TB s g vs) : ∃ f', TE s f' (ws ++ [38] :: vs) := by
  match h with
  | .one h0 =>
    obtain ⟨f', h1⟩ := TB.amp h0 k
    exact ⟨_, .one h1⟩
  | .or (f := f1) h0 h1 =>
    obtain ⟨f', h2⟩ := TB.amp h1 k
    have := TE.or h0 h2
    exact ⟨.or f1 f', by simpa using this⟩
theorem TE.amp {s : List Str} {f g : Fm} {ws vs : List Tok'} (h : TE s f ws) (k : TE s g vs) : ∃ f', TE s f' (ws ++ [38] :: vs) := by
  match k with
  | .one k0 => exact TE.ampB h k0
  | .or (g := g1) k0 k1 =>
    obtain ⟨f', h1⟩ := TE.amp h k0
    have := TE.or h1 k1
    exact ⟨.or f' g1, by simpa using this⟩
theorem TE.bar {s : List Str} {f g : Fm} {ws vs : List Tok'} (h : TE s f ws) (k : TE s g vs) : ∃ f', TE s f' (ws ++ [124] :: vs) := by
  match k with
  | .one k0 => exact ⟨_, .or h k0⟩
  | .or (g := g1) k0 k1 =>
    obtain ⟨f', h1⟩ := TE.bar h k0
    have := TE.or h1 k1
    exact ⟨.or f' g1, by simpa using this⟩
theorem LE.reads {s : List Str} {w : List Nat} (h : LE w) : ∀ ts : List Tok', ts.map (absT s) = w → ∃ f, TE s f ts := by
  induction h with
  | x =>
    intro ts e
    obtain ⟨t, rfl⟩ : ∃ t, ts = [t] := List.length_eq_one_iff.mp (by simpa using congrArg List.length e)
    obtain ⟨f, h⟩ := abs_x (s := s) (t := t) (List.cons.inj e).1
    exact ⟨f, .one (.one h)⟩
  | not h ih =>
    intro ts e
    cases ts with
    | nil => cases e
    | cons t ts =>
      obtain ⟨e1, e2⟩ := List.cons.inj e
      obtain ⟨f, h⟩ := ih ts e2
      rw [abs_op e1 (.inl rfl)]
      exact TE.bang h
  | @par w h ih =>
    intro ts e
    cases ts with
    | nil => cases e
    | cons t ts =>
      obtain ⟨e1, e2⟩ := List.cons.inj e
      obtain ⟨a, b, rfl, e3, e4⟩ := List.map_eq_append_iff.mp e2
      obtain ⟨b, rfl⟩ : ∃ t, b = [t] := List.length_eq_one_iff.mp (by simpa using congrArg List.length e4)
      obtain ⟨f, h⟩ := ih a e3
      rw [abs_op e1 (.inr (.inl rfl)), abs_op (List.cons.inj e4).1 (.inr (.inr (.inl rfl)))]
      exact ⟨f, .one (.one (.par h))⟩
  | @and u v h k ih1 ih2 =>
    intro ts e
    obtain ⟨a, b, rfl, e3, e4⟩ := List.map_eq_append_iff.mp e
    cases b with
    | nil => cases e4
    | cons t b =>
      obtain ⟨e5, e6⟩ := List.cons.inj e4
      obtain ⟨f, h1⟩ := ih1 a e3
      obtain ⟨g, h2⟩ := ih2 b e6
      rw [abs_op e5 (.inr (.inr (.inr (.inl rfl))))]
      exact TE.amp h1 h2
  | @or u v h k ih1 ih2 =>
    intro ts e
    obtain ⟨a, b, rfl, e3, e4⟩ := List.map_eq_append_iff.mp e
    cases b with
    | nil => cases e4
    | cons t b =>
      obtain ⟨e5, e6⟩ := List.cons.inj e4
      obtain ⟨f, h1⟩ := ih1 a e3
      obtain ⟨g, h2⟩ := ih2 b e6
      rw [abs_op e5 (.inr (.inr (.inr (.inr rfl))))]
      exact TE.bar h1 h2
/-! ### what is read is taken -/
theorem abs_of {s : List Str} (hs : Named s) {k : Nat} (hk : k = 33 ∨ k = 40 ∨ k = 41 ∨ k = 38 ∨ k = 124) : absT s [k] = k := by
  have h1 : single s [k] = none := by
    refine single_not hs ?_ (by omega) (by omega)
    rcases hk with rfl | rfl | rfl | rfl | rfl <;> decide
  unfold absT
  rw [h1]
  rcases hk with rfl | rfl | rfl | rfl | rfl <;> rfl
mutual
theorem TP.acc {s : List Str} (hs : Named s) {f : Fm} {ws : List Tok'} (h : TP s f ws) : ∀ (rest : List Nat) (d : Nat), Ver.acc (ws.map (absT s) ++ rest) true d = Ver.acc rest false d := by
  intro rest d
  match h with
  | .name (x := x) hx =>
    have e : absT s (cl x) = 120 := by
      unfold absT
      rw [single_name hx (hs x hx).1 (hs x hx).2]
      rfl
    show Ver.acc (absT s (cl x) :: rest) true d = _
    rw [e]
    rfl
  | .yes => rfl
  | .no => rfl
  | .not (ws := ws) h0 =>
    show Ver.acc (absT s [33] :: (ws.map (absT s) ++ rest)) true d = _
    rw [abs_of hs (.inl rfl)]
    exact TP.acc hs h0 rest d
  | .par (ws := ws) h0 =>
    have e : ([40] :: (ws ++ [[41]])).map (absT s) ++ rest = absT s [40] :: (ws.map (absT s) ++ (absT s [41] :: rest)) := by simp
    rw [e, abs_of hs (.inr (.inl rfl)), abs_of hs (.inr (.inr (.inl rfl)))]
    show Ver.acc (ws.map (absT s) ++ (41 :: rest)) true (d + 1) = _
    rw [TE.acc hs h0]
    rfl
theorem TB.acc {s : List Str} (hs : Named s) {f : Fm} {ws : List Tok'} (h : TB s f ws) : ∀ (rest : List Nat) (d : Nat), Ver.acc (ws.map (absT s) ++ rest) true d = Ver.acc rest false d := by
  intro rest d
  match h with
  | .one h0 => exact TP.acc hs h0 rest d
  | .and (ws := ws) (vs := vs) h0 k0 =>
    have e : (ws ++ [38] :: vs).map (absT s) ++ rest = ws.map (absT s) ++ (absT s [38] :: (vs.map (absT s) ++ rest)) := by simp
    rw [e, TB.acc hs h0, abs_of hs (.inr (.inr (.inr (.inl rfl))))]
    cases d <;> exact TP.acc hs k0 rest _
theorem TE.acc {s : List Str} (hs : Named s) {f : Fm} {ws : List Tok'} (h : TE s f ws) : ∀ (rest : List Nat) (d : Nat), Ver.acc (ws.map (absT s) ++ rest) true d = Ver.acc rest false d := by
  intro rest d
  match h with
  | .one h0 => exact TB.acc hs h0 rest d
  | .or (ws := ws) (vs := vs) h0 k0 =>
    have e : (ws ++ [124] :: vs).map (absT s) ++ rest = ws.map (absT s) ++ (absT s [124] :: (vs.map (absT s) ++ rest)) := by simp
    rw [e, TE.acc hs h0, abs_of hs (.inr (.inr (.inr (.inr rfl))))]
    cases d <;> exact TB.acc hs k0 rest _
end
/-! ### what is read was written by the grammar -/
theorem chain_sound {c : Tok'} {mk : Fm → Fm → Fm} {P : List Tok' → Option (Fm × List Tok')} {R S : Fm → List Tok' → Prop} (hP : ∀ ts f r, P ts = some (f, r) → ∃ ws, ts = ws ++ r ∧ R f ws) (h1 : ∀ f ws, R f ws → S f ws) (h2 : ∀ f g ws vs, S f ws → R g vs → S (mk f g) (ws ++ c :: vs)) :
    ∀ ts f r, chainOf c mk P ts = some (f, r) → ∃ ws, ts = ws ++ r ∧ S f ws := by
  have go : ∀ (j : Nat) (f g : Fm) (us r r' : List Tok'), S f us → lp c mk P j f r = some (g, r') → ∃ ws, us ++ r = ws ++ r' ∧ S g ws := by
    intro j
    induction j with
    | zero =>
      intro f g us r r' hf h
      cases h
      exact ⟨us, rfl, hf⟩
    | succ j ih =>
      intro f g us r r' hf h
      cases r with
      | nil =>
        cases h
        exact ⟨us, rfl, hf⟩
      | cons t r =>
        unfold lp at h
        simp only at h
        by_cases e : t = c
        · rw [if_pos e] at h
          cases q : P r with
          | none => rw [q] at h; cases h
          | some x =>
            obtain ⟨g0, r0⟩ := x
            rw [q] at h
            obtain ⟨vs, rfl, hv⟩ := hP _ _ _ q
            obtain ⟨ws, e2, hw⟩ := ih (mk f g0) g (us ++ c :: vs) r0 r' (h2 _ _ _ _ hf hv) h
            refine ⟨ws, ?_, hw⟩
            rw [← e2, e]
            simp
        · rw [if_neg e] at h
          cases h
          exact ⟨us, rfl, hf⟩
  intro ts f r h
  unfold chainOf at h
  cases q : P ts with
  | none => rw [q] at h; cases h
  | some x =>
    obtain ⟨g0, r0⟩ := x
    rw [q] at h
    obtain ⟨vs, rfl, hv⟩ := hP _ _ _ q
    exact go _ _ _ vs _ _ (h1 _ _ hv) h
theorem rdP_sound {s : List Str} : ∀ (m : Nat) (ts : List Tok') (f : Fm) (r : List Tok'), rdP s m ts = some (f, r) → ∃ ws, ts = ws ++ r ∧ TP s f ws
  | 0, _, _, _, h => by cases h
  | m + 1, [], _, _, h => by cases h
  | m + 1, t :: ts, f, r, h => by
    unfold rdP at h
    simp only at h
    by_cases e1 : t = [33]
    · rw [if_pos e1] at h
      cases q : rdP s m ts with
      | none => rw [q] at h; cases h
      | some x =>
        obtain ⟨g0, r0⟩ := x
        rw [q] at h
        cases h
        obtain ⟨ws, rfl, hw⟩ := rdP_sound m _ _ _ q
        exact ⟨[33] :: ws, by rw [e1]; rfl, .not hw⟩
    · rw [if_neg e1] at h
      by_cases e2 : t = [40]
      · rw [if_pos e2] at h
        cases q : chainOf [124] .or (chainOf [38] .and (rdP s m)) ts with
        | none => rw [q] at h; cases h
        | some x =>
          obtain ⟨g0, r0⟩ := x
          rw [q] at h
          cases r0 with
          | nil => cases h
          | cons u r0 =>
            simp only at h
            by_cases e3 : u = [41]
            · rw [if_pos e3] at h
              cases h
              obtain ⟨ws, rfl, hw⟩ := chain_sound (S := TE s) (chain_sound (S := TB s) (rdP_sound m) (fun _ _ h => .one h) (fun _ _ _ _ h k => .and h k)) (fun _ _ h => .one h) (fun _ _ _ _ h k => .or h k) _ _ _ q
              exact ⟨[40] :: (ws ++ [[41]]), by rw [e2, e3]; simp, .par hw⟩
            · rw [if_neg e3] at h
              cases h
      · rw [if_neg e2] at h
        cases q : single s t with
        | none => rw [q] at h; cases h
        | some x =>
          rw [q] at h
          cases h
          exact ⟨[t], rfl, single_tp q⟩
theorem rdE_sound {s : List Str} {m : Nat} {ts : List Tok'} {f : Fm} {r : List Tok'} (h : rdE s m ts = some (f, r)) : ∃ ws, ts = ws ++ r ∧ TE s f ws :=
  chain_sound (S := TE s) (chain_sound (S := TB s) (rdP_sound m) (fun _ _ h => .one h) (fun _ _ _ _ h k => .and h k)) (fun _ _ h => .one h) (fun _ _ _ _ h k => .or h k) _ _ _ h
/-- the whole of a row is read just where the law's reader takes it -/
theorem whole_iff {s : List Str} (hs : Named s) (ts : List Tok') {m : Nat} (hm : ts.length ≤ m) : (∃ f, rdE s m ts = some (f, [])) ↔ Ver.acc (ts.map (absT s)) true 0 = true := by
  constructor
  · rintro ⟨f, h⟩
    obtain ⟨ws, e, hw⟩ := rdE_sound h
    rw [List.append_nil] at e
    subst e
    have := TE.acc hs hw [] 0
    rw [List.append_nil] at this
    rw [this]
    rfl
  · intro h
    obtain ⟨f, hf⟩ := LE.reads (acc_LE _ _ (Nat.le_refl _) h) ts rfl
    refine ⟨f, ?_⟩
    have := TE.reads hs hf m [] hm (by simp)
    rw [List.append_nil, loop_stop (by simp)] at this
    exact this
/-- what a drawn text gives -/
theorem drawn_reads {s : List Str} (hs : Named s) {f : Fm} {ts : List Tok'} (h : TE s f ts) {m : Nat} (hm : ts.length ≤ m) : rdE s m ts = some (f, []) := by
  have := TE.reads hs h m [] hm (by simp)
  rw [List.append_nil, loop_stop (by simp)] at this
  exact this
end Ver

/-! ## all(..), any(..) of a generator expression whose element may call -/
namespace GX
open PySem PySem.Spec PyProof.Rows L2 GenW
def FinA (X : Cx) (a : Addr) (go : Obj) (Q : VK) (b : Bool) (s : Shared) : Prop := ∃ σ H, Inv X [(a, go)] σ H s ∧ Q (.bl b) H
def RA (X : Cx) (a : Addr) (go : Obj) (st : Bool) (Q : VK) : GenEnd := fun _ _ r s => r = .ok .next ∧ FinA X a go Q (!st) s
structure Woken (s s' : Shared) : Prop where
  os : s'.os = s.os
  bare : AllBare s'.gens
  heap : s'.heap = s.heap
def YA (X : Cx) (a : Addr) (go : Obj) (st : Bool) (Q : VK) : Protocol := fun _ _ v s kap =>
  ∃ b, v = .bool b ∧ (∃ σ H, Inv X [(a, go)] σ H s) ∧ if b = st then FinA X a go Q st s else ∀ s', Woken s s' → kap (.send .none) s'
theorem woken_inv {X : Cx} {pins : List (Addr × Obj)} {σ : L2.St} {H : Hp} {s s' : Shared} (I : Inv X pins σ H s) (z : Woken s s') : Inv X pins σ H s' :=
  I.call' (ch := []) z.os (Un.kept fun b o e => by rw [z.heap]; exact e) (by rw [z.heap]; exact I.hok) z.bare fun b q => by simp at q
/-- the iterator's objects, in the generator's own context -/
theorem stat {X : Cx} {a : Addr} {go : Obj} {fp : List Addr} {σ' : L2.St} {H' : Hp} {s' : Shared} (hfp : X.ex = fp) (hpn : X.pn = []) (hafp : a ∉ fp) (I' : Inv X [(a, go)] σ' H' s') (hn : ∀ b ∈ fp, H' b = none) : ∀ b ∈ fp, FpOk X [(a, go)] H' b := by
  subst hfp
  exact fun b hb => ⟨hn b hb, (I'.ok.exf b hb).1, I'.ok.exfs b hb, .inl hb, fun x c e => (I'.ok.exf b hb).2 x c e, fun p hp => by
    rw [hpn] at hp
    rw [List.mem_singleton.mp hp]
    exact fun z => hafp (by rw [show a = b from z]; exact hb)⟩
/-- a turn: the walk's step, its tests, its element -/
def TurnT (st : Bool) (J : It) (g : TG) (tt : TT) (te : TE) (vs : List Nat) (σ : L2.St) (Q : VK) (W : Nat → Nat → Hp → Prop) : Prop :=
  ∀ i m H, W i m H → (J.stop i H ∧ Q (.bl (!st)) H) ∨ (J.go i H ∧ ∃ Nx : Hp → Prop, (∀ H', Nx H' → ∃ m', m' < m ∧ W (i + 1) m' H') ∧ ∀ x H', J.yld i H x H' → g x (wipe σ vs) H' fun σ2 H2 => wipe σ2 vs = wipe σ vs ∧ tt σ2 H2 fun b H3 =>
    if b = true then te σ2 H3 fun y H4 => ∃ c, y = .bl c ∧ if c = st then Q (.bl st) H4 else Nx H4 else Nx H3)
theorem seg_loop {X : Cx} {B : Around} {st : Bool} {tg elt iter : Expr} {ifs : List Expr} {scope : Scope} {pos : Pos} {it a : Addr} {go : Obj} {fp : List Addr} {J : It} {tn : Nat → Heap → Prop} {g : TG} {tt : TT} {te : TE} {vs : List Nat} {σ : L2.St} {Q : VK} {W : Nat → Nat → Hp → Prop}
    (T : Turn X.prog X.w X.K tg J fp it tn) (hc : X.calm = true) (hfp : X.ex = fp) (hpn : X.pn = []) (hafp : a ∉ fp) (hco : X.env.scope.isCoroutine = false) (hσ : (wipe σ vs).length = X.N.length)
    (hov : B.over (.compLoop (.GeneratorExp elt [⟨tg, iter, ifs, 0⟩] scope pos) 0 (.ref it) .none X.env) [] = X.A) (hxe : ∀ e s, ¬ X.xe e s) (pg : PG X tg g) (pt : PTs X ifs tt) (pe : PE X elt te) (turn : TurnT st J g tt te vs σ Q W) :
    ∀ (m i n : Nat) (H : Hp) (s₀ s : Shared), m < n → W i m H → Inv X [(a, go)] (wipe σ vs) H s → tn i s.heap → (∀ b ∈ fp, H b = none) →
      Seg (model X.prog X.w) B (RA X a go st Q) (YA X a go st Q) n s₀ (.compLoop (.GeneratorExp elt [⟨tg, iter, ifs, 0⟩] scope pos) 0 (.ref it) .none X.env)
        ((model X.prog X.w).den (.compLoop (.GeneratorExp elt [⟨tg, iter, ifs, 0⟩] scope pos) 0 (.ref it) .none X.env)) [] s := by
  intro m
  induction m using Nat.strongRecOn with
  | ind m ih =>
  intro i n H s₀ s hmn w I5 st5 n5
  have hst := fun {σ' : L2.St} {H' : Hp} {s' : Shared} => stat (σ' := σ') (H' := H') (s' := s') (go := go) hfp hpn hafp
  show Seg _ B _ _ _ s₀ _ ((compTurn (.GeneratorExp elt [⟨tg, iter, ifs, 0⟩] scope pos) 0 (.ref it) .none X.env).onRaise (leaving X.env)) [] s
  rw [compTurn_gen, Sem.onRaise_eq_wrap]
  refine seg_bind_wrap (wpAny_standAt ?_)
  rcases turn i m H w with ⟨stop, qq⟩ | ⟨goo, Nx, hNx, step⟩
  · have td := T.done X rfl rfl rfl hc i [(a, go)] s _ H (fun _ _ => False) I5 (hst I5 n5) st5 stop
    refine seg_bind_wrap ?_
    rw [hov]
    refine thnF td fun r s6 ⟨hr, I6⟩ => ?_
    subst hr
    exact seg_end (.ok .next) ⟨rfl, _, _, I6, qq⟩
  · have ti := T.item X rfl rfl rfl hc i [(a, go)] s _ H (fun _ _ => False) I5 (hst I5 n5) st5 goo
    refine seg_bind_wrap ?_
    rw [hov]
    refine thnF ti fun r s6 ⟨u, hr, h6⟩ => ?_
    subst hr
    refine seg_bind_wrap ?_
    rw [hov]
    refine thnF h6 fun _ s7 ⟨x, H7, I7, r7, y7, st7, n7⟩ => ?_
    have I7' := I7.pinned (hst I7 n7) (T.obj _ _ st7)
    refine seg_bind_wrap ?_
    rw [hov]
    refine wpAny_mono (pg.run _ s7 _ H7 x u _ I7' r7 (step x H7 y7)) (fun _ s8 ⟨σ8, H8, I8, hw8, q8⟩ => ?_) fun e s' q => absurd q (hxe e s')
    refine seg_bind_wrap ?_
    rw [hov]
    refine wpAny_mono (pt.run _ s8 σ8 H8 _ I8 q8) (fun b s9 ⟨H9, I9, q9⟩ => ?_) fun e s' q => absurd q (hxe e s')
    -- the turn's end
    have fin : ∀ {s' : Shared} {H' : Hp} {n' : Nat} (s₀' : Shared), (∀ m', m' < m → m' < n') → Inv X ([(a, go)] ++ pinsAt fp s7.heap) σ8 H' s' → Nx H' →
        Seg (model X.prog X.w) B (RA X a go st Q) (YA X a go st Q) n' s₀' (.compLoop (.GeneratorExp elt [⟨tg, iter, ifs, 0⟩] scope pos) 0 (.ref it) .none X.env)
          ((model X.prog X.w).den (.compLoop (.GeneratorExp elt [⟨tg, iter, ifs, 0⟩] scope pos) 0 (.ref it) .none X.env)) [] s' := fun {s' H' n'} s₀' hn' I' nx => by
      obtain ⟨m', hm, w'⟩ := hNx H' nx
      have pin' : ∀ b ∈ fp, ∀ o, s7.heap.get? b = some o → s'.heap.get? b = some o ∧ H' b = none := fun b hb o e =>
        let z := I'.pin (b, o) (List.mem_append_right _ (List.mem_append_right _ (mem_pinsAt hb e)))
        ⟨z.1, z.2.1⟩
      have hl : (wipe σ vs).length = σ8.length := by rw [← hw8, wipe_length]
      refine ih m' hm (i + 1) n' H' s₀' s' (hn' m' hm) w' ((I'.unpinned (pins := [(a, go)])).weak hl (fun j v e => ?_)) (T.keep _ _ _ st7 fun b hb o e => (pin' b hb o e).1) fun b hb => ?_
      · rw [← hw8] at e
        exact (wipe_some e).1
      · obtain ⟨o, e, _⟩ := T.obj _ _ st7 b hb
        exact (pin' b hb o e).2
    cases b with
    | false =>
      simp only [Bool.false_eq_true, if_false] at q9 ⊢
      exact seg_again rfl (fin s₀ (fun m' h => by omega) I9 q9)
    | true =>
      simp only [if_true] at q9 ⊢
      have hy : ∀ v, yieldOut X.env v = yieldValue v := fun v => by simp only [yieldOut, hco, Bool.false_eq_true, if_false]
      simp only [hy]
      rw [Sem.bind_eq_wrap', Sem.bind_eq_wrap', Sem.wrap_wrap, Sem.wrap_wrap]
      refine seg_wrap ?_
      rw [hov]
      refine wpAny_mono (pe.run _ s9 σ8 H9 _ I9 q9) (fun y s10 ⟨yk, H10, I10, r10, c, ek, q10⟩ => ?_) fun e s' q => absurd q (hxe e s')
      subst ek
      obtain rfl : y = Value.bool c := r10
      have Ja : Inv X [(a, go)] σ8 H10 s10 := I10.unpinned (pins := [(a, go)])
      by_cases hcs : c = st
      · rw [if_pos hcs] at q10
        obtain ⟨n, rfl⟩ : ∃ k, n = k + 1 := ⟨n - 1, by omega⟩
        exact seg_at (seg_yield rfl rfl rfl ⟨c, rfl, ⟨_, _, Ja⟩, by rw [if_pos hcs]; exact ⟨_, _, Ja, q10⟩⟩)
      · rw [if_neg hcs] at q10
        obtain ⟨n, rfl⟩ : ∃ k, n = k + 1 := ⟨n - 1, by omega⟩
        refine seg_at (seg_yield rfl rfl rfl ⟨c, rfl, ⟨_, _, Ja⟩, ?_⟩)
        rw [if_neg hcs]
        intro s4 z
        exact seg_again rfl (fin s4 (fun m' h => by omega) (woken_inv I10 z) q10)
/-- the whole of the generator's run, from its start -/
theorem seg_start {X : Cx} {B : Around} {st : Bool} {tg elt iter : Expr} {ifs : List Expr} {scope : Scope} {pos : Pos} {it a : Addr} {go : Obj} {fp : List Addr} {J : It} {tn : Nat → Heap → Prop} {g : TG} {tt : TT} {te : TE} {vs : List Nat} {σ : L2.St} {Q : VK} {W : Nat → Nat → Hp → Prop}
    (T : Turn X.prog X.w X.K tg J fp it tn) (hc : X.calm = true) (hfp : X.ex = fp) (hpn : X.pn = []) (hafp : a ∉ fp) (hco : X.env.scope.isCoroutine = false) (hσ : (wipe σ vs).length = X.N.length)
    (hov : B.over (.compLoop (.GeneratorExp elt [⟨tg, iter, ifs, 0⟩] scope pos) 0 (.ref it) .none X.env) [] = X.A) (hxe : ∀ e s, ¬ X.xe e s) (pg : PG X tg g) (pt : PTs X ifs tt) (pe : PE X elt te) (turn : TurnT st J g tt te vs σ Q W)
    {m : Nat} {H : Hp} {s₀ s : Shared} (w : W 0 m H) (I5 : Inv X [(a, go)] (wipe σ vs) H s) (st5 : tn 0 s.heap) (n5 : ∀ b ∈ fp, H b = none) :
    Seg (model X.prog X.w) B (RA X a go st Q) (YA X a go st Q) (m + 1) s₀ (.compStart (.GeneratorExp elt [⟨tg, iter, ifs, 0⟩] scope pos) 0 (.ref it) .none X.env)
      ((model X.prog X.w).den (.compStart (.GeneratorExp elt [⟨tg, iter, ifs, 0⟩] scope pos) 0 (.ref it) .none X.env)) [] s := by
  have loop := seg_loop (B := B) (st := st) (scope := scope) (pos := pos) (iter := iter) T hc hfp hpn hafp hco hσ hov hxe pg pt pe turn m 0 (m + 1) H s₀ s (Nat.lt_succ_self _) w I5 st5 n5
  show Seg _ B _ _ _ s₀ _ ((compStart (.GeneratorExp elt [⟨tg, iter, ifs, 0⟩] scope pos) 0 (.ref it) .none X.env).onRaise (leaving X.env)) [] s
  unfold compStart
  rw [Sem.onRaise_eq_wrap]
  show Seg _ B _ _ _ s₀ _ ((ask >>= _).wrap _ _ _ _) [] s
  refine seg_bind_wrap (wpAny_askSetting ?_)
  split
  · exact seg_again rfl loop
  · first
      | exact seg_bind_wrap (wpAny_rule (seg_bind_wrap (wpAny_standAt (seg_bind_wrap (T.self _ 0 s _ _ st5 (seg_again rfl loop))))))
      | (refine seg_bind_wrap (wpAny_rule ?_); show Seg _ B _ _ _ s₀ _ ((standAt iter.pos >>= _).wrap _ _ _ _) [] s; exact seg_bind_wrap (wpAny_standAt (seg_bind_wrap (T.self _ 0 s _ _ st5 (seg_again rfl loop)))))
/-! ### the walk by all, any -/
theorem fin_mono {X : Cx} {a : Addr} {go : Obj} {Q : VK} {b : Bool} {s s' : Shared} (h : FinA X a go Q b s) (ho : s'.os = s.os) (hb : AllBare s'.gens) (hk : ∀ c o, s.heap.get? c = some o → s'.heap.get? c = some o) : FinA X a go Q b s' := by
  obtain ⟨σ, H, I, q⟩ := h
  exact ⟨σ, H, I.call' (ch := []) ho (Un.kept hk) (I.hok.kept hk) hb fun b q => by simp at q, q⟩
theorem all_loop {X : Cx} {A : Around} {R : Result → Shared → Prop} {a : Addr} {g : Nat} {go : Obj} {Q : VK} (hh : A.handled = none) (hd : A.depth < recursionLimit)
    (hgo : ∀ h : Heap, h.get? a = some go → h.IsGen a g) (hR : ∀ b s, FinA X a go Q b s → R (.ok (.ret (.bool b))) s) :
    ∀ (m : Nat) (s : Shared), (∃ σ H, Inv X [(a, go)] σ H s) → (∃ gs, s.gens[g]? = some gs ∧ gs.Goes (model X.prog X.w) A.in1.in1 (RA X a go false Q) (YA X a go false Q) m (.send .none) (s.setGen g .running)) →
      codeAny (model X.prog X.w) A (.builtin "all.loop" ⟨[.ref a], []⟩) R s := by
  have goes : ∀ {gs : GenState} {B : Around} {n : Nat} {r : Resume} {s : Shared}, gs.Goes (model X.prog X.w) B (RA X a go false Q) (YA X a go false Q) n r s →
      gs.Goes (model X.prog X.w) B (fun n s₀ r s1 => r = .ok .next ∧ (fun (_ : Nat) (_ : Shared) s2 => FinA X a go Q true s2) n s₀ s1) (YA X a go false Q) n r s := fun h => h
  intro m
  induction m with
  | zero =>
    intro s ⟨σ, H, J⟩ ⟨gs, hgs, hgoes⟩
    refine codeAny_builtin F.entry_all_loop ?_
    rw [Around.under_plainId F.plain_all_loop _]
    show wpAny _ A.in1 (pyNext (.ref a) >>= _) _ _ s
    refine wpAny_bind (wpAny_pyNext_genexpQ (A := A.in1) hh J.nolimit hd (hgo _ (J.pin (a, go) (List.mem_append_right _ List.mem_cons_self)).1) hgs (goes hgoes) (fun v s₁ gs' hbare hv => ?_) (fun s₁ hp h' hk => ?_))
    · obtain ⟨b, rfl, ⟨σ1, H1, J1⟩, hy⟩ := hv
      refine wpAny_bind (wpAny_holding (wpAny_truthy_bool ?_))
      refine wpAny_bind (wpAny_letGo ?_)
      cases b with
      | true => exact False.elim (hy s₁ ⟨rfl, J1.bare, rfl⟩)
      | false =>
        simp only [Bool.false_eq_true, if_false]
        refine wpAny_bind (wpAny_rule (wpAny_pure ?_))
        exact hR _ _ (fin_mono hy rfl (allBare_setGen J1.bare hbare) fun _ _ e => e)
    · refine wpAny_bind (wpAny_rule (wpAny_pure ?_))
      obtain ⟨σ1, H1, J1, q⟩ := hp
      exact hR _ _ (fin_mono ⟨σ1, H1, J1, q⟩ rfl (allBare_setGen J1.bare rfl) hk)
  | succ m ih =>
    intro s ⟨σ, H, J⟩ ⟨gs, hgs, hgoes⟩
    have hgl : g < s.gens.size := (Array.getElem?_eq_some_iff.mp hgs).1
    refine codeAny_builtin F.entry_all_loop ?_
    rw [Around.under_plainId F.plain_all_loop _]
    show wpAny _ A.in1 (pyNext (.ref a) >>= _) _ _ s
    refine wpAny_bind (wpAny_gsz (n := g + 1) hgl (wpAny_pyNext_genexpQ (A := A.in1) hh J.nolimit hd (hgo _ (J.pin (a, go) (List.mem_append_right _ List.mem_cons_self)).1) hgs (goes hgoes) (fun v s₁ gs' hbare hv => ?_) (fun s₁ hp h' hk => ?_)))
    · intro hsz
      obtain ⟨b, rfl, ⟨σ1, H1, J1⟩, hy⟩ := hv
      refine wpAny_bind (wpAny_holding (wpAny_truthy_bool ?_))
      refine wpAny_bind (wpAny_letGo ?_)
      cases b with
      | true =>
        simp only [if_true]
        have hsz1 : g < s₁.gens.size := by
          have q : (s₁.setGen g gs').gens.size = s₁.gens.size := setGen_size _ _ _
          have hsz' : g + 1 ≤ (s₁.setGen g gs').gens.size := hsz
          omega
        have hy' : ∀ s', Woken s₁ s' → _ := hy
        refine wpAny_pure ⟨plainId_quiet F.plain_all_loop _, ih _ ⟨σ1, H1, woken_inv J1 ⟨rfl, allBare_setGen J1.bare hbare, rfl⟩⟩ ⟨gs', setGen_at hsz1, ?_⟩⟩
        exact hy' _ ⟨rfl, allBare_setGen (s := s₁.setGen g gs') (allBare_setGen J1.bare hbare) rfl, rfl⟩
      | false =>
        simp only [Bool.false_eq_true, if_false]
        refine wpAny_bind (wpAny_rule (wpAny_pure ?_))
        exact hR _ _ (fin_mono hy rfl (allBare_setGen J1.bare hbare) fun _ _ e => e)
    · intro hsz
      refine wpAny_bind (wpAny_rule (wpAny_pure ?_))
      obtain ⟨σ1, H1, J1, q⟩ := hp
      exact hR _ _ (fin_mono ⟨σ1, H1, J1, q⟩ rfl (allBare_setGen J1.bare rfl) hk)
theorem any_loop {X : Cx} {A : Around} {R : Result → Shared → Prop} {a : Addr} {g : Nat} {go : Obj} {Q : VK} (hh : A.handled = none) (hd : A.depth < recursionLimit)
    (hgo : ∀ h : Heap, h.get? a = some go → h.IsGen a g) (hR : ∀ b s, FinA X a go Q b s → R (.ok (.ret (.bool b))) s) :
    ∀ (m : Nat) (s : Shared), (∃ σ H, Inv X [(a, go)] σ H s) → (∃ gs, s.gens[g]? = some gs ∧ gs.Goes (model X.prog X.w) A.in1.in1 (RA X a go true Q) (YA X a go true Q) m (.send .none) (s.setGen g .running)) →
      codeAny (model X.prog X.w) A (.builtin "any.loop" ⟨[.ref a], []⟩) R s := by
  have goes : ∀ {gs : GenState} {B : Around} {n : Nat} {r : Resume} {s : Shared}, gs.Goes (model X.prog X.w) B (RA X a go true Q) (YA X a go true Q) n r s →
      gs.Goes (model X.prog X.w) B (fun n s₀ r s1 => r = .ok .next ∧ (fun (_ : Nat) (_ : Shared) s2 => FinA X a go Q false s2) n s₀ s1) (YA X a go true Q) n r s := fun h => h
  intro m
  induction m with
  | zero =>
    intro s ⟨σ, H, J⟩ ⟨gs, hgs, hgoes⟩
    refine codeAny_builtin F.entry_any_loop ?_
    rw [Around.under_plainId F.plain_any_loop _]
    show wpAny _ A.in1 (pyNext (.ref a) >>= _) _ _ s
    refine wpAny_bind (wpAny_pyNext_genexpQ (A := A.in1) hh J.nolimit hd (hgo _ (J.pin (a, go) (List.mem_append_right _ List.mem_cons_self)).1) hgs (goes hgoes) (fun v s₁ gs' hbare hv => ?_) (fun s₁ hp h' hk => ?_))
    · obtain ⟨b, rfl, ⟨σ1, H1, J1⟩, hy⟩ := hv
      refine wpAny_bind (wpAny_holding (wpAny_truthy_bool ?_))
      refine wpAny_bind (wpAny_letGo ?_)
      cases b with
      | false => exact False.elim (hy s₁ ⟨rfl, J1.bare, rfl⟩)
      | true =>
        simp only [if_true]
        refine wpAny_bind (wpAny_rule (wpAny_pure ?_))
        exact hR _ _ (fin_mono hy rfl (allBare_setGen J1.bare hbare) fun _ _ e => e)
    · refine wpAny_bind (wpAny_rule (wpAny_pure ?_))
      obtain ⟨σ1, H1, J1, q⟩ := hp
      exact hR _ _ (fin_mono ⟨σ1, H1, J1, q⟩ rfl (allBare_setGen J1.bare rfl) hk)
  | succ m ih =>
    intro s ⟨σ, H, J⟩ ⟨gs, hgs, hgoes⟩
    have hgl : g < s.gens.size := (Array.getElem?_eq_some_iff.mp hgs).1
    refine codeAny_builtin F.entry_any_loop ?_
    rw [Around.under_plainId F.plain_any_loop _]
    show wpAny _ A.in1 (pyNext (.ref a) >>= _) _ _ s
    refine wpAny_bind (wpAny_gsz (n := g + 1) hgl (wpAny_pyNext_genexpQ (A := A.in1) hh J.nolimit hd (hgo _ (J.pin (a, go) (List.mem_append_right _ List.mem_cons_self)).1) hgs (goes hgoes) (fun v s₁ gs' hbare hv => ?_) (fun s₁ hp h' hk => ?_)))
    · intro hsz
      obtain ⟨b, rfl, ⟨σ1, H1, J1⟩, hy⟩ := hv
      refine wpAny_bind (wpAny_holding (wpAny_truthy_bool ?_))
      refine wpAny_bind (wpAny_letGo ?_)
      cases b with
      | false =>
        simp only [Bool.false_eq_true, if_false]
        have hsz1 : g < s₁.gens.size := by
          have q : (s₁.setGen g gs').gens.size = s₁.gens.size := setGen_size _ _ _
          have hsz' : g + 1 ≤ (s₁.setGen g gs').gens.size := hsz
          omega
        have hy' : ∀ s', Woken s₁ s' → _ := hy
        refine wpAny_pure ⟨plainId_quiet F.plain_any_loop _, ih _ ⟨σ1, H1, woken_inv J1 ⟨rfl, allBare_setGen J1.bare hbare, rfl⟩⟩ ⟨gs', setGen_at hsz1, ?_⟩⟩
        exact hy' _ ⟨rfl, allBare_setGen (s := s₁.setGen g gs') (allBare_setGen J1.bare hbare) rfl, rfl⟩
      | true =>
        simp only [if_true]
        refine wpAny_bind (wpAny_rule (wpAny_pure ?_))
        exact hR _ _ (fin_mono hy rfl (allBare_setGen J1.bare hbare) fun _ _ e => e)
    · intro hsz
      refine wpAny_bind (wpAny_rule (wpAny_pure ?_))
      obtain ⟨σ1, H1, J1, q⟩ := hp
      exact hR _ _ (fin_mono ⟨σ1, H1, J1, q⟩ rfl (allBare_setGen J1.bare rfl) hk)
/-! ### the generator's own context -/
theorem over_gen {A : Around} {elt tg iter : Expr} {ifs : List Expr} {scope : Scope} {pos : Pos} {it acc : Value} {env : Env} : A.over (.compLoop (.GeneratorExp elt [⟨tg, iter, ifs, 0⟩] scope pos) 0 it acc env) [] = A.deeper env := by
  first
    | rfl
    | (obtain ⟨hd, d, fr, gs, u⟩ := A; simp [Around.over, Around.deeper, marksOver, frameCount, unitsOf, envsOf, guardsOf, pushEnvs, pushGuards, Code.envs, Code.env?, Code.isFrame, Code.guards, Code.isGuard, Code.weight, Code.frames, Code.isCreation, Code.isCaller, Code.cUnits])
/-- the context of a generator that starts at s, its iterator's objects at fp -/
abbrev gcx (X : Cx) (A : Around) (s : Shared) (H : Hp) (env : Env) (fp : List Addr) : Cx := { X with A := A, s_0 := s, H_0 := H, env := env, outer := X.stack, stack := env :: X.stack, ex := fp, fn := fun _ => false, calm := true, pn := [], xe := fun _ _ => False }
abbrev gEnv (X : Cx) (scope : Scope) (C : Addr) (code : Value) : Env := genEnv scope (cloFrom X.env.cells scope.names []) C code builtinsNs X.env
theorem gen_inv {X : Cx} {pins : List (Addr × Obj)} {σ : L2.St} {H : Hp} {s : Shared} {scope : Scope} {own : List (Str × Nat)} {fp : List Addr} {A : Around} {code : Value} (I : Inv X pins σ H s) (ok : BlkOk X.N X.env.scope scope own) (nocell : ∀ y ∈ scope.names, y.2 ≠ .cell)
    (hN : X.N.Nodup) (hfp : ∀ b ∈ fp, FpOk X pins H b ∧ b < s.heap.objs.size) (hA : A.handled = none) (hfr : A.frames = some (gEnv X scope s.heap.objs.size code :: X.stack))
    {h1 : Heap} {tk : Nat} {gs : Array GenState} {m : Str → Option Value} (kp : ∀ b o, s.heap.get? b = some o → h1.get? b = some o) (hns : h1.Ns s.heap.objs.size m) (hg : AllBare gs) :
    Inv (gcx X A s H (gEnv X scope s.heap.objs.size code) fp) [] (wipe σ (own.map (·.2))) H { s with heap := h1, toks := tk, gens := gs } := by
  have hfree : ∀ y ∈ scope.names, y.2 = .free → ∃ c, X.env.cells.lookup y.1 = some c := fun y hy e => by
    rcases ok.free y hy e with k | k
    · exact I.ok.has _ (.inl k)
    · exact I.ok.has _ (.inr k)
  generalize hcenv : gEnv X scope s.heap.objs.size code = cenv at hfr
  have hL : cenv.locals = s.heap.objs.size := by rw [← hcenv]; rfl
  have hcl : cenv.cells = cloFrom X.env.cells scope.names [] := by rw [← hcenv]; rfl
  have hsc : cenv.scope = scope := by rw [← hcenv]; rfl
  have cm : ∀ {y c}, (y, c) ∈ cloFrom X.env.cells scope.names [] → X.env.cells.lookup y = some c ∧ c < s.heap.objs.size := fun {y c} hm => by
    rcases cloFrom_mem hm with hm | ⟨h1, rfl⟩
    · cases hm
    · obtain ⟨c, hc⟩ := hfree _ h1 rfl
      rw [hc]
      obtain ⟨w, z⟩ := I.cell _ _ hc
      exact ⟨rfl, z.lt⟩
  have mem : ∀ {y c}, cenv.cells.lookup y = some c → X.env.cells.lookup y = some c ∧ c < s.heap.objs.size := fun {y c} e => by
    rw [hcl] at e
    exact cm (PySem.mem_of_lookup e)
  have look : ∀ {y}, scope.names.lookup y = some .free → ∃ c, cenv.cells.lookup y = some c ∧ X.env.cells.lookup y = some c := fun {y} hl => by
    have hy : (y, NameKind.free) ∈ scope.names := PySem.mem_of_lookup hl
    obtain ⟨c', e'⟩ := mem_lookup (cloFrom_has (cells := X.env.cells) (acc := []) hy)
    rw [← hcl] at e'
    exact ⟨c', e', (mem e').1⟩
  have nc : ∀ {y}, scope.names.lookup y ≠ some .cell := fun {y} e => nocell _ (PySem.mem_of_lookup e) rfl
  have okB : (gcx X A s H cenv fp).Ok := by
    refine ⟨I.ok.mod, by show cenv.scope.kind = _; rw [hsc]; exact ok.kind, by show cenv.globals = _; rw [← hcenv]; exact I.ok.glob, by show cenv.builtins = _; rw [← hcenv]; rfl, by show s.heap.objs.size ≤ cenv.locals; rw [hL]; exact Nat.le_refl _,
      fun y z c e1 e2 => I.ok.inj y z c (mem e1).1 (mem e2).1, fun y hy => ?_, fun y c z e => absurd z Bool.false_ne_true, fun _ => hA, hfr, .inr ⟨rfl, by rw [← hcenv]; rfl⟩, fun b hb => ⟨?_, fun y c e z => ?_⟩, I.bs, Nat.le_trans I.ok.bsz I.sz, fun b o e hb => ?_, fun b hb z => ?_, I.stack, I.stkFree⟩
    · show ∃ c, cenv.cells.lookup y = some c
      have hy : scope.names.lookup y = some .cell ∨ scope.names.lookup y = some .free := by
        rw [← hsc]; exact hy
      rcases hy with hy | hy
      · exact absurd hy nc
      · obtain ⟨c, h1, _⟩ := look hy
        exact ⟨c, h1⟩
    · show b ≠ cenv.locals
      rw [hL]; exact Nat.ne_of_lt (hfp b hb).2
    · exact (hfp b hb).1.2.2.2.2.1 y c (mem e).1 z
    · rcases (hfp b hb).1.2.2.2.1 with z | z
      · exact I.ok.noex b o e z
      · exact absurd (Nat.lt_of_lt_of_le (Heap.lt_size e) (Nat.le_trans I.ok.bsz z)) (Nat.lt_irrefl _)
    · rcases List.mem_cons.mp (I.stkSub b z) with z | z
      · exact (hfp b hb).1.2.1 z
      · exact (hfp b hb).1.2.2.1 z
  refine ⟨okB, rfl, hg, Un.kept kp, ⟨m, ?_, fun i y av e1 e2 e3 => ?_⟩, fun y c e => ?_, ?_, fun y c e => ?_, fun p hp => ?_, I.hok.kept kp, by rw [wipe_length]; exact I.len⟩
  · show Heap.Ns _ cenv.locals _
    rw [hL]
    exact hns
  · obtain ⟨e2, hne⟩ := wipe_some e2
    have no : ∀ {k}, scope.names.lookup y = some k → ¬ (k = .local ∨ k = .cell) := fun {k} e hh => by
      rcases ok.own _ (PySem.mem_of_lookup e) hh with e' | e'
      · obtain ⟨p, hp, hpy⟩ := List.mem_map.mp e'
        have e3 := ok.ix p hp
        have : p.1 = y := hpy
        rw [this] at e3
        exact hne (List.mem_map.mpr ⟨p, hp, nodup_ix hN e3 e1⟩)
      · exact e' (List.mem_of_getElem? e1)
    have hfr2 : scope.names.lookup y = some .free := by
      have e3 : Vis cenv.scope y := e3
      rw [hsc] at e3
      rcases e3 with e3 | e3 | e3
      · exact absurd (.inl rfl) (no e3)
      · exact absurd (.inr rfl) (no e3)
      · exact e3
    obtain ⟨m', hn, hl⟩ := I.loc
    have hvis : Vis X.env.scope y := (ok.free _ (PySem.mem_of_lookup hfr2) rfl).elim (fun k => .inr (.inl k)) (fun k => .inr (.inr k))
    obtain ⟨w, r, q⟩ := hl i y av e1 e2 hvis
    refine ⟨w, r, .inr ⟨.inr (by show cenv.scope.names.lookup y = _; rw [hsc]; exact hfr2), ?_⟩⟩
    obtain ⟨c, h1, h2⟩ := look hfr2
    rcases q with ⟨k, _⟩ | ⟨_, c', e', z⟩
    · have k : X.env.scope.names.lookup y = some .local := k
      rcases ok.free _ (PySem.mem_of_lookup hfr2) rfl with k' | k' <;> rw [show X.env.scope.names.lookup y = _ from k'] at k <;> cases k
    · rw [h2] at e'; cases e'
      exact ⟨c, h1, z.keeps kp⟩
  · obtain ⟨h1, _⟩ := mem (show cenv.cells.lookup y = some c from e)
    obtain ⟨w, z⟩ := I.cell y c h1
    exact ⟨w, z.keeps kp⟩
  · show H cenv.locals = none
    rw [hL]; exact I.hok.fresh (Nat.le_refl _)
  · exact I.freeC y c (mem (show cenv.cells.lookup y = some c from e)).1
  · exact absurd (show p ∈ ([] : List (Addr × Obj)) ++ [] from hp) (by simp)
/-- all(..) (st false), any(..) (st true): the iterable, then the walk by the measure W -/
def tGx (st : Bool) (P : Addr) (wi : TI) (g : TG) (tt : TT) (te : TE) (vs : List Nat) : TE := fun σ H Q => wi σ H fun J H1 => GxR.TabG H1 P ∧ ∀ H2, GxR.Tabbed P H1 H2 → ∃ W : Nat → Nat → Hp → Prop, (∃ m, W 0 m H2) ∧ TurnT st J g tt te vs σ Q W
/-- the generator has been made -/
def ReadyX (X : Cx) (pins : List (Addr × Obj)) (σ : L2.St) (st : Bool) (Q : VK) (v : Value) (s5 : Shared) : Prop :=
  ∃ (s4 : Shared) (H4 : Hp) (env : Env) (fp : List Addr) (a : Addr) (go : Obj) (g m : Nat), v = .ref a ∧ (∀ h : Heap, h.get? a = some go → h.IsGen a g) ∧
    (∃ σ' H', Inv (gcx X (X.A.in1.in1.deeper env) s4 H4 env fp) [(a, go)] σ' H' s5) ∧
    (∃ gs, s5.gens[g]? = some gs ∧ gs.Goes (model X.prog X.w) X.A.in1.in1 (RA (gcx X (X.A.in1.in1.deeper env) s4 H4 env fp) a go st Q) (YA (gcx X (X.A.in1.in1.deeper env) s4 H4 env fp) a go st Q) m (.send .none) (s5.setGen g .running)) ∧
    ∀ b s', FinA (gcx X (X.A.in1.in1.deeper env) s4 H4 env fp) a go Q b s' → EP X pins σ Q (.bool b) s'
theorem gen_make {X : Cx} {pins : List (Addr × Obj)} {σ : L2.St} {H : Hp} {s : Shared} {c P : Addr} {st : Bool} {tg elt iter : Expr} {ifs : List Expr} {gpos : Pos} {scope : Scope} {own : List (Str × Nat)} {wi : TI} {g : TG} {tt : TT} {te : TE} {k : Nat} {Q : VK} {Q' : Value → Shared → Prop}
    (hr : Room (k + 3) X.A) (hN : X.N.Nodup) (TB : GxR.TabB X.base X.mg c P) (hcode : X.env.code = .ref c) (ok : BlkOk X.N X.env.scope scope own) (hco : scope.isCoroutine = false) (nocell : ∀ y ∈ scope.names, y.2 ≠ .cell) (hdot : scope.names.lookup (".0" : Str) = some NameKind.local)
    (hi : PI X tg iter wi) (hs : ∀ v, genFold iter X.env v = pure v)
    (pg : ∀ (s : Shared) (H : Hp) (C : Addr) (cd : Value) (fp : List Addr), PG (gcx X (X.A.in1.in1.deeper (gEnv X scope C cd)) s H (gEnv X scope C cd) fp) tg g)
    (pt : ∀ (s : Shared) (H : Hp) (C : Addr) (cd : Value) (fp : List Addr), PTs (gcx X (X.A.in1.in1.deeper (gEnv X scope C cd)) s H (gEnv X scope C cd) fp) ifs tt)
    (pe : ∀ (s : Shared) (H : Hp) (C : Addr) (cd : Value) (fp : List Addr), PE (gcx X (X.A.in1.in1.deeper (gEnv X scope C cd)) s H (gEnv X scope C cd) fp) elt te)
    (I : Inv X pins σ H s) (h : tGx st P wi g tt te (own.map (·.2)) σ H Q) (hQ : ∀ v s5, ReadyX X pins σ st Q v s5 → Q' v s5) :
    wpAny (model X.prog X.w) X.A (eval (.GeneratorExp elt [⟨tg, iter, ifs, 0⟩] scope gpos) X.env) Q' X.xe s := by
  have hfree : ∀ y ∈ scope.names, y.2 = .free → ∃ c, X.env.cells.lookup y.1 = some c := fun y hy e => by
    rcases ok.free y hy e with k | k
    · exact I.ok.has _ (.inl k)
    · exact I.ok.has _ (.inr k)
  refine wpAny_GeneratorExp_make hco (closure_ok hfree) nocell hdot ok.kind hr.depth ?_ hs
  refine thn (hi.run pins s σ H _ I h) fun xv s1 h1 => thn h1 fun itv s2 h2 => ?_
  obtain ⟨it, fp, tn, J, H1, rfl, I1, T, st2, f2, ⟨ps, hP, htr⟩, q⟩ := h2
  have hPs : s2.heap.get? P = some { cls := .none, data := .fields ps } := I1.hok P _ hP
  have cd : PySem.W.CodeHd s2.heap c P := TB.code.keeps I1.bk
  have cont : ∀ (code : Value) (h3 : Heap) (tk : Nat) (ps' : Array Value), Heap.ExtBut P s2.heap h3 → s2.heap.objs.size ≤ h3.objs.size → h3.get? P = some { cls := .none, data := .fields ps' } → (∃ more, ps' = ps ++ more) → TriplesOk ps'.toList →
      wpAny (model X.prog X.w) X.A (builtinsFor X.env.globals X.env.builtins) (fun bi s₄ =>
        ∀ h', h'.Ns s₄.heap.objs.size (fun y => if y = ".0" then some (.ref it) else none) → Heap.SameBut s₄.heap.objs.size (s₄.heap.push { cls := .type "frame", data := .dict #[] }) h' →
          Q' (.ref h'.objs.size) { s₄ with
            gens := s₄.gens.push (.fresh (.compStart (.GeneratorExp elt [⟨tg, iter, ifs, 0⟩] scope gpos) 0 (.ref it) .none (genEnv scope (cloFrom X.env.cells scope.names []) s₄.heap.objs.size code bi X.env))),
            toks := s₄.toks + 1 + 1 + 1,
            heap := h'.push { cls := .type "generator", data := .fields #[.int s₄.gens.size 0, .str "<genexpr>" (s₄.toks + 1), .str (X.env.qual ++ "<genexpr>") (s₄.toks + 1 + 1)] } }) X.xe { s2 with heap := h3, toks := tk } := by
    intro code h3 tk ps' hx hsz hP3 hmore ht3
    obtain ⟨bm, ob, e1, e2, e3, e4, e5, e6, e7, e8⟩ := TB.bm
    have keep3 : ∀ b u, b ≠ P → s2.heap.get? b = some u → h3.get? b = some u := fun b u hb e => hx b u hb e
    refine wpAny_builtinsFor (m := X.mg) (by rw [I1.ok.glob]; exact (I1.mod.glob.keeps I1.bk).extBut hx TB.gP) e1 e2 (keep3 _ _ e4 (I1.bk _ _ e5)) e6 e7 e8 ?_
    intro h' hn' hs'
    obtain ⟨more, em⟩ := hmore
    generalize hs4 : ({ s2 with heap := h3, toks := tk } : Shared) = s4 at hn' hs' ⊢
    have s4h : s4.heap = h3 := by rw [← hs4]
    have s4g : s4.gens = s2.gens := by rw [← hs4]
    have I4 : Inv X pins σ (upd H1 P (.tbl (ps ++ more))) s4 := by
      rw [← hs4]
      exact GxR.inv_tab (g' := s2.gens) (d' := s2.drawn) (t' := tk) I1 hP (fun b u hb e => keep3 b u hb e) (by rw [← em]; exact hP3) I1.bare
    have f4 : ∀ b ∈ fp, FpOk X pins (upd H1 P (.tbl (ps ++ more))) b ∧ b < s4.heap.objs.size := fun b hb => by
      obtain ⟨o, e, _⟩ := T.obj _ _ st2 b hb
      have hbP : b ≠ P := fun z => by
        have := (f2 b hb).1
        rw [z, hP] at this
        cases this
      refine ⟨⟨by rw [upd_ne hbP]; exact (f2 b hb).1, (f2 b hb).2⟩, ?_⟩
      rw [s4h]
      exact Heap.lt_size (keep3 b o hbP e)
    have st4 : tn 0 h3 := T.keep _ _ _ st2 fun b hb o e => keep3 b o (fun z => by
      have := (f2 b hb).1
      rw [z, hP] at this
      cases this) e
    have hsz' : h'.objs.size = s4.heap.objs.size + 1 := by rw [hs'.1, Heap.size_push]
    have keep' : ∀ b o, s4.heap.get? b = some o → h'.get? b = some o := fun b o e => hs'.extBut b o (Nat.ne_of_lt (Heap.lt_size e)) (Heap.get?_push_of_some _ e)
    obtain ⟨m0, w0⟩ : ∃ W : Nat → Nat → Hp → Prop, (∃ m, W 0 m (upd H1 P (.tbl (ps ++ more)))) ∧ TurnT st J g tt te (own.map (·.2)) σ Q W := q _ ⟨⟨ps ++ more, upd_same, by rw [← em]; exact ht3⟩, fun b hb => upd_ne hb⟩
    obtain ⟨⟨m1, w1⟩, turn⟩ := w0
    have main : ∀ (go : Obj) (nm qn : Value) (tk2 : Nat), go.cls = .type "generator" → go.data = .fields #[.int s4.gens.size 0, nm, qn] → go.slots = #[] → (∀ h : Heap, (h.push go).get? h.objs.size = some go) →
        ReadyX X pins σ st Q (.ref h'.objs.size) { s4 with gens := s4.gens.push (.fresh (.compStart (.GeneratorExp elt [⟨tg, iter, ifs, 0⟩] scope gpos) 0 (.ref it) .none (gEnv X scope s4.heap.objs.size code))), toks := tk2, heap := h'.push go } := by
      intro go nm qn tk2 hgc hgd hgs hgp
      have hA : (X.A.in1.in1.deeper (gEnv X scope s4.heap.objs.size code)).handled = none := hr.hd
      have hfr : (X.A.in1.in1.deeper (gEnv X scope s4.heap.objs.size code)).frames = some (gEnv X scope s4.heap.objs.size code :: X.stack) := Around.frames_deeper (show X.A.in1.in1.frames = some X.stack from I1.ok.frames)
      have hbare : AllBare (s4.gens.push (.fresh (.compStart (.GeneratorExp elt [⟨tg, iter, ifs, 0⟩] scope gpos) 0 (.ref it) .none (gEnv X scope s4.heap.objs.size code)))) := AllBare.push I4.bare rfl
      have I5 := gen_inv (fp := fp) (A := X.A.in1.in1.deeper (gEnv X scope s4.heap.objs.size code)) (code := code) I4 ok nocell hN f4 hA hfr (h1 := h'.push go) (tk := tk2) (gs := s4.gens.push (.fresh (.compStart (.GeneratorExp elt [⟨tg, iter, ifs, 0⟩] scope gpos) 0 (.ref it) .none (gEnv X scope s4.heap.objs.size code))))
        (fun b o e => Heap.get?_push_of_some _ (keep' b o e)) (hn'.keeps fun b o e => Heap.get?_push_of_some _ e) hbare
      have hage : s4.heap.objs.size ≤ h'.objs.size := by omega
      have I6 : Inv (gcx X (X.A.in1.in1.deeper (gEnv X scope s4.heap.objs.size code)) s4 (upd H1 P (.tbl (ps ++ more))) (gEnv X scope s4.heap.objs.size code) fp) [(h'.objs.size, go)] (wipe σ (own.map (·.2))) (upd H1 P (.tbl (ps ++ more)))
          { s4 with gens := s4.gens.push (.fresh (.compStart (.GeneratorExp elt [⟨tg, iter, ifs, 0⟩] scope gpos) 0 (.ref it) .none (gEnv X scope s4.heap.objs.size code))), toks := tk2, heap := h'.push go } := I5.pins_of fun p hp => by
        rw [List.mem_singleton.mp hp]
        refine ⟨hgp _, I4.hok.fresh hage, ?_, fun z => ?_, fun v z => by rw [hgd] at z; cases z⟩
        · show h'.objs.size ≠ s4.heap.objs.size
          omega
        · obtain ⟨_, o, ho, _⟩ := I4.stack.mem z
          have := Heap.lt_size ho
          exact absurd (Nat.lt_of_lt_of_le this hage) (Nat.lt_irrefl _)
      have hafp : h'.objs.size ∉ fp := fun z => absurd (Nat.lt_of_lt_of_le (f4 _ z).2 hage) (Nat.lt_irrefl _)
      refine ⟨s4, upd H1 P (.tbl (ps ++ more)), gEnv X scope s4.heap.objs.size code, fp, h'.objs.size, go, s4.gens.size, m1 + 1, rfl, fun h e => ⟨go, nm, qn, e, hgc, hgd, hgs⟩, ⟨_, _, I6⟩, ⟨_, Array.getElem?_push_size .., rfl, ?_⟩, fun b s' hf => ?_⟩
      · refine seg_start (X := gcx X (X.A.in1.in1.deeper (gEnv X scope s4.heap.objs.size code)) s4 (upd H1 P (.tbl (ps ++ more))) (gEnv X scope s4.heap.objs.size code) fp) (B := X.A.in1.in1) T rfl rfl rfl hafp hco (by rw [wipe_length]; exact I4.len) over_gen (fun _ _ z => z)
          (pg _ _ _ _ _) (pt _ _ _ _ _) (pe _ _ _ _ _) turn w1 (woken_inv I6 ⟨rfl, allBare_setGen hbare rfl, rfl⟩) ?_ fun b hb => (f4 b hb).1.1
        exact T.keep _ _ _ st4 fun b hb o e => Heap.get?_push_of_some _ (keep' b o (by rw [s4h]; exact e))
      · obtain ⟨σ', H', J', qq⟩ := hf
        exact ⟨.bl b, H', I4.call' (ch := fp) J'.os J'.base J'.hok J'.bare fun b hb => ⟨(f4 b hb).1.2.2.2.1, (f4 b hb).1.2.1, (f4 b hb).1.2.2.2.2.1, (f4 b hb).1.2.2.2.2.2⟩, rfl, qq⟩
    exact hQ _ _ (main _ _ _ _ rfl rfl rfl fun h => Heap.get?_push_size _ rfl)
  refine ⟨I1.nolimit, ?_⟩
  cases hf : codeAmong gpos ps.toList with
  | none =>
    refine wpAny_genexprCodeX hcode (cd.code hPs htr) (cd.tab hPs) hf fun c' h' tk hx hge hlt hco' _ htab' _ => ?_
    obtain ⟨o1, vs, f1, tf, fl, tg', inF, tx, tt', op, _, _, _, _, _, _, _, _, _, htr', _⟩ := hco'
    exact cont _ h' tk _ hx (Nat.le_trans hge (Nat.le_of_lt hlt)) htab'.2 ⟨_, rfl⟩ htr'
  | some cv =>
    refine wpAny_genexprCode_hit hcode (cd.code hPs htr) hf ?_
    exact cont cv s2.heap s2.toks ps (Heap.ExtBut.refl _ _) (Nat.le_refl _) hPs ⟨#[], by simp⟩ htr
theorem call_allX {X : Cx} {pins : List (Addr × Obj)} {σ : L2.St} {Q : VK} {v : Value} {s5 : Shared} {k : Nat} (hr : Room k X.A) (h : ReadyX X pins σ false Q v s5) : wpAny (model X.prog X.w) X.A (call (.builtin "all") [v]) (EP X pins σ Q) X.xe s5 := by
  obtain ⟨s4, H4, env, fp, a, go, g, m, rfl, hgo, hI, hG, hF⟩ := h
  obtain ⟨σ', H', J⟩ := id hI
  refine call_function_tree F.kind_all F.plain_all F.entry_all (F.args_all1 _) ?_
  unfold Builtin.«all»
  refine wpAny_bind (m := oneArg "all" _) (wpAny_pure ?_)
  refine wpAny_bind (wpAny_pyIter_gen (hgo _ (J.pin (a, go) (List.mem_append_right _ List.mem_cons_self)).1) ?_)
  exact wpAny_pure ⟨plainId_quiet F.plain_all_loop _, all_loop (X := gcx X (X.A.in1.in1.deeper env) s4 H4 env fp) (A := X.A) hr.hd hr.depth hgo (fun b s' hf => hF b s' hf) m s5 hI hG⟩
theorem pe_allX {X : Cx} {c P : Addr} {tg elt iter : Expr} {ifs : List Expr} {p pos gpos : Pos} {scope : Scope} {own : List (Str × Nat)} {wi : TI} {g : TG} {tt : TT} {te : TE} {k : Nat}
    (hr : Room (k + 3) X.A) (hgl : Gl X "all") (hm : X.mg "all" = none) (hN : X.N.Nodup) (TB : GxR.TabB X.base X.mg c P) (hcode : X.env.code = .ref c) (ok : BlkOk X.N X.env.scope scope own) (hi : PI X tg iter wi)
    (pg : ∀ (s : Shared) (H : Hp) (C : Addr) (cd : Value) (fp : List Addr), PG (gcx X (X.A.in1.in1.deeper (gEnv X scope C cd)) s H (gEnv X scope C cd) fp) tg g)
    (pt : ∀ (s : Shared) (H : Hp) (C : Addr) (cd : Value) (fp : List Addr), PTs (gcx X (X.A.in1.in1.deeper (gEnv X scope C cd)) s H (gEnv X scope C cd) fp) ifs tt)
    (pe : ∀ (s : Shared) (H : Hp) (C : Addr) (cd : Value) (fp : List Addr), PE (gcx X (X.A.in1.in1.deeper (gEnv X scope C cd)) s H (gEnv X scope C cd) fp) elt te)
    (hs : ∀ v, genFold iter X.env v = pure v := by intro _; rfl) (hco : scope.isCoroutine = false := by rfl) (nocell : ∀ y ∈ scope.names, y.2 ≠ .cell := by decide) (hdot : scope.names.lookup (".0" : Str) = some NameKind.local := by decide)
    (he : starEach [.GeneratorExp elt [⟨tg, iter, ifs, 0⟩] scope gpos] X.env = (false, eval (.GeneratorExp elt [⟨tg, iter, ifs, 0⟩] scope gpos) X.env) :: starEach [] X.env := by rfl) :
    PE X (.Call (.Name "all" p) [.GeneratorExp elt [⟨tg, iter, ifs, 0⟩] scope gpos] [] pos) (tGx false P wi g tt te (own.map (·.2))) := by
  refine ⟨fun pins s σ H Q I h => ?_⟩
  refine wpAny_Call_Name_kw (ld_blt I hgl hm (show bootBuiltins "all" = some (.builtin "all") by first | exact boot_all | rfl | kernel_rfl) ?_)
  refine PyProof.Rows.callWith_builtin1 ?_ he (by rfl)
  rw [he]
  show wpAny _ _ (spliced ((false, eval (.GeneratorExp elt [⟨tg, iter, ifs, 0⟩] scope gpos) X.env) :: backTo pos (starEach [] X.env))) _ _ s
  exact Calls.spliced_cons (gen_make hr hN TB hcode ok hco nocell hdot hi hs pg pt pe I h fun v s5 hR => Calls.spliced_nil (call_allX hr hR))

theorem call_anyX {X : Cx} {pins : List (Addr × Obj)} {σ : L2.St} {Q : VK} {v : Value} {s5 : Shared} {k : Nat} (hr : Room k X.A) (h : ReadyX X pins σ true Q v s5) : wpAny (model X.prog X.w) X.A (call (.builtin "any") [v]) (EP X pins σ Q) X.xe s5 := by
  obtain ⟨s4, H4, env, fp, a, go, g, m, rfl, hgo, hI, hG, hF⟩ := h
  obtain ⟨σ', H', J⟩ := id hI
  refine call_function_tree F.kind_any F.plain_any F.entry_any (F.args_any1 _) ?_
  unfold Builtin.«any»
  refine wpAny_bind (m := oneArg "any" _) (wpAny_pure ?_)
  refine wpAny_bind (wpAny_pyIter_gen (hgo _ (J.pin (a, go) (List.mem_append_right _ List.mem_cons_self)).1) ?_)
  exact wpAny_pure ⟨plainId_quiet F.plain_any_loop _, any_loop (X := gcx X (X.A.in1.in1.deeper env) s4 H4 env fp) (A := X.A) hr.hd hr.depth hgo (fun b s' hf => hF b s' hf) m s5 hI hG⟩
theorem pe_anyX {X : Cx} {c P : Addr} {tg elt iter : Expr} {ifs : List Expr} {p pos gpos : Pos} {scope : Scope} {own : List (Str × Nat)} {wi : TI} {g : TG} {tt : TT} {te : TE} {k : Nat}
    (hr : Room (k + 3) X.A) (hgl : Gl X "any") (hm : X.mg "any" = none) (hN : X.N.Nodup) (TB : GxR.TabB X.base X.mg c P) (hcode : X.env.code = .ref c) (ok : BlkOk X.N X.env.scope scope own) (hi : PI X tg iter wi)
    (pg : ∀ (s : Shared) (H : Hp) (C : Addr) (cd : Value) (fp : List Addr), PG (gcx X (X.A.in1.in1.deeper (gEnv X scope C cd)) s H (gEnv X scope C cd) fp) tg g)
    (pt : ∀ (s : Shared) (H : Hp) (C : Addr) (cd : Value) (fp : List Addr), PTs (gcx X (X.A.in1.in1.deeper (gEnv X scope C cd)) s H (gEnv X scope C cd) fp) ifs tt)
    (pe : ∀ (s : Shared) (H : Hp) (C : Addr) (cd : Value) (fp : List Addr), PE (gcx X (X.A.in1.in1.deeper (gEnv X scope C cd)) s H (gEnv X scope C cd) fp) elt te)
    (hs : ∀ v, genFold iter X.env v = pure v := by intro _; rfl) (hco : scope.isCoroutine = false := by rfl) (nocell : ∀ y ∈ scope.names, y.2 ≠ .cell := by decide) (hdot : scope.names.lookup (".0" : Str) = some NameKind.local := by decide)
    (he : starEach [.GeneratorExp elt [⟨tg, iter, ifs, 0⟩] scope gpos] X.env = (false, eval (.GeneratorExp elt [⟨tg, iter, ifs, 0⟩] scope gpos) X.env) :: starEach [] X.env := by rfl) :
    PE X (.Call (.Name "any" p) [.GeneratorExp elt [⟨tg, iter, ifs, 0⟩] scope gpos] [] pos) (tGx true P wi g tt te (own.map (·.2))) := by
  refine ⟨fun pins s σ H Q I h => ?_⟩
  refine wpAny_Call_Name_kw (ld_blt I hgl hm (show bootBuiltins "any" = some (.builtin "any") by exact boot_any) ?_)
  refine PyProof.Rows.callWith_builtin1 ?_ he (by rfl)
  rw [he]
  show wpAny _ _ (spliced ((false, eval (.GeneratorExp elt [⟨tg, iter, ifs, 0⟩] scope gpos) X.env) :: backTo pos (starEach [] X.env))) _ _ s
  exact Calls.spliced_cons (gen_make hr hN TB hcode ok hco nocell hdot hi hs pg pt pe I h fun v s5 hR => Calls.spliced_nil (call_anyX hr hR))
end GX

/-! ## Walks of generator expressions, by an invariant -/
namespace GX
open PySem PySem.Spec PyProof.Rows L2
theorem walk_any {J : It} {n : Nat} {st : Bool} {g : TG} {tt : TT} {te : TE} {vs : List Nat} {σ : L2.St} {Q : VK} (Pv : Nat → Hp → Prop) (hgo : ∀ i H, i < n → Pv i H → J.go i H) (hst : ∀ H, Pv n H → J.stop n H)
    (step : ∀ i x H H', i < n → Pv i H → J.yld i H x H' → g x (wipe σ vs) H' fun σ2 H2 => wipe σ2 vs = wipe σ vs ∧ tt σ2 H2 fun b H3 => if b = true then te σ2 H3 fun y H4 => ∃ c, y = .bl c ∧ if c = st then Q (.bl st) H4 else Pv (i + 1) H4 else Pv (i + 1) H3)
    (hd : ∀ H, Pv n H → Q (.bl (!st)) H) {H0 : Hp} (h0 : Pv 0 H0) : ∃ W : Nat → Nat → Hp → Prop, (∃ m, W 0 m H0) ∧ TurnT st J g tt te vs σ Q W := by
  refine ⟨fun i m H => m = n - i ∧ i ≤ n ∧ Pv i H, ⟨n, by simp, Nat.zero_le _, h0⟩, ?_⟩
  rintro i m H ⟨rfl, hi, p⟩
  by_cases hlt : i < n
  · exact .inr ⟨hgo i H hlt p, Pv (i + 1), fun H' p' => ⟨n - (i + 1), by omega, rfl, hlt, p'⟩, fun x H' y => step i x H H' hlt p y⟩
  · have e : i = n := by omega
    subst e
    exact .inl ⟨hst H p, hd H p⟩
/-- a text's signs -/
theorem walk_str {x : Str} {st : Bool} {g : TG} {tt : TT} {te : TE} {vs : List Nat} {σ : L2.St} {Q : VK} (Pv : Nat → Hp → Prop)
    (step : ∀ i c H, x.cps[i]? = some c → Pv i H → g (.str ⟨#[c]⟩) (wipe σ vs) H fun σ2 H2 => wipe σ2 vs = wipe σ vs ∧ tt σ2 H2 fun b H3 => if b = true then te σ2 H3 fun y H4 => ∃ c, y = .bl c ∧ if c = st then Q (.bl st) H4 else Pv (i + 1) H4 else Pv (i + 1) H3)
    (hd : ∀ H, Pv x.cps.size H → Q (.bl (!st)) H) {H0 : Hp} (h0 : Pv 0 H0) : ∃ W : Nat → Nat → Hp → Prop, (∃ m, W 0 m H0) ∧ TurnT st (Its x) g tt te vs σ Q W :=
  walk_any (J := Its x) (n := x.cps.size) Pv (fun i H h _ => h) (fun H _ => Nat.le_refl _) (fun i v H H' hi p y => by
    obtain ⟨rfl, c, e, rfl⟩ := y
    exact step i c H' e p) hd h0
/-- a tuple's items -/
theorem walk_tup {K : PySem.W.Frag} {a : Addr} {xs : List V} {st : Bool} {g : TG} {tt : TT} {te : TE} {vs : List Nat} {σ : L2.St} {Q : VK} (Pv : Nat → Hp → Prop) (hl : ∀ i H, Pv i H → SqT K H a xs)
    (step : ∀ i x H, xs[i]? = some x → Pv i H → g x (wipe σ vs) H fun σ2 H2 => wipe σ2 vs = wipe σ vs ∧ tt σ2 H2 fun b H3 => if b = true then te σ2 H3 fun y H4 => ∃ c, y = .bl c ∧ if c = st then Q (.bl st) H4 else Pv (i + 1) H4 else Pv (i + 1) H3)
    (hd : ∀ H, Pv xs.length H → Q (.bl (!st)) H) {H0 : Hp} (h0 : Pv 0 H0) : ∃ W : Nat → Nat → Hp → Prop, (∃ m, W 0 m H0) ∧ TurnT st (Itt K a) g tt te vs σ Q W :=
  walk_any (J := Itt K a) (n := xs.length) Pv (fun i H h p => ⟨xs, xs[i], hl i H p, by simp [h]⟩) (fun H p => ⟨xs, hl _ H p, Nat.le_refl _⟩) (fun i v H H' hi p y => by
    obtain ⟨rfl, y⟩ := y
    exact step i v H' (y xs (hl i H' p)) p) hd h0
/-- lo, lo + 1, .. -/
theorem walk_rng {lo : Int} {n : Nat} {st : Bool} {g : TG} {tt : TT} {te : TE} {vs : List Nat} {σ : L2.St} {Q : VK} (Pv : Nat → Hp → Prop)
    (step : ∀ i H, i < n → Pv i H → g (.int (lo + i)) (wipe σ vs) H fun σ2 H2 => wipe σ2 vs = wipe σ vs ∧ tt σ2 H2 fun b H3 => if b = true then te σ2 H3 fun y H4 => ∃ c, y = .bl c ∧ if c = st then Q (.bl st) H4 else Pv (i + 1) H4 else Pv (i + 1) H3)
    (hd : ∀ H, Pv n H → Q (.bl (!st)) H) {H0 : Hp} (h0 : Pv 0 H0) : ∃ W : Nat → Nat → Hp → Prop, (∃ m, W 0 m H0) ∧ TurnT st (Itr lo n) g tt te vs σ Q W :=
  walk_any (J := Itr lo n) (n := n) Pv (fun i H h _ => h) (fun H _ => Nat.le_refl _) (fun i v H H' hi p y => by
    obtain ⟨rfl, rfl⟩ := y
    exact step i H' hi p) hd h0
end GX

namespace Ver
open PySem
def top (i : Nat) : Stmt := PySem.Challenge.pw_oncefolded_k00_formulas.main.body.getD i (.Pass ⟨0, 0, 0, 0⟩)
end Ver

/-! ## The tape: _law_mix, _law_tape, _law_take -/
namespace Ver
open PySem L2
abbrev sMix : Stmt := top 22
abbrev sTape : Stmt := top 23
abbrev sTake : Stmt := top 24
def spMix : Sp := fun vs H Q _ => ∃ n : Int, vs = [.int n] ∧ ∀ r : Int, Q (.int r) H
def spTape (K : PySem.W.Frag) : Sp := fun vs H Q _ => ∃ (a : Addr) (ns : List Int) (b : Int), vs = [.ref a, .int b] ∧ SqL K H a (ns.map V.int) ∧
  ∀ (t l : Addr) (H' : Hp), H t = none → H l = none → Same H H' → Tape H' t l → Q (.ref t) H'
def spTake : Sp := fun vs H Q _ => ∃ (t l : Addr) (m : Int), vs = [.ref t, .int m] ∧ Tape H t l ∧ 0 < m ∧ m < 1073741824 ∧
  ∀ (d : Int) (H' : Hp), 0 ≤ d → d < m → But t H H' → Tape H' t l → Q (.int d) H'
section
variable {P : Program} {w : World} {K : PySem.W.Frag} {mg : Str → Option Value} {base : Heap} {f g : Addr} {fd gd : FuncData}
theorem scMix : FnScope ["number"] ["number"] (defScope sMix) := ⟨rfl, rfl, rfl, by decide +kernel, rfl, by decide +kernel, by decide +kernel⟩
theorem scTape : FnScope ["script", "budget"] ["script", "budget"] (defScope sTape) := ⟨rfl, rfl, rfl, by decide +kernel, rfl, by decide +kernel, by decide +kernel⟩
theorem scTake : FnScope ["tape", "many", "cell", "digit"] ["tape", "many"] (defScope sTake) := ⟨rfl, rfl, rfl, by decide +kernel, rfl, by decide +kernel, by decide +kernel⟩
theorem ok_mix (F : Fun K "_law_mix" "_law_mix" sMix f fd) (mi : mg "int" = none) : FnOk P w K mg base CX0 1 f fd ["number"] spMix := by
  refine F.ok scMix (fun vs H Q E h => ?_) (fun cdv A outer s H vs Q E hr h => ?_)
  · obtain ⟨n, rfl, _⟩ := h
    rfl
  obtain ⟨n, rfl, q⟩ := h
  refine ⟨_, pss_cons (ps_set (i := 0) scMix.nd rfl (.inl rfl) (pe_op op_mod (pe_callTy call_int1 (by rfl) mi (by decide +kernel) (pa_cons (pe_op op_add (pe_op op_mul (pv 0) pe_int) pe_int) pa_nil)) pe_int))
    (pss_one (ps_ret (pe_op op_mod (pe_callTy call_int1 (by rfl) mi (by decide +kernel) (pa_cons (pe_op op_add (pe_op op_fdivW (pe_op op_mul (pv 0) (pv 0)) pe_int) (pe_op op_mul (pv 0) pe_int)) pa_nil)) pe_int))), ?_⟩
  refine ⟨_, rfl, _, _, rfl, rfl, .inr ⟨by decide, by decide⟩, _, _, rfl, rfl, .inl ⟨_, rfl, _, _, rfl, rfl, (by show (0 : Int) < 18446744073709551616; decide), ?_⟩⟩
  generalize hm : (n * 6364136223846793005 + 1442695040888963407) % 18446744073709551616 = m
  have m0 : 0 ≤ m := by omega
  have m1 : m < 18446744073709551616 := by omega
  refine ⟨_, rfl, _, rfl, _, _, rfl, rfl, .inl ⟨by omega, by omega⟩, _, _, rfl, rfl, wide_div (b := 40) (by decide) (by decide) (by decide) (by decide), _, rfl, _, _, rfl, rfl, .inr ⟨by decide, by decide⟩, _, _, rfl, rfl, .inl ⟨_, rfl, _, _, rfl, rfl, (by show (0 : Int) < 18446744073709551557; decide), ?_⟩⟩
  exact q _
theorem ok_tape (F : Fun K "_law_tape" "_law_tape" sTape f fd) (ml : mg "list" = none) : FnOk P w K mg base CX0 1 f fd ["script", "budget"] (spTape K) := by
  refine F.ok scTape (fun vs H Q E h => ?_) (fun cdv A outer s H vs Q E hr h => ?_)
  · obtain ⟨a, ns, b, rfl, _⟩ := h
    rfl
  obtain ⟨a, ns, b, rfl, hS, q⟩ := h
  refine ⟨_, pss_one (ps_ret (pe_lst (pa_cons (pe_callTy call_list_of (by rfl) ml (by decide +kernel) (pa_cons (pv 0) pa_nil)) (pa_cons pe_int (pa_cons pe_int (pa_cons pe_int (pa_cons (pv 1) pa_nil))))))), ?_⟩
  refine ⟨_, rfl, a, _, rfl, .inl hS, fun l hl => ?_⟩
  refine ⟨_, rfl, (by show 5 ≤ sizeLine; decide), fun t ht => ?_⟩
  have n1 : t ≠ l := fun e => by rw [e, upd_same] at ht; cases ht
  have n2 : H t = none := by rw [upd_ne n1] at ht; exact ht
  exact q t l _ n2 hl ((same_new hl _).trans (same_new ht _)) ⟨⟨ns, by rw [upd_ne (fun e => n1 e.symm)]; exact upd_same⟩, ⟨0, 0, 1, b, Int.le_refl 0, upd_same⟩, fun e => n1 e.symm⟩
theorem ok_take (F : Fun K "_law_take" "_law_take" sTake f fd) (G : FnOk P w K mg base CX0 1 g gd ["number"] spMix) (bG : Binds K gd ["number"] []) (kG : PySem.W.keepIn K (.ref g) = true)
    (mG : mg "_law_mix" = some (.ref g)) (mi : mg "int" = none) (ml : mg "len" = none) : FnOk P w K mg base CX0 2 f fd ["tape", "many"] spTake := by
  refine F.ok scTake (fun vs H Q E h => ?_) (fun cdv A outer s H vs Q E hr h => ?_)
  · obtain ⟨a, l, m, rfl, _⟩ := h
    rfl
  obtain ⟨t, l, m, rfl, ⟨⟨ns, hl⟩, ⟨p, v, s, b, h4, h1⟩, h3⟩, m0, m1, q⟩ := h
  have h2 : SqL K H l (ns.map V.int) := SqL.of hl
  refine ⟨_, C8.pss_cut (ps_if (pt_cmpR op_lt (pe_ix ix_list (pv 0) pe_int (fun _ _ => rfl)) (pv 1) (nomark _))
      (pss_one (ps_if (pt_cmpR op_lt (pe_ix ix_list (pv 0) pe_int (fun _ _ => rfl)) (pe_callB call_len_seq (by rfl) ml PySem.boot_len (pa_cons (pe_ix ix_list (pv 0) pe_int (fun _ _ => rfl)) pa_nil)) (nomark _))
        (pss_cons (ps_set (i := 2) scTake.nd rfl (.inl rfl) (pe_ix ix_list (pe_ix ix_list (pv 0) pe_int (fun _ _ => rfl)) (pe_ix ix_list (pv 0) pe_int (fun _ _ => rfl)) (fun _ _ => rfl)))
        (C8.pss_cut (ps_set (i := 2) scTake.nd rfl (.inl rfl) (pe_ifExp (pt_cmpR op_ge (pv 2) pe_int (nomark _)) (pe_op op_mul pe_int (pv 2)) (pe_op op_sub (pe_op op_mul (pe_un un_neg pe_int) (pv 2)) pe_int)))
        (pss_cons (ps_asg (pe_op op_add (pe_ix ix_list (pv 0) pe_int (fun _ _ => rfl)) pe_int) (pg_sub (pv 0) pe_int set_list))
        (pss_cons (ps_asg (pe_call G hr rfl mG kG bG .nil pass0 (pa_cons (pe_op op_add (pe_ix ix_list (pv 0) pe_int (fun _ _ => rfl)) (pv 2)) pa_nil)) (pg_sub (pv 0) pe_int set_list))
        (pss_one (ps_asg (pe_ifExp (pt_cmpR op_ge (pv 2) (pe_op op_pow pe_int pe_int) (nomark _)) (pv 2) (pe_call G hr rfl mG kG bG .nil pass0 (pa_cons (pe_call G hr rfl mG kG bG .nil pass0 (pa_cons (pv 2) pa_nil)) pa_nil))) (pg_sub (pv 0) pe_int set_list)))))))
        (pss_cons (ps_asg (pe_call G hr rfl mG kG bG .nil pass0 (pa_cons (pe_op op_add (pe_ix ix_list (pv 0) pe_int (fun _ _ => rfl)) pe_int) pa_nil)) (pg_sub (pv 0) pe_int set_list))
        (pss_one (ps_asg (pe_ix ix_list (pv 0) pe_int (fun _ _ => rfl)) (pg_sub (pv 0) pe_int set_list))))))
      pss_nil)
    (pss_cons (ps_set (i := 3) scTake.nd rfl (.inl rfl) (pe_op op_mod (pe_callTy call_int1 (by rfl) mi (by decide +kernel) (pa_cons (pe_ix ix_list (pv 0) pe_int (fun _ _ => rfl)) pa_nil)) (pv 1)))
    (pss_cons (ps_asg (pe_op op_fdiv (pe_ix ix_list (pv 0) pe_int (fun _ _ => rfl)) (pv 1)) (pg_sub (pv 0) pe_int set_list))
    (pss_one (ps_ret (pv 3))))), ?_⟩
  refine ⟨fun σ H' => ∃ (c : Option V) (p' v' s' : Int), σ = [some (.ref t), some (.int m), c, none] ∧ But t H H' ∧ H' t = some (.lst [.ref l, .int p', .int v', .int s', .int b]) ∧ 0 ≤ p', ?_, ?_⟩
  · refine ⟨_, rfl, t, _, _, _, rfl, rfl, SqL.of h1, rfl, _, rfl, _, _, rfl, rfl, _, rfl, ?_⟩
    refine ite2 (fun _ => ?_) (fun _ => ⟨none, p, v, s, rfl, But.refl H, h1, h4⟩)
    refine ⟨_, rfl, t, _, _, _, rfl, rfl, SqL.of h1, rfl, _, rfl, t, _, _, _, rfl, rfl, SqL.of h1, rfl, l, _, rfl, .inl h2, _, _, rfl, rfl, _, rfl, ?_⟩
    refine ite2 (fun c => ?_) (fun _ => ?_)
    · have c1 : p < (((ns.map V.int).length : Nat) : Int) := of_decide_eq_true c
      rw [List.length_map] at c1
      have hk : p.toNat < ns.length := by omega
      have hx : (ns.map V.int)[p.toNat]? = some (.int ns[p.toNat]) := by rw [List.getElem?_map, List.getElem?_eq_getElem hk]; rfl
      refine ⟨_, rfl, t, _, _, _, rfl, rfl, SqL.of h1, rfl, _, rfl, t, _, _, _, rfl, rfl, SqL.of h1, rfl, l, _, _, _, rfl, rfl, h2, at_of (by omega) hx, ?_⟩
      generalize ns[p.toNat] = x
      refine ⟨fun σ H' => ∃ y : Int, σ = [some (.ref t), some (.int m), some (.int y), none] ∧ H' = H, ?_, ?_⟩
      · refine ⟨_, rfl, _, _, rfl, rfl, _, rfl, ite2 (fun _ => ?_) (fun _ => ?_)⟩
        · exact ⟨_, rfl, _, _, rfl, rfl, .inl ⟨by decide, by decide⟩, _, rfl, rfl⟩
        · exact ⟨_, rfl, _, rfl, _, _, rfl, rfl, .inl ⟨by decide, by decide⟩, _, _, rfl, rfl, _, rfl, rfl⟩
      · rintro σ H' ⟨y, rfl, rfl⟩
        refine ⟨_, rfl, t, _, _, _, rfl, rfl, SqL.of h1, rfl, _, _, rfl, rfl, _, rfl, t, _, _, _, rfl, rfl, h1, rfl, ?_⟩
        have k1 := But.wr (t := t) (H := H') (o := .lst [.ref l, .int (p + 1), .int v, .int s, .int b])
        refine ⟨_, rfl, t, _, _, _, rfl, rfl, SqL.of upd_same, rfl, _, rfl, _, _, rfl, rfl, _, rfl, fun r => ?_⟩
        refine ⟨_, rfl, t, _, _, _, rfl, rfl, upd_same, rfl, ?_⟩
        have k2 := k1.trans (But.wr (t := t) (o := .lst [.ref l, .int (p + 1), .int v, .int r, .int b]))
        refine ⟨_, rfl, _, _, rfl, rfl, ⟨by decide, by decide, by decide⟩, _, _, rfl, rfl, _, rfl, ite2 (fun _ => ?_) (fun _ => ?_)⟩
        · refine ⟨_, rfl, _, rfl, t, _, _, _, rfl, rfl, upd_same, rfl, ?_⟩
          exact ⟨_, p + 1, y, r, rfl, k2.trans But.wr, upd_same, by omega⟩
        · refine ⟨_, rfl, _, rfl, fun r1 => ⟨_, rfl, fun r2 => ⟨_, rfl, t, _, _, _, rfl, rfl, upd_same, rfl, ?_⟩⟩⟩
          exact ⟨_, p + 1, r2, r, rfl, k2.trans But.wr, upd_same, by omega⟩
    · refine ⟨_, rfl, t, _, _, _, rfl, rfl, SqL.of h1, rfl, _, _, rfl, rfl, _, rfl, fun r => ?_⟩
      refine ⟨_, rfl, t, _, _, _, rfl, rfl, h1, rfl, ?_⟩
      have k1 := But.wr (t := t) (H := H) (o := .lst [.ref l, .int p, .int v, .int r, .int b])
      refine ⟨_, rfl, t, _, _, _, rfl, rfl, SqL.of upd_same, rfl, _, rfl, t, _, _, _, rfl, rfl, upd_same, rfl, ?_⟩
      exact ⟨_, p, r, r, rfl, k1.trans But.wr, upd_same, h4⟩
  · rintro σ H' ⟨c, p', v', s', rfl, g, e1, e4⟩
    refine ⟨_, rfl, t, _, _, _, rfl, rfl, SqL.of e1, rfl, .inl ⟨_, rfl, _, rfl, _, _, rfl, rfl, m0, ?_⟩⟩
    refine ⟨_, rfl, t, _, _, _, rfl, rfl, SqL.of e1, rfl, _, rfl, _, _, rfl, rfl, ⟨m0, m1⟩, _, rfl, t, _, _, _, rfl, rfl, e1, rfl, _, rfl, ?_⟩
    exact q _ _ (Int.emod_nonneg _ (by omega)) (Int.emod_lt_of_pos _ m0) (g.trans But.wr) ⟨⟨ns, (g.trans But.wr) _ _ h3 hl⟩, ⟨p', _, s', b, e4, upd_same⟩, h3⟩
end
end Ver

/-! ## The switches that a law draws -/
namespace Ver
open PySem L2
abbrev sSws : Stmt := top 25
def pools : List (List Str) := [["a", "b", "c", "d", "e"], ["aa", "ab", "b", "ba", "zz"], ["big", "debug", "posix", "win", "x"]]
def Sws (sw : List Str) : Prop := sw ≠ [] ∧ ∃ names ∈ pools, sw.Sublist names
def subs {α : Type} : List α → List (List α)
  | [] => [[]]
  | x :: r => (subs r).map (x :: ·) ++ subs r
theorem mem_subs {α : Type} {l m : List α} (h : l.Sublist m) : l ∈ subs m := by
  induction h with
  | slnil => exact List.mem_singleton.mpr rfl
  | cons a _ ih => exact List.mem_append_right _ ih
  | cons_cons a _ ih => exact List.mem_append_left _ (List.mem_map.mpr ⟨_, ih, rfl⟩)
def swsAll : List (List Str) := (pools.flatMap subs).filter fun l => !l.isEmpty
theorem Sws.mem {sw : List Str} (h : Sws sw) : sw ∈ swsAll := by
  obtain ⟨h0, names, hn, hs⟩ := h
  refine List.mem_filter.mpr ⟨List.mem_flatMap.mpr ⟨names, hn, mem_subs hs⟩, ?_⟩
  cases sw with
  | nil => exact absurd rfl h0
  | cons a r => rfl
theorem Sws.all {sw : List Str} (h : Sws sw) {p : List Str → Bool} (d : swsAll.all p = true) : p sw = true := List.all_eq_true.mp d _ h.mem
def spSws : Sp := fun vs H Q _ => ∃ t l : Addr, vs = [.ref t] ∧ Tape H t l ∧
  ∀ (q : Addr) (H' : Hp) (sw : List Str), Sws sw → SwT H' q sw → But t H H' → Tape H' t l → Q (.ref q) H'
section
variable {P : Program} {w : World} {K : PySem.W.Frag} {mg : Str → Option Value} {base : Heap} {f g : Addr} {fd gd : FuncData}
theorem scSws : FnScope ["tape", "pool", "kept", "name"] ["tape"] (defScope sSws) := ⟨rfl, rfl, rfl, by decide +kernel, rfl, by decide +kernel, by decide +kernel⟩
theorem ok_sws (F : Fun K "_law_switches" "_law_switches" sSws f fd) (G : FnOk P w K mg base CX0 2 g gd ["tape", "many"] spTake) (bG : Binds K gd ["tape", "many"] []) (kG : PySem.W.keepIn K (.ref g) = true)
    (mG : mg "_law_take" = some (.ref g)) (mt : mg "tuple" = none) (ml : mg "len" = none) : FnOk P w K mg base CX0 3 f fd ["tape"] spSws := by
  refine F.ok scSws (fun vs H Q E h => ?_) (fun cdv A outer s H vs Q E hr h => ?_)
  · obtain ⟨a, l, rfl, _⟩ := h
    rfl
  obtain ⟨t, l, rfl, hT, q⟩ := h
  refine ⟨_, C8.pss_cut (ps_set (i := 1) scSws.nd rfl (.inl rfl) (pe_ix ix_list (pe_lst (pa_cons (pe_lst (pa_cons pe_str (pa_cons pe_str (pa_cons pe_str (pa_cons pe_str (pa_cons pe_str pa_nil))))))
        (pa_cons (pe_lst (pa_cons pe_str (pa_cons pe_str (pa_cons pe_str (pa_cons pe_str (pa_cons pe_str pa_nil)))))) (pa_cons (pe_lst (pa_cons pe_str (pa_cons pe_str (pa_cons pe_str (pa_cons pe_str (pa_cons pe_str pa_nil)))))) pa_nil))))
        (pe_call G hr rfl mG kG bG .nil pass0 (pa_cons (pv 0) (pa_cons pe_int pa_nil))) (fun _ _ => rfl)))
    (pss_cons (ps_setLc (i := 2) (own := [("name", 3)]) (g := gName 3) (by rfl) scSws.nd rfl rfl (sw_true rfl rfl rfl (by decide +kernel)) (pi_list (pv 1)) (blkOk_by (own := [("name", 3)]) (N := ["tape", "pool", "kept", "name"]) (sc := defScope sSws) (by decide +kernel))
        (fun _ _ _ _ _ => pg_name (i := 3) scSws.nd rfl (Or.inl rfl)) (fun _ _ _ _ _ => pts_one (pt_cmpR op_eq (pe_call G hr rfl mG kG bG .nil pass0 (pa_cons (pv 0) (pa_cons pe_int pa_nil))) pe_int (nomark _))) (fun _ _ _ _ _ => pv 3))
    (pss_one (ps_ret (pe_ifExp (pt_cmpR op_gt (pe_callB call_len_seq (by rfl) ml PySem.boot_len (pa_cons (pv 2) pa_nil)) pe_int (nomark _)) (pe_callTy call_tuple_fz (by rfl) mt (by decide +kernel) (pa_cons (pv 2) pa_nil))
        (pe_tup_fz (pa_cons (pe_ix ix_list (pv 1) pe_int (fun _ _ => rfl)) pa_nil)))))), ?_⟩
  refine ⟨fun σ H' => ∃ (p : Addr) (names : List Str), σ = [some (.ref t), some (.ref p), none, none] ∧ names ∈ pools ∧ H' p = some (.lst (names.map V.str)) ∧ p ≠ t ∧ But t H H' ∧ Tape H' t l, ?_, ?_⟩
  · refine ⟨(by show 5 ≤ sizeLine; decide), fun p1 n1 => ⟨(by show 5 ≤ sizeLine; decide), fun p2 n2 => ⟨(by show 5 ≤ sizeLine; decide), fun p3 n3 => ⟨(by show 3 ≤ sizeLine; decide), fun p4 n4 => ?_⟩⟩⟩⟩
    have g1 := same_new n1 (.lst [.str "a", .str "b", .str "c", .str "d", .str "e"])
    have g2 := same_new n2 (.lst [.str "aa", .str "ab", .str "b", .str "ba", .str "zz"])
    have g3 := same_new n3 (.lst [.str "big", .str "debug", .str "posix", .str "win", .str "x"])
    have g4 := same_new n4 (.lst [.ref p1, .ref p2, .ref p3])
    have gA := ((g1.trans g2).trans g3).trans g4
    have hT' := hT.same gA
    refine ⟨_, rfl, t, l, 3, rfl, hT', by decide, by decide, fun d H' d0 d1 gB hB => ?_⟩
    have t1 : p1 ≠ t := hT.nt n1
    have t2 : p2 ≠ t := (hT.same g1).nt n2
    have t3 : p3 ≠ t := (hT.same (g1.trans g2)).nt n3
    have t4 : p4 ≠ t := (hT.same ((g1.trans g2).trans g3)).nt n4
    have e1 := gB _ _ t1 (g4 _ _ (g3 _ _ (g2 _ _ (upd_same (H := H) (a := p1) (o := .lst [.str "a", .str "b", .str "c", .str "d", .str "e"])))))
    have e2 := gB _ _ t2 (g4 _ _ (g3 _ _ (upd_same (a := p2) (o := .lst [.str "aa", .str "ab", .str "b", .str "ba", .str "zz"]))))
    have e3 := gB _ _ t3 (g4 _ _ (upd_same (a := p3) (o := .lst [.str "big", .str "debug", .str "posix", .str "win", .str "x"])))
    have e4 := gB _ _ t4 (upd_same (a := p4) (o := .lst [.ref p1, .ref p2, .ref p3]))
    have gC := (But.of gA (t := t)).trans gB
    have c : d = 0 ∨ d = 1 ∨ d = 2 := by omega
    rcases c with rfl | rfl | rfl
    · exact ⟨p4, _, _, _, rfl, rfl, SqL.of e4, rfl, p1, _, rfl, List.mem_cons_self, e1, t1, gC, hB⟩
    · exact ⟨p4, _, _, _, rfl, rfl, SqL.of e4, rfl, p2, _, rfl, List.mem_cons_of_mem _ List.mem_cons_self, e2, t2, gC, hB⟩
    · exact ⟨p4, _, _, _, rfl, rfl, SqL.of e4, rfl, p3, _, rfl, List.mem_cons_of_mem _ (List.mem_cons_of_mem _ List.mem_cons_self), e3, t3, gC, hB⟩
  · rintro σ H1 ⟨p, names, rfl, hn, hp, hpt, g1, hT1⟩
    refine ⟨_, rfl, p, rfl, ⟨_, SqL.of hp⟩, fun D hD => ?_⟩
    have dt : D ≠ t := hT1.nt hD
    have hlen : names.length = 5 := List.all_eq_true.mp (show pools.all (fun l => decide (l.length = 5)) = true by decide +kernel) _ hn |> of_decide_eq_true
    refine lc_list (xs := names.map V.str) (fun i H' => ∃ kept : List Str, kept.Sublist (names.take i) ∧ H' D = some (.lst (kept.map V.str)) ∧ H' p = some (.lst (names.map V.str)) ∧ But t H1 H' ∧ Tape H' t l) ?_ ?_ ?_ ?_
    · exact ⟨[], List.nil_sublist _, upd_same, same_new hD _ _ _ hp, But.of (same_new hD _), hT1.same (same_new hD _)⟩
    · rintro i H' _ ⟨kept, _, _, h3, _⟩
      exact SqL.of h3
    · rintro i x H2 hx ⟨kept, k1, k2, k3, k4, k5⟩
      have hi : i < names.length := by
        obtain ⟨z, _⟩ := List.getElem?_eq_some_iff.mp hx
        rw [List.length_map] at z
        exact z
      have ex : x = .str names[i] := by
        rw [List.getElem?_map, List.getElem?_eq_getElem hi] at hx
        exact (Option.some.inj hx).symm
      subst ex
      have tk : names.take (i + 1) = names.take i ++ [names[i]] := by rw [List.take_succ, List.getElem?_eq_getElem hi]; rfl
      refine ⟨rfl, _, rfl, t, l, 2, rfl, k5, by decide, by decide, fun d H3 _ _ g2 hT3 => ?_⟩
      refine ⟨rfl, _, rfl, ite2 (fun _ => ?_) (fun _ => ?_)⟩
      · refine ⟨_, rfl, _, g2 _ _ dt k2, ?_, kept ++ [names[i]], ?_, ?_, ?_, ?_, ?_⟩
        · have z := k1.length_le
          rw [List.length_take] at z
          rw [List.length_map]
          exact Nat.lt_of_le_of_lt (show kept.length ≤ 5 by omega) (by decide)
        · rw [tk]
          exact k1.append (List.Sublist.refl _)
        · rw [upd_same, List.map_append]
          rfl
        · rw [upd_ne (fun e => ?_)]
          · exact g2 _ _ hpt k3
          · rw [e, hD] at hp
            cases hp
        · exact (k4.trans g2).put hD
        · exact hT3.put dt (hT1.nl hD)
      · exact ⟨kept, k1.trans (by rw [tk]; exact List.sublist_append_left _ _), g2 _ _ dt k2, g2 _ _ hpt k3, k4.trans g2, hT3⟩
    · rintro H2 ⟨kept, k1, k2, k3, k4, k5⟩
      rw [List.length_map, List.take_length] at k1
      have g3 := g1.trans k4
      refine ⟨_, rfl, D, _, rfl, .inl (SqL.of k2), _, _, rfl, rfl, _, rfl, ite2 (fun c => ?_) (fun _ => ?_)⟩
      · refine ⟨_, rfl, D, _, rfl, SqL.of k2, fun r o ho1 ho2 hr => ?_⟩
        refine q r _ kept ⟨?_, names, hn, k1⟩ ⟨o, ho1, ho2, upd_same⟩ (g3.trans (But.of (same_new hr _))) (k5.same (same_new hr _))
        have c1 : (0 : Int) < (((kept.map V.str).length : Nat) : Int) := of_decide_eq_true c
        rintro rfl
        exact absurd c1 (by decide)
      · obtain ⟨n0, r0, rfl⟩ : ∃ n0 r0, names = n0 :: r0 := by
          cases names with
          | nil => cases hlen
          | cons a r => exact ⟨a, r, rfl⟩
        refine ⟨_, rfl, p, _, _, _, rfl, rfl, SqL.of k3, at_of (j := 0) (v := .str n0) rfl rfl, (by show 1 ≤ sizeLine; decide), fun r o ho1 ho2 hr => ?_⟩
        refine q r _ [n0] ⟨List.cons_ne_nil _ _, _, hn, ?_⟩ ⟨o, ho1, ho2, upd_same⟩ (g3.trans (But.of (same_new hr _))) (k5.same (same_new hr _))
        exact (List.nil_sublist r0).cons_cons n0
end
end Ver

/-! ## _is_name -/
namespace Ver
open PySem PySem.Spec PyProof.Rows L2
/-- a def whose code object is known -/
structure FunC (K : PySem.W.Frag) (x qual : Str) (st : Stmt) (f : Addr) (fd : FuncData) (cdv : Value) : Prop where
  ex : ∃ (oc : Value) (od : Option Addr) (kV doc pm : Value) (an : Option Addr) (ct : Value) (osl : Array (Option Value)),
    fd = PySem.W.fnOf x qual (defArgs st) (defBody st) (defScope st) .none kV doc pm an cdv ct ∧ K.lookup f = some ⟨oc, od, .func fd, osl⟩ ∧ PySem.W.codeIn K cdv qual = true
  kp : PySem.W.keepIn K (.ref f) = true
theorem FunC.fn {K : PySem.W.Frag} {x qual : Str} {st : Stmt} {f : Addr} {fd : FuncData} {cdv : Value} (F : FunC K x qual st f fd cdv) : Fun K x qual st f fd := by
  obtain ⟨oc, od, kV, doc, pm, an, ct, osl, h⟩ := F.ex
  exact ⟨⟨oc, od, kV, doc, pm, an, cdv, ct, osl, h⟩, F.kp⟩
theorem FunC.ok {P : Program} {w : World} {K : PySem.W.Frag} {mg : Str → Option Value} {base : Heap} {x qual : Str} {st : Stmt} {f : Addr} {fd : FuncData} {cdv : Value} {N ps : List Str} {k : Nat} {sp : Sp} (F : FunC K x qual st f fd cdv) (S : FnScope N ps (defScope st)) (len : ∀ vs H Q E, sp vs H Q E → vs.length = ps.length)
    (hbody : ∀ (A : Around) (outer : List Env) (s : Shared) (H : Hp) (vs : List V) (Q : VK) (E : XK), Room k (A.deeper (envOfC qual (defScope st) s.heap.objs.size f cdv)) → sp vs H Q E →
      ∃ t, PSs (cxOf CX0 P w K mg base N qual (defScope st) f cdv A outer s H E).nox (defBody st) t ∧ t { nx := fun _ H' => Q .non H', rt := Q } (start N vs) H) : FnOk P w K mg base CX0 (k + 1) f fd ps sp := by
  obtain ⟨oc, od, kV, doc, pm, an, ct, osl, rfl, lk, hcd⟩ := F.ex
  refine fn_of lk hcd S len fun A outer s H vs Q E hr hsp => ?_
  obtain ⟨t, h, q⟩ := hbody A outer s H vs Q E hr hsp
  exact ⟨t, h.nox, q⟩
abbrev sNm : Stmt := top 11
/-- is a datum a name -/
def isNm : PyData → Bool
  | .str x => decide (1 ≤ x.cps.size) && decide (x.cps.size ≤ 6) && x.cps.toList.all lett
  | _ => false
/-- all is as it was, but for the tables at Ps, which may have grown -/
def Tabs (Ps : List Addr) (H H' : Hp) : Prop := (∀ P ∈ Ps, GxR.TabG H' P) ∧ ∀ b, b ∉ Ps → H' b = H b
abbrev letters : Str := "abcdefghijklmnopqrstuvwxyz"
def spNm (Pn : Addr) : Sp := fun vs H Q _ => ∃ (v : V) (d : PyData), vs = [v] ∧ Dv H v d ∧ (∀ x, d = .str x → x.length ≤ 1000) ∧ GxR.TabG H Pn ∧ ∀ H', GxR.Tabbed Pn H H' → Q (.bl (isNm d)) H'
theorem tabbed_refl {P : Addr} {H : Hp} (h : GxR.TabG H P) : GxR.Tabbed P H H := ⟨h, fun _ _ => rfl⟩
theorem in_letters (c : Nat) : (!(Builtin.Str.occurrences letters ⟨#[c]⟩ 0 letters.length 1).isEmpty) = lett c := by
  rw [StrLaws.found_one]
  have e : letters.cps.toList = (List.range 26).map (97 + ·) := by decide +kernel
  rw [e]
  unfold lett
  rw [← Bool.decide_and]
  apply decide_eq_decide.mpr
  rw [List.mem_map]
  constructor
  · rintro ⟨i, hi, rfl⟩
    have := List.mem_range.mp hi
    omega
  · intro h
    exact ⟨c - 97, List.mem_range.mpr (by omega), by omega⟩
section
variable {P : Program} {w : World} {K : PySem.W.Frag} {mg : Str → Option Value} {base : Heap} {f g cn Pn : Addr} {fd gd : FuncData}
theorem scNm : FnScope ["value", "letter"] ["value"] (defScope sNm) := ⟨rfl, rfl, rfl, by decide +kernel, rfl, by decide +kernel, by decide +kernel⟩
theorem ok_nm {n : Nat} (F : FunC K "_is_name" "_is_name" sNm f fd (.ref cn)) (TB : GxR.TabB base mg cn Pn) (mi : mg "isinstance" = none) (ms : mg "str" = none) (ml : mg "len" = none) (ma : mg "all" = none)
    (mL : ∃ t, mg "SMALL_LETTERS" = some (.str letters t)) (mN : ∃ t, mg "MAX_NAME" = some (.int 6 t)) : FnOk P w K mg base CX0 (n + 4) f fd ["value"] (spNm Pn) := by
  refine F.ok scNm (fun vs H Q E h => ?_) (fun A outer s H vs Q E hr h => ?_)
  · obtain ⟨v, d, rfl, _⟩ := h
    rfl
  obtain ⟨v, d, rfl, hv, hz, hT, q⟩ := h
  refine ⟨_, pss_cons (ps_if (PW.pt (pw_or (pt_not (pt_val (pe_callB call_isi (by rfl) mi (by decide +kernel) (pa_cons (pv 0) (pa_cons (pe_bltn (v := .ty "str") (by rfl) ms (by decide +kernel) rfl) pa_nil)))))
        (pw_or1 (pt_not (pt_chain op_le op_le pe_int (pe_callB call_len_str (by rfl) ml PySem.boot_len (pa_cons (pv 0) pa_nil)) (C8.pe_gc (v := .int 6) (by rfl) (by obtain ⟨t, e⟩ := mN; exact ⟨_, e, _, rfl⟩))))))) (pss_one (ps_ret pe_bl)) pss_nil)
    (pss_one (ps_ret (GX.pe_allX (P := Pn) (c := cn) (g := gName 1) (tt := tYes) (own := [("letter", 1)]) hr (by rfl) ma scNm.nd TB rfl (blkOk_by (own := [("letter", 1)]) (N := ["value", "letter"]) (sc := defScope sNm) (by decide +kernel)) (pi_str (pv 0))
      (fun _ _ _ _ _ => pg_name (i := 1) scNm.nd rfl (Or.inl rfl)) (fun _ _ _ _ _ => pts_nil) (fun _ _ _ _ _ => pe_cmpR op_in_str (pv 1) (C8.pe_gc (v := .str letters) (by rfl) (by obtain ⟨t, e⟩ := mL; exact ⟨_, e, _, rfl⟩)) (by rfl))))), ?_⟩
  refine ⟨_, rfl, _, _, _, _, _, rfl, .ty _, hv.ty, kit_str d, _, rfl, ?_⟩
  have no : isStr d = false → isNm d = false := fun e => by cases d <;> first | rfl | cases e
  cases hd : isStr d with
  | false =>
    rw [no hd] at q
    exact iteT (iteT (q H (tabbed_refl hT)))
  | true =>
    obtain ⟨x, rfl⟩ : ∃ x, d = .str x := by
      cases d <;> first | exact ⟨_, rfl⟩ | cases hd
    cases hv.of_str
    have hx := hz x rfl
    refine iteF ⟨_, rfl, x, rfl, room5 hx, _, _, rfl, rfl, _, rfl, ite2 (fun c1 => ?_) (fun c1 => ?_)⟩
    · refine ⟨_, _, rfl, rfl, _, rfl, ite2 (fun c2 => ?_) (fun c2 => ?_)⟩
      · have e : isNm (.str x) = false := by
          have c2' : ¬ (x.length : Int) ≤ 6 := fun z => by
            rw [decide_eq_true z] at c2
            cases c2
          have c3 : ¬ x.cps.size ≤ 6 := fun z => c2' (Int.ofNat_le.mpr z)
          show (decide (1 ≤ x.cps.size) && decide (x.cps.size ≤ 6) && x.cps.toList.all lett) = false
          rw [decide_eq_false c3, Bool.and_false, Bool.false_and]
        rw [e] at q
        exact q H (tabbed_refl hT)
      · have c1' : 1 ≤ x.cps.size := Int.ofNat_le.mp (of_decide_eq_true c1)
        have c2' : x.cps.size ≤ 6 := by
          by_cases z : (x.length : Int) ≤ 6
          · exact Int.ofNat_le.mp z
          · rw [decide_eq_false z] at c2
            exact absurd rfl c2
        have e : isNm (.str x) = x.cps.toList.all lett := by
          show (decide (1 ≤ x.cps.size) && decide (x.cps.size ≤ 6) && x.cps.toList.all lett) = _
          rw [decide_eq_true c1', decide_eq_true c2', Bool.true_and, Bool.true_and]
        rw [e] at q
        have hlen : x.cps.toList.length = x.cps.size := by simp
        refine ⟨_, rfl, x, rfl, hT, fun H2 g2 => GX.walk_str (fun i H' => GxR.Tabbed Pn H H' ∧ (x.cps.toList.take i).all lett = true) (fun i c H3 hc ⟨g3, k3⟩ => ?_) (fun H3 ⟨g3, k3⟩ => ?_) ⟨g2, rfl⟩⟩
        · have tk : x.cps.toList.take (i + 1) = x.cps.toList.take i ++ [c] := by
            rw [List.take_succ, Array.getElem?_toList, hc]; rfl
          refine ⟨rfl, _, rfl, _, _, rfl, rfl, _, rfl, ?_⟩
          rw [in_letters]
          cases hl : lett c with
          | false =>
            rw [if_pos rfl]
            have : x.cps.toList.all lett = false := by
              rw [Bool.eq_false_iff]
              intro z
              have := List.all_eq_true.mp z c (List.mem_of_getElem? (i := i) (by rw [Array.getElem?_toList]; exact hc))
              rw [hl] at this
              cases this
            rw [this] at q
            exact q _ g3
          | true =>
            rw [if_neg (by decide)]
            refine ⟨g3, ?_⟩
            rw [tk, List.all_append, k3]
            show (true && (lett c && true)) = true
            rw [hl]
            rfl
        · rw [← hlen, List.take_length] at k3
          rw [k3] at q
          exact q _ g3
    · have c1' : ¬ 1 ≤ x.cps.size := fun z => c1 (decide_eq_true (Int.ofNat_le.mpr z))
      have e : isNm (.str x) = false := by
        show (decide (1 ≤ x.cps.size) && decide (x.cps.size ≤ 6) && x.cps.toList.all lett) = false
        rw [decide_eq_false c1', Bool.false_and, Bool.false_and]
      rw [e] at q
      refine ⟨false, rfl, ?_⟩
      exact q H (tabbed_refl hT)
end
end Ver

/-! ## is_switches -/
namespace Ver
open PySem PySem.Spec PyProof.Rows L2
abbrev sSwt : Stmt := top 10
def strLt : PyData → PyData → Bool
  | .str x, .str y => decide (x.cps.toList < y.cps.toList)
  | _, _ => false
/-- each below the next -/
def asc (ds : List PyData) : Bool := (List.range (ds.length - 1)).all fun k => strLt (ds.getD k .none) (ds.getD (k + 1) .none)
def isSw : PyData → Bool
  | .tuple ds => decide (1 ≤ ds.length) && decide (ds.length ≤ 5) && ds.all isNm && asc ds
  | _ => false
/-- a datum, or a tuple of data whose object is known -/
def DvF (H : Hp) (v : V) (d : PyData) : Prop := Dv H v d ∨ ∃ (a : Addr) (o : Obj) (xs : List V) (ds : List PyData), v = .ref a ∧ d = .tuple ds ∧ H a = some (.frz o (.tup xs)) ∧ DvAll H xs ds
theorem DvF.ty {K : PySem.W.Frag} {H : Hp} {d : PyData} {v : V} (h : DvF H v d) : TyX K H v (.type (dTy d)) := by
  rcases h with h | ⟨a, o, xs, ds, rfl, rfl, h, _⟩
  · exact h.ty
  · exact .fTuple h
theorem DvF.of_tup {H : Hp} {v : V} {ds : List PyData} (h : DvF H v (.tuple ds)) : ∃ a xs, v = .ref a ∧ L2.Rd H a (.tup xs) ∧ DvAll H xs ds := by
  rcases h with h | ⟨a, o, xs, ds', rfl, e, h, k⟩
  · obtain ⟨a, xs, e1, e2, e3⟩ := h.of_tup
    exact ⟨a, xs, e1, .inl e2, e3⟩
  · cases e
    exact ⟨a, xs, rfl, .inr ⟨o, h⟩, k⟩
def spSwt (Ps Pn : Addr) : Sp := fun vs H Q _ => ∃ (v : V) (d : PyData), vs = [v] ∧ DvF H v d ∧ (∀ ds, d = .tuple ds → ds.length ≤ 1000 ∧ ∀ x, .str x ∈ ds → x.length ≤ 1000) ∧ GxR.TabG H Ps ∧ GxR.TabG H Pn ∧ ∀ H', Tabs [Ps, Pn] H H' → Q (.bl (isSw d)) H'
theorem Tabs.refl {Ps Pn : Addr} {H : Hp} (h : GxR.TabG H Ps) (k : GxR.TabG H Pn) : Tabs [Ps, Pn] H H := ⟨fun P hP => by
  rcases List.mem_cons.mp hP with e | e
  · rw [e]; exact h
  · rw [List.mem_singleton.mp e]; exact k, fun _ _ => rfl⟩
theorem Tabs.step {Ps : List Addr} {P : Addr} {H H1 H2 : Hp} (h : Tabs Ps H H1) (k : GxR.Tabbed P H1 H2) (hP : P ∈ Ps) : Tabs Ps H H2 := ⟨fun q hq => by
  by_cases e : q = P
  · rw [e]; exact k.1
  · obtain ⟨ps, h1, h2⟩ := h.1 q hq
    exact ⟨ps, (k.2 q e).trans h1, h2⟩, fun b hb => (k.2 b fun e => hb (by rw [e]; exact hP)).trans (h.2 b hb)⟩
theorem Tabs.trans {Ps : List Addr} {H H1 H2 : Hp} (h : Tabs Ps H H1) (k : Tabs Ps H1 H2) : Tabs Ps H H2 := ⟨k.1, fun b hb => (k.2 b hb).trans (h.2 b hb)⟩
theorem tup_not_tab {Ps : List Addr} {H : Hp} {a : Addr} {xs : List V} (h : ∀ P ∈ Ps, GxR.TabG H P) (e : H a = some (.tup xs)) : a ∉ Ps := fun z => by
  obtain ⟨ps, h1, _⟩ := h a z
  rw [e] at h1
  cases h1
theorem Tabs.rd {Ps : List Addr} {H H' : Hp} {a : Addr} {xs : List V} (h0 : ∀ P ∈ Ps, GxR.TabG H P) (h : Tabs Ps H H') (e : L2.Rd H a (.tup xs)) : L2.Rd H' a (.tup xs) := by
  have na : a ∉ Ps := fun z => by
    obtain ⟨ps, h1, _⟩ := h0 a z
    rcases e with e | ⟨o, e⟩ <;> rw [e] at h1 <;> cases h1
  rcases e with e | ⟨o, e⟩
  · exact .inl ((h.2 a na).trans e)
  · exact .inr ⟨o, (h.2 a na).trans e⟩
theorem Tabs.keepT {Ps : List Addr} {H H' : Hp} (h0 : ∀ P ∈ Ps, GxR.TabG H P) (h : Tabs Ps H H') : KeepT H H' := fun a xs e => (h.2 a (tup_not_tab h0 e)).trans e
section
variable {P : Program} {w : World} {K : PySem.W.Frag} {mg : Str → Option Value} {base : Heap} {f g cs Ps Pn : Addr} {fd gd : FuncData}
theorem scSwt : FnScope ["value", "name", "k"] ["value"] (defScope sSwt) := ⟨rfl, rfl, rfl, by decide +kernel, rfl, by decide +kernel, by decide +kernel⟩
theorem ok_swt {n : Nat} (F : FunC K "is_switches" "is_switches" sSwt f fd (.ref cs)) (TB : GxR.TabB base mg cs Ps) (mi : mg "isinstance" = none) (mt : mg "tuple" = none) (ml : mg "len" = none) (ma : mg "all" = none) (mr : mg "range" = none)
    (mN : ∃ t, mg "MAX_SWITCHES" = some (.int 5 t)) (G : FnOk P w K mg base CX0 n g gd ["value"] (spNm Pn)) (bG : Binds K gd ["value"] []) (kG : PySem.W.keepIn K (.ref g) = true) (mG : mg "_is_name" = some (.ref g)) :
    FnOk P w K mg base CX0 (n + 4) f fd ["value"] (spSwt Ps Pn) := by
  refine F.ok scSwt (fun vs H Q E h => ?_) (fun A outer s H vs Q E hr h => ?_)
  · obtain ⟨v, d, rfl, _⟩ := h
    rfl
  obtain ⟨v, d, rfl, hv, hz, hT, hTn, q⟩ := h
  refine ⟨_, pss_cons (ps_if (PW.pt (pw_or (pt_not (pt_val (pe_callB call_isi (by rfl) mi (by decide +kernel) (pa_cons (pv 0) (pa_cons (pe_bltn (v := .ty "tuple") (by rfl) mt (by decide +kernel) rfl) pa_nil)))))
        (pw_or1 (pt_not (pt_chain op_le op_le pe_int (pe_callB call_len_seq (by rfl) ml PySem.boot_len (pa_cons (pv 0) pa_nil)) (C8.pe_gc (v := .int 5) (by rfl) (by obtain ⟨t, e⟩ := mN; exact ⟨_, e, _, rfl⟩))))))) (pss_one (ps_ret pe_bl)) pss_nil)
    (pss_cons (ps_if (pt_not (pt_val (GX.pe_allX (P := Ps) (c := cs) (g := gName 1) (tt := tYes) (own := [("name", 1)]) hr (by rfl) ma scSwt.nd TB rfl (blkOk_by (own := [("name", 1)]) (N := ["value", "name", "k"]) (sc := defScope sSwt) (by decide +kernel)) (pi_tup (pv 0))
      (fun _ _ _ _ _ => pg_name (i := 1) scSwt.nd rfl (Or.inl rfl)) (fun _ _ _ _ _ => pts_nil) (fun _ _ _ _ _ => pe_call G (hr.in1.in1.deeper _) (by rfl) mG kG bG .nil pass0 (pa_cons (pv 1) pa_nil))))) (pss_one (ps_ret pe_bl)) pss_nil)
    (pss_one (ps_ret (GX.pe_allX (P := Ps) (c := cs) (g := gName 2) (tt := tYes) (own := [("k", 2)]) hr (by rfl) ma scSwt.nd TB rfl (blkOk_by (own := [("k", 2)]) (N := ["value", "name", "k"]) (sc := defScope sSwt) (by decide +kernel))
      (pi_range1 (by rfl) mr (pa_cons (pe_op op_sub (pe_callB call_len_seq (by rfl) ml PySem.boot_len (pa_cons (pv 0) pa_nil)) pe_int) pa_nil))
      (fun _ _ _ _ _ => pg_name (i := 2) scSwt.nd rfl (Or.inl rfl)) (fun _ _ _ _ _ => pts_nil) (fun _ _ _ _ _ => pe_cmpR op_lt_str (pe_ix (r := rIxT K) ix_tup (pv 0) (pv 2) (fun _ _ => rfl)) (pe_ix (r := rIxT K) ix_tup (pv 0) (pe_op op_add (pv 2) pe_int) (fun _ _ => rfl)) (by rfl)))))), ?_⟩
  refine ⟨_, rfl, _, _, _, _, _, rfl, .ty _, hv.ty, kit_tup d, _, rfl, ?_⟩
  have hTT : ∀ P ∈ [Ps, Pn], GxR.TabG H P := fun P hP => by
    rcases List.mem_cons.mp hP with e | e
    · rw [e]; exact hT
    · rw [List.mem_singleton.mp e]; exact hTn
  have no : isTup d = false → isSw d = false := fun e => by cases d <;> first | rfl | cases e
  cases hd : isTup d with
  | false =>
    rw [no hd] at q
    exact iteT (iteT (q H (Tabs.refl hT hTn)))
  | true =>
    obtain ⟨ds, rfl⟩ : ∃ x, d = .tuple x := by
      cases d <;> first | exact ⟨_, rfl⟩ | cases hd
    obtain ⟨a, xs, rfl, e1, e2⟩ := hv.of_tup
    have el := e2.length
    obtain ⟨hz1, hz2⟩ := hz ds rfl
    refine iteF ⟨_, rfl, a, xs, rfl, .inr (.inl e1), _, _, rfl, rfl, _, rfl, ite2 (fun c1 => ?_) (fun c1 => ?_)⟩
    · refine ⟨_, _, rfl, rfl, _, rfl, ite2 (fun c2 => ?_) (fun c2 => ?_)⟩
      · have e : isSw (.tuple ds) = false := by
          have c2' : ¬ (xs.length : Int) ≤ 5 := fun z => by
            rw [decide_eq_true z] at c2
            cases c2
          have c3 : ¬ ds.length ≤ 5 := fun z => c2' (by omega)
          show (decide (1 ≤ ds.length) && decide (ds.length ≤ 5) && ds.all isNm && asc ds) = false
          rw [decide_eq_false c3, Bool.and_false, Bool.false_and, Bool.false_and]
        rw [e] at q
        exact q H (Tabs.refl hT hTn)
      · have c1' : 1 ≤ ds.length := by
          have := of_decide_eq_true c1
          omega
        have c2' : ds.length ≤ 5 := by
          by_cases z : (xs.length : Int) ≤ 5
          · omega
          · rw [decide_eq_false z] at c2
            exact absurd rfl c2
        have e : isSw (.tuple ds) = (ds.all isNm && asc ds) := by
          show (decide (1 ≤ ds.length) && decide (ds.length ≤ 5) && ds.all isNm && asc ds) = _
          rw [decide_eq_true c1', decide_eq_true c2', Bool.true_and, Bool.true_and]
        rw [e] at q
        refine ⟨_, rfl, a, rfl, ⟨xs, .inl e1⟩, hT, fun H2 g2 => ?_⟩
        have t2 : Tabs [Ps, Pn] H H2 := (Tabs.refl hT hTn).step g2 List.mem_cons_self
        have str_of : ∀ {d : PyData}, isNm d = true → ∃ x, d = .str x := fun {d} h => by
          cases d <;> first | exact ⟨_, rfl⟩ | cases h
        refine GX.walk_tup (K := K) (xs := xs) (fun i H' => Tabs [Ps, Pn] H H' ∧ (ds.take i).all isNm = true) (fun i H' ⟨g, _⟩ => .inl (Tabs.rd hTT g e1)) (fun i x H3 hx ⟨g3, k3⟩ => ?_) (fun H3 ⟨g3, k3⟩ => ?_) ⟨t2, rfl⟩
        · have hi : i < ds.length := by
            have := (List.getElem?_eq_some_iff.mp hx).1
            omega
          obtain ⟨x', ex, hx'⟩ := e2.get (j := i) (d := ds[i]) (List.getElem?_eq_getElem hi)
          rw [hx] at ex
          cases ex
          have tk : ds.take (i + 1) = ds.take i ++ [ds[i]] := by rw [List.take_succ, List.getElem?_eq_getElem hi]; rfl
          refine ⟨rfl, _, rfl, x, ds[i], rfl, Dv.keep (Tabs.keepT hTT g3) _ _ hx', fun y hy => hz2 y (by rw [← hy]; exact List.getElem_mem hi), g3.1 Pn (by simp), fun H4 g4 => ⟨_, rfl, ?_⟩⟩
          have t4 := g3.step g4 (by simp)
          cases hn : isNm ds[i] with
          | false =>
            rw [if_pos rfl]
            have : ds.all isNm = false := by
              rw [Bool.eq_false_iff]
              intro z
              have := List.all_eq_true.mp z _ (List.getElem_mem hi)
              rw [hn] at this
              cases this
            rw [this, Bool.false_and] at q
            exact ⟨_, rfl, q _ t4⟩
          | true =>
            rw [if_neg (by decide)]
            refine ⟨t4, ?_⟩
            rw [tk, List.all_append, k3]
            show (true && (isNm ds[i] && true)) = true
            rw [hn]
            rfl
        · rw [el, List.take_length] at k3
          rw [k3, Bool.true_and] at q
          refine ⟨_, rfl, ?_⟩
          have e13 := Tabs.rd hTT g3 e1
          refine ⟨_, rfl, a, xs, rfl, .inr (.inl e13), _, _, rfl, rfl, _, rfl, by omega, by omega, g3.1 Ps (by simp), fun H4 g4 => ?_⟩
          have t4 := g3.step g4 (by simp)
          have hn : ((xs.length : Int) - 1).toNat = ds.length - 1 := by omega
          refine GX.walk_rng (lo := 0) (fun i H' => Tabs [Ps, Pn] H H' ∧ (List.range i).all (fun k => strLt (ds.getD k .none) (ds.getD (k + 1) .none)) = true) (fun i H5 hi ⟨g5, k5⟩ => ?_) (fun H5 ⟨g5, k5⟩ => ?_) ⟨t4, rfl⟩
          · have hi' : i + 1 < ds.length := by omega
            have hi0 : i < ds.length := by omega
            obtain ⟨x, ex⟩ := str_of (List.all_eq_true.mp k3 _ (List.getElem_mem hi0))
            obtain ⟨y, ey⟩ := str_of (List.all_eq_true.mp k3 _ (List.getElem_mem hi'))
            obtain ⟨vx, ix, hx⟩ := e2.get (j := i) (d := ds[i]) (List.getElem?_eq_getElem hi0)
            obtain ⟨vy, iy, hy⟩ := e2.get (j := i + 1) (d := ds[i + 1]) (List.getElem?_eq_getElem hi')
            rw [ex] at hx
            rw [ey] at hy
            cases hx.of_str
            cases hy.of_str
            have e15 : SqT K H5 a xs := .inl (Tabs.rd hTT g5 e1)
            have g1 : ds.getD i .none = .str x := by rw [List.getD_eq_getElem?_getD, List.getElem?_eq_getElem hi0]; exact ex
            have g2 : ds.getD (i + 1) .none = .str y := by rw [List.getD_eq_getElem?_getD, List.getElem?_eq_getElem hi']; exact ey
            have gl : strLt (ds.getD i .none) (ds.getD (i + 1) .none) = decide (x.cps.toList < y.cps.toList) := by rw [g1, g2]; rfl
            refine ⟨rfl, _, rfl, _, rfl, a, xs, _, _, rfl, rfl, e15, at_of (j := i) (by omega) ix, _, rfl, _, rfl, _, _, rfl, rfl, a, xs, _, _, rfl, rfl, e15, at_of (j := i + 1) (by omega) iy, x, y, rfl, rfl, _, rfl, ?_⟩
            cases hl : decide (x.cps.toList < y.cps.toList) with
            | false =>
              rw [if_pos rfl]
              have : asc ds = false := by
                rw [Bool.eq_false_iff]
                intro z
                have := List.all_eq_true.mp z i (List.mem_range.mpr (by omega))
                rw [gl, hl] at this
                cases this
              rw [this] at q
              exact q _ g5
            | true =>
              rw [if_neg (by decide)]
              refine ⟨g5, ?_⟩
              rw [List.range_succ, List.all_append, k5]
              show (true && (strLt (ds.getD i .none) (ds.getD (i + 1) .none) && true)) = true
              rw [gl, hl]
              rfl
          · rw [hn] at k5
            have : asc ds = true := k5
            rw [this] at q
            exact q _ g5
    · have c1' : ¬ 1 ≤ ds.length := fun z => c1 (decide_eq_true (by omega))
      have e : isSw (.tuple ds) = false := by
        show (decide (1 ≤ ds.length) && decide (ds.length ≤ 5) && ds.all isNm && asc ds) = false
        rw [decide_eq_false c1', Bool.false_and, Bool.false_and, Bool.false_and]
      rw [e] at q
      exact ⟨false, rfl, q H (Tabs.refl hT hTn)⟩
end
end Ver

/-! ## The formulas that a law draws -/
namespace Ver
open PySem L2
abbrev sGap : Stmt := top 26
abbrev sPart : Stmt := top 27
abbrev sBoth : Stmt := top 28
abbrev sEither : Stmt := top 29
abbrev sForm : Stmt := top 30
theorem sws_names {sw : List Str} (h : Sws sw) : ∀ x ∈ sw, (∀ c ∈ cl x, lett c = true) ∧ cl x ≠ [] ∧ x.length ≤ 6 ∧ PyData.strOk x = true := by
  have := h.all (p := fun l => l.all fun x => (cl x).all lett && !(cl x).isEmpty && decide (x.length ≤ 6) && PyData.strOk x) (by decide +kernel)
  intro x hx
  have k := List.all_eq_true.mp this x hx
  simp only [Bool.and_eq_true, List.all_eq_true, decide_eq_true_eq, Bool.not_eq_true', List.isEmpty_eq_false_iff] at k
  exact ⟨k.1.1.1, k.1.1.2, k.1.2, k.2⟩
theorem sws_len {sw : List Str} (h : Sws sw) : 1 ≤ sw.length ∧ sw.length ≤ 5 := by
  have := h.all (p := fun l => decide (1 ≤ l.length ∧ l.length ≤ 5)) (by decide +kernel)
  exact of_decide_eq_true this
def spGap : Sp := fun vs H Q _ => ∃ t l : Addr, vs = [.ref t] ∧ Tape H t l ∧ ∀ (x : Str) (H' : Hp), Gap (cl x) → x.length ≤ 2 → But t H H' → Tape H' t l → Q (.str x) H'
/-- a pair of a formula and its text -/
def FT (H : Hp) (s : List Str) (R : Fm → List (List Nat) → Prop) (L D S : Nat) (v : V) : Prop := ∃ (p : Addr) (vf : V) (f : Fm) (txt : Str), v = .ref p ∧ H p = some (.tup [vf, .str txt]) ∧ Dv H vf f.toD ∧ Drawn s R L D S f txt
def spGen (R : List Str → Fm → List (List Nat) → Prop) (L D S : Nat → Nat) : Nat → Sp
  | 0 => fun _ _ _ _ => False
  | n + 1 => fun vs H Q _ => ∃ (t l s : Addr) (sw : List Str) (deep : Int), vs = [.ref t, .ref s, .int deep] ∧ Tape H t l ∧ SwT H s sw ∧ Sws sw ∧ deep ≤ n ∧
    ∀ (v : V) (H' : Hp), FT H' sw (R sw) (L n) (D n) (S n) v → But t H H' → Tape H' t l → Q v H'
abbrev spPart := spGen TP lP dP sP
abbrev spBoth := spGen TB lB dB sB
abbrev spEither := spGen TE lE dE sE
def spForm : Sp := fun vs H Q _ => ∃ (t l s : Addr) (sw : List Str), vs = [.ref t, .ref s] ∧ Tape H t l ∧ SwT H s sw ∧ Sws sw ∧
  ∀ (v : V) (H' : Hp), FT H' sw (TE sw) 60 15 1457 v → But t H H' → Tape H' t l → Q v H'
theorem lP_mono : ∀ {m n : Nat}, m ≤ n → lP m ≤ lP n
  | 0, 0, _ => Nat.le_refl _
  | 0, n + 1, _ => by have := lP_mono (Nat.zero_le n); show 6 ≤ 9 * lP n + 46; omega
  | m + 1, n + 1, h => by have := lP_mono (Nat.le_of_succ_le_succ h); show 9 * lP m + 46 ≤ 9 * lP n + 46; omega
theorem Tape.tupne {H : Hp} {t l a : Addr} {xs : List V} (h : Tape H t l) (q : H a = some (.tup xs)) : a ≠ t := by
  obtain ⟨_, ⟨p, v, s, b, _, h1⟩, _⟩ := h
  rintro rfl
  rw [h1] at q
  cases q
theorem FT.keep {H H' : Hp} {s : List Str} {R : Fm → List (List Nat) → Prop} {L D S : Nat} {v : V} (h : FT H s R L D S v) (e : KeepT H H') : FT H' s R L D S v := by
  obtain ⟨p, vf, f, txt, rfl, h1, h2, h3⟩ := h
  exact ⟨p, vf, f, txt, rfl, e _ _ h1, Dv.keep e _ _ h2, h3⟩
section
variable {P : Program} {w : World} {K : PySem.W.Frag} {mg : Str → Option Value} {base : Heap} {f g e : Addr} {fd gd ed : FuncData}
theorem no_ok {sp : Sp} {ps : List Str} (no : ∀ vs H Q E, ¬ sp vs H Q E) : FnOk P w K mg base CX0 0 f fd ps sp :=
  ⟨fun vs H Q E h => absurd h (no vs H Q E), fun A outer s H args us vs Q E _ _ _ _ h => absurd h (no vs H Q E)⟩
theorem scGap : FnScope ["tape"] ["tape"] (defScope sGap) := ⟨rfl, rfl, rfl, by decide +kernel, rfl, by decide +kernel, by decide +kernel⟩
theorem scPart : FnScope ["tape", "switches", "deep", "draw", "name", "formula", "text"] ["tape", "switches", "deep"] (defScope sPart) := ⟨rfl, rfl, rfl, by decide +kernel, rfl, by decide +kernel, by decide +kernel⟩
theorem scBoth : FnScope ["tape", "switches", "deep", "formula", "text", "k", "other", "more"] ["tape", "switches", "deep"] (defScope sBoth) := ⟨rfl, rfl, rfl, by decide +kernel, rfl, by decide +kernel, by decide +kernel⟩
theorem scEither : FnScope ["tape", "switches", "deep", "formula", "text", "k", "other", "more"] ["tape", "switches", "deep"] (defScope sEither) := ⟨rfl, rfl, rfl, by decide +kernel, rfl, by decide +kernel, by decide +kernel⟩
theorem scForm : FnScope ["tape", "switches", "formula", "text"] ["tape", "switches"] (defScope sForm) := ⟨rfl, rfl, rfl, by decide +kernel, rfl, by decide +kernel, by decide +kernel⟩
theorem ok_gap (F : Fun K "_law_gap" "_law_gap" sGap f fd) (G : FnOk P w K mg base CX0 2 g gd ["tape", "many"] spTake) (bG : Binds K gd ["tape", "many"] []) (kG : PySem.W.keepIn K (.ref g) = true)
    (mG : mg "_law_take" = some (.ref g)) : FnOk P w K mg base CX0 3 f fd ["tape"] spGap := by
  refine F.ok scGap (fun vs H Q E h => ?_) (fun cdv A outer s H vs Q E hr h => ?_)
  · obtain ⟨t, l, rfl, _⟩ := h
    rfl
  obtain ⟨t, l, rfl, hT, q⟩ := h
  refine ⟨_, pss_one (ps_ret (pe_ix ix_list (pe_lst (pa_cons pe_str (pa_cons pe_str (pa_cons pe_str (pa_cons pe_str (pa_cons pe_str pa_nil)))))) (pe_call G hr rfl mG kG bG .nil pass0 (pa_cons (pv 0) (pa_cons pe_int pa_nil))) (fun _ _ => rfl))), ?_⟩
  refine ⟨(by show 5 ≤ sizeLine; decide), fun p hp => ?_⟩
  have g1 := same_new hp (.lst [.str "", .str "", .str "", .str " ", .str "  "])
  refine ⟨_, rfl, t, l, 5, rfl, hT.same g1, by decide, by decide, fun d H2 d0 d1 g2 hT2 => ?_⟩
  have e2 := g2 _ _ (hT.nt hp) (upd_same (a := p) (o := .lst [.str "", .str "", .str "", .str " ", .str "  "]))
  have g3 := (But.of g1 (t := t)).trans g2
  have k0 : Gap (cl "") := by show ∀ c ∈ cl "", c = 32; decide +kernel
  have k1 : Gap (cl " ") := by show ∀ c ∈ cl " ", c = 32; decide +kernel
  have k2 : Gap (cl "  ") := by show ∀ c ∈ cl "  ", c = 32; decide +kernel
  have c : d = 0 ∨ d = 1 ∨ d = 2 ∨ d = 3 ∨ d = 4 := by omega
  rcases c with rfl | rfl | rfl | rfl | rfl
  · exact ⟨p, _, _, _, rfl, rfl, SqL.of e2, rfl, q _ H2 k0 (by decide +kernel) g3 hT2⟩
  · exact ⟨p, _, _, _, rfl, rfl, SqL.of e2, rfl, q _ H2 k0 (by decide +kernel) g3 hT2⟩
  · exact ⟨p, _, _, _, rfl, rfl, SqL.of e2, rfl, q _ H2 k0 (by decide +kernel) g3 hT2⟩
  · exact ⟨p, _, _, _, rfl, rfl, SqL.of e2, rfl, q _ H2 k1 (by decide +kernel) g3 hT2⟩
  · exact ⟨p, _, _, _, rfl, rfl, SqL.of e2, rfl, q _ H2 k2 (by decide +kernel) g3 hT2⟩
theorem ok_part {n k : Nat} (hn : n ≤ 3) (h3 : 3 ≤ k) (F : Fun K "_law_part" "_law_part" sPart f fd) (GP : FnOk P w K mg base CX0 k f fd ["tape", "switches", "deep"] (spPart n)) (bP : Binds K fd ["tape", "switches", "deep"] []) (mP : mg "_law_part" = some (.ref f))
    (GE : FnOk P w K mg base CX0 k e ed ["tape", "switches", "deep"] (spEither n)) (bE : Binds K ed ["tape", "switches", "deep"] []) (kE : PySem.W.keepIn K (.ref e) = true) (mE : mg "_law_either" = some (.ref e))
    {a1 a2 : Addr} {d1 d2 : FuncData} (GT : FnOk P w K mg base CX0 2 a1 d1 ["tape", "many"] spTake) (bT : Binds K d1 ["tape", "many"] []) (kT : PySem.W.keepIn K (.ref a1) = true) (mT : mg "_law_take" = some (.ref a1))
    (GG : FnOk P w K mg base CX0 3 a2 d2 ["tape"] spGap) (bG : Binds K d2 ["tape"] []) (kG : PySem.W.keepIn K (.ref a2) = true) (mG : mg "_law_gap" = some (.ref a2)) (ml : mg "len" = none) :
    FnOk P w K mg base CX0 (k + 1) f fd ["tape", "switches", "deep"] (spPart (n + 1)) := by
  refine F.ok scPart (fun vs H Q E h => ?_) (fun cdv A outer s H vs Q E hr h => ?_)
  · obtain ⟨t, l, s, sw, deep, rfl, _⟩ := h
    rfl
  obtain ⟨t, l, s, sw, deep, rfl, hT, hs, hsw, hd, q⟩ := h
  have hr2 := hr.mono (show 2 ≤ k by omega)
  have hr3 := hr.mono h3
  refine ⟨_, pss_cons (ps_set (i := 3) scPart.nd rfl (.inl rfl) (pe_call GT hr2 rfl mT kT bT .nil pass0 (pa_cons (pv 0) (pa_cons pe_int pa_nil))))
    (pss_cons (ps_if (PT.weak (u := fun σ H Q => ∃ x y : Int, σ[3]? = some (some (.int x)) ∧ σ[2]? = some (some (.int y)) ∧ Q (decide (x < 5) || decide (y ≤ 0)) H) (PW.pt (pw_or (pt_cmpR op_lt (pv 3) pe_int (nomark _)) (pw_or1 (pt_cmpR op_le (pv 2) pe_int (nomark _))))) (fun σ H Q q => by
        obtain ⟨x, y, h1, h2, q⟩ := q
        exact ⟨_, h1, _, _, rfl, rfl, _, rfl, ite2 (fun c => by rw [c] at q; exact q) (fun c => ⟨_, h2, _, _, rfl, rfl, _, rfl, by rw [Bool.eq_false_iff.mpr c] at q; exact q⟩)⟩))
      (pss_cons (ps_set (i := 4) scPart.nd rfl (.inl rfl) (pe_ix ix_tup (pv 1) (pe_call GT hr2 rfl mT kT bT .nil pass0 (pa_cons (pv 0) (pa_cons (pe_callB call_len_seq (by rfl) ml PySem.boot_len (pa_cons (pv 1) pa_nil)) pa_nil))) (fun _ _ => rfl)))
      (pss_one (ps_ret (pe_tup (pa_cons (pe_tup (pa_cons pe_str (pa_cons (pv 4) pa_nil))) (pa_cons (pv 4) pa_nil)))))) pss_nil)
    (pss_cons (ps_if (pt_cmpR op_eq (pv 3) pe_int (nomark _)) (pss_one (ps_ret (pe_tup (pa_cons (pe_tup (pa_cons pe_str pa_nil)) (pa_cons pe_str pa_nil))))) pss_nil)
    (pss_cons (ps_if (pt_cmpR op_eq (pv 3) pe_int (nomark _)) (pss_one (ps_ret (pe_tup (pa_cons (pe_tup (pa_cons pe_str pa_nil)) (pa_cons pe_str pa_nil))))) pss_nil)
    (pss_cons (ps_if (pt_cmpR op_eq (pv 3) pe_int (nomark _))
      (pss_cons (ps_asg (pe_call GP hr rfl mP F.kp bP .nil pass0 (pa_cons (pv 0) (pa_cons (pv 1) (pa_cons (pe_op op_sub (pv 2) pe_int) pa_nil)))) (pg_tup rfl (pgs_cons (pg_name (i := 5) scPart.nd rfl (.inl rfl)) (pgs_cons (pg_name (i := 6) scPart.nd rfl (.inl rfl)) pgs_nil))))
      (pss_one (ps_ret (pe_tup (pa_cons (pe_tup (pa_cons pe_str (pa_cons (pv 5) pa_nil))) (pa_cons (pe_op op_add_str (pe_op op_add_str pe_str (pe_call GG hr3 rfl mG kG bG .nil pass0 (pa_cons (pv 0) pa_nil))) (pv 6)) pa_nil)))))) pss_nil)
    (pss_cons (ps_asg (pe_call GE hr rfl mE kE bE .nil pass0 (pa_cons (pv 0) (pa_cons (pv 1) (pa_cons (pe_op op_sub (pv 2) pe_int) pa_nil)))) (pg_tup rfl (pgs_cons (pg_name (i := 5) scPart.nd rfl (.inl rfl)) (pgs_cons (pg_name (i := 6) scPart.nd rfl (.inl rfl)) pgs_nil))))
    (pss_one (ps_ret (pe_tup (pa_cons (pv 5) (pa_cons (pe_op op_add_str (pe_op op_add_str (pe_op op_add_str (pe_op op_add_str pe_str (pe_call GG hr3 rfl mG kG bG .nil pass0 (pa_cons (pv 0) pa_nil))) (pv 6)) (pe_call GG hr3 rfl mG kG bG .nil pass0 (pa_cons (pv 0) pa_nil))) pe_str) pa_nil)))))))))), ?_⟩
  have p6 : 6 ≤ lP n := lP_mono (Nat.zero_le n)
  have dp1 : ∀ n, 1 ≤ dP n := fun n => by induction n with
    | zero => exact Nat.le_refl _
    | succ n ih => show 1 ≤ dP n + 5; omega
  have sp1 : ∀ n, 1 ≤ sP n := fun n => by induction n with
    | zero => exact Nat.le_refl _
    | succ n ih => show 1 ≤ 9 * sP n + 8; omega
  have small : lP n ≤ 10000 := Nat.le_trans (lP_mono hn) (by decide)
  have sz : ∀ m : Nat, m ≤ 100000 → m ≤ sizeLine := fun m h => Nat.le_trans h (by decide)
  refine ⟨_, rfl, t, l, 9, rfl, hT, by decide, by decide, fun dr H1 r0 r1 g1 hT1 => ?_⟩
  have hs1 := hs.but g1 hT
  obtain ⟨w1, w5⟩ := sws_len hsw
  refine ⟨dr, deep, rfl, rfl, ite2 (fun _ => ?_) (fun c => ?_)⟩
  · refine ⟨_, rfl, _, rfl, _, rfl, s, _, rfl, .inr hs1.sq, t, l, _, rfl, hT1, by rw [List.length_map]; omega, by rw [List.length_map]; omega, fun j H2 j0 j1 g2 hT2 => ?_⟩
    rw [List.length_map] at j1
    have hj : j.toNat < sw.length := by omega
    have ex : (sw.map V.str)[j.toNat]? = some (.str sw[j.toNat]) := by rw [List.getElem?_map, List.getElem?_eq_getElem hj]; rfl
    have hm := List.getElem_mem hj
    generalize sw[j.toNat] = x at ex hm
    refine ⟨s, _, j, _, rfl, rfl, (hs1.but g2 hT1).sq, at_of (by omega) ex, ?_⟩
    refine ⟨_, rfl, (by show 2 ≤ sizeLine; decide), fun u1 n1 => ⟨_, rfl, (by show 2 ≤ sizeLine; decide), fun u2 n2 => ?_⟩⟩
    have g3 := same_new n1 (.tup [.str "switch", .str x])
    have g4 := same_new n2 (.tup [.ref u1, .str x])
    obtain ⟨z1, z2, z3, _⟩ := sws_names hsw x hm
    refine q _ _ ⟨u2, .ref u1, .sw x, x, rfl, upd_same, Dv.tup (g4 _ _ upd_same) (DvAll.cons Dv.str (DvAll.cons Dv.str DvAll.nil)), (Drawn.name hm z1 z2 z3).mono (fun _ _ h => h) p6 (dp1 n) (sp1 n)⟩ (((g1.trans g2).trans (But.of g3)).trans (But.of g4)) ((hT2.same g3).same g4)
  rw [Bool.or_eq_true, decide_eq_true_eq, decide_eq_true_eq] at c
  have hdeep : ¬ deep ≤ 0 := fun z => c (.inr z)
  refine ⟨_, rfl, rfl, _, rfl, ite2 (fun _ => ?_) (fun _ => ?_)⟩
  · refine ⟨(by show 1 ≤ sizeLine; decide), fun u1 n1 => ⟨(by show 2 ≤ sizeLine; decide), fun u2 n2 => ?_⟩⟩
    have g3 := same_new n1 (.tup [.str "yes"])
    have g4 := same_new n2 (.tup [.ref u1, .str "1"])
    exact q _ _ ⟨u2, .ref u1, .yes, "1", rfl, upd_same, Dv.tup (g4 _ _ upd_same) (DvAll.cons Dv.str DvAll.nil), Drawn.yes.mono (fun _ _ h => h) p6 (dp1 n) (sp1 n)⟩ ((g1.trans (But.of g3)).trans (But.of g4)) ((hT1.same g3).same g4)
  refine ⟨_, rfl, rfl, _, rfl, ite2 (fun _ => ?_) (fun _ => ?_)⟩
  · refine ⟨(by show 1 ≤ sizeLine; decide), fun u1 n1 => ⟨(by show 2 ≤ sizeLine; decide), fun u2 n2 => ?_⟩⟩
    have g3 := same_new n1 (.tup [.str "no"])
    have g4 := same_new n2 (.tup [.ref u1, .str "0"])
    exact q _ _ ⟨u2, .ref u1, .no, "0", rfl, upd_same, Dv.tup (g4 _ _ upd_same) (DvAll.cons Dv.str DvAll.nil), Drawn.no.mono (fun _ _ h => h) p6 (dp1 n) (sp1 n)⟩ ((g1.trans (But.of g3)).trans (But.of g4)) ((hT1.same g3).same g4)
  obtain ⟨m, rfl⟩ : ∃ m, n = m + 1 := ⟨n - 1, by omega⟩
  have x1 : lP (m + 1) = 9 * lP m + 46 := rfl
  have x2 : dP (m + 1) = dP m + 5 := rfl
  have x3 : sP (m + 1) = 9 * sP m + 8 := rfl
  have x4 : lE m = 9 * lP m + 40 := rfl
  have x5 : dE m = dP m + 4 := rfl
  have x6 : sE m = 9 * sP m + 8 := rfl
  refine ⟨_, rfl, rfl, _, rfl, ite2 (fun _ => ?_) (fun _ => ?_)⟩
  · refine ⟨_, rfl, _, rfl, _, rfl, _, _, rfl, rfl, t, l, s, sw, deep - 1, rfl, hT1, hs1, hsw, by omega, fun v H2 hv g2 hT2 => ?_⟩
    obtain ⟨p, vf, f0, txt, rfl, e1, e2, e3⟩ := hv
    refine ⟨p, _, rfl, SqT.of e1, rfl, _, _, rfl, _, _, rfl, rfl, ?_⟩
    refine ⟨_, rfl, (by show 2 ≤ sizeLine; decide), fun u1 n1 => ?_⟩
    have g3 := same_new n1 (.tup [.str "not", vf])
    have hT3 := hT2.same g3
    refine ⟨_, rfl, t, l, rfl, hT3, fun x H4 k1 k2 g4 hT4 => ?_⟩
    have z := e3.len
    have l1 : ("!" : Str).length = 1 := rfl
    refine ⟨_, _, rfl, rfl, sz _ (by omega), _, rfl, _, _, rfl, rfl, sz _ (by (try simp only [Str.length_append]); omega), (by show 2 ≤ sizeLine; decide), fun u2 n2 => ?_⟩
    have g5 := same_new n2 (.tup [.ref u1, .str ("!" ++ x ++ txt)])
    have kT : KeepT H2 (upd H4 u2 (.tup [.ref u1, .str ("!" ++ x ++ txt)])) := fun a xs h => g5 _ _ (g4.keepT hT3 _ _ (g3 _ _ h))
    refine q _ _ ⟨u2, .ref u1, .not f0, _, rfl, upd_same, Dv.tup (g5 _ _ (g4.keepT hT3 _ _ upd_same)) (DvAll.cons Dv.str (DvAll.cons (Dv.keep kT _ _ e2) DvAll.nil)), (e3.not k1 k2).mono (fun _ _ h => h) (by omega) (by omega) (by omega)⟩ ((((g1.trans g2).trans (But.of g3)).trans g4).trans (But.of g5)) (hT4.same g5)
  · refine ⟨_, rfl, _, rfl, _, rfl, _, _, rfl, rfl, t, l, s, sw, deep - 1, rfl, hT1, hs1, hsw, by omega, fun v H2 hv g2 hT2 => ?_⟩
    obtain ⟨p, vf, f0, txt, rfl, e1, e2, e3⟩ := hv
    refine ⟨p, _, rfl, SqT.of e1, rfl, _, _, rfl, _, _, rfl, rfl, ?_⟩
    refine ⟨_, rfl, _, rfl, t, l, rfl, hT2, fun x H4 k1 k2 g4 hT4 => ?_⟩
    have z := e3.len
    have l1 : ("(" : Str).length = 1 := rfl
    have l2 : (")" : Str).length = 1 := rfl
    refine ⟨_, _, rfl, rfl, sz _ (by omega), _, rfl, _, _, rfl, rfl, sz _ (by (try simp only [Str.length_append]); omega), ?_⟩
    refine ⟨_, rfl, t, l, rfl, hT4, fun y H5 k3 k4 g5 hT5 => ?_⟩
    refine ⟨_, _, rfl, rfl, sz _ (by (try simp only [Str.length_append]); omega), _, _, rfl, rfl, sz _ (by (try simp only [Str.length_append]); omega), (by show 2 ≤ sizeLine; decide), fun u2 n2 => ?_⟩
    have g6 := same_new n2 (.tup [vf, .str ("(" ++ x ++ txt ++ y ++ ")")])
    have kT : KeepT H2 (upd H5 u2 (.tup [vf, .str ("(" ++ x ++ txt ++ y ++ ")")])) := fun a xs h => g6 _ _ (g5.keepT hT4 _ _ (g4.keepT hT2 _ _ h))
    refine q _ _ ⟨u2, vf, f0, _, rfl, upd_same, Dv.keep kT _ _ e2, (e3.par k1 k2 k3 k4).mono (fun _ _ h => h) (by omega) (by omega) (by omega)⟩ ((((g1.trans g2).trans g4).trans g5).trans (But.of g6)) (hT5.same g6)
theorem ok_both {n k : Nat} (hn : n ≤ 3) (h3 : 3 ≤ k) (F : Fun K "_law_both" "_law_both" sBoth f fd) (GP : FnOk P w K mg base CX0 k g gd ["tape", "switches", "deep"] (spPart (n + 1))) (bP : Binds K gd ["tape", "switches", "deep"] []) (kP : PySem.W.keepIn K (.ref g) = true) (mP : mg "_law_part" = some (.ref g))
    {a1 a2 : Addr} {d1 d2 : FuncData} (GT : FnOk P w K mg base CX0 2 a1 d1 ["tape", "many"] spTake) (bT : Binds K d1 ["tape", "many"] []) (kT : PySem.W.keepIn K (.ref a1) = true) (mT : mg "_law_take" = some (.ref a1))
    (GG : FnOk P w K mg base CX0 3 a2 d2 ["tape"] spGap) (bG : Binds K d2 ["tape"] []) (kG : PySem.W.keepIn K (.ref a2) = true) (mG : mg "_law_gap" = some (.ref a2)) (mr : mg "range" = none) :
    FnOk P w K mg base CX0 (k + 1) f fd ["tape", "switches", "deep"] (spBoth (n + 1)) := by
  refine F.ok scBoth (fun vs H Q E h => ?_) (fun cdv A outer s H vs Q E hr h => ?_)
  · obtain ⟨t, l, s, sw, deep, rfl, _⟩ := h
    rfl
  obtain ⟨t, l, s, sw, deep, rfl, hT, hs, hsw, hd, q⟩ := h
  have hr2 := hr.mono (show 2 ≤ k by omega)
  have hr3 := hr.mono h3
  refine ⟨_, pss_cons (ps_asg (pe_call GP hr rfl mP kP bP .nil pass0 (pa_cons (pv 0) (pa_cons (pv 1) (pa_cons (pv 2) pa_nil)))) (pg_tup rfl (pgs_cons (pg_name (i := 3) scBoth.nd rfl (.inl rfl)) (pgs_cons (pg_name (i := 4) scBoth.nd rfl (.inl rfl)) pgs_nil))))
    (pss_cons (ps_for PassesOwn.never rfl (pi_range1 rfl mr (pa_cons (pe_call GT hr2 rfl mT kT bT .nil pass0 (pa_cons (pv 0) (pa_cons pe_int pa_nil))) pa_nil)) (pg_name (i := 5) scBoth.nd rfl (.inl rfl))
      (pss_cons (ps_asg (pe_call GP hr rfl mP kP bP .nil pass0 (pa_cons (pv 0) (pa_cons (pv 1) (pa_cons (pe_op op_sub (pv 2) pe_int) pa_nil)))) (pg_tup rfl (pgs_cons (pg_name (i := 6) scBoth.nd rfl (.inl rfl)) (pgs_cons (pg_name (i := 7) scBoth.nd rfl (.inl rfl)) pgs_nil))))
      (pss_cons (ps_set (i := 3) scBoth.nd rfl (.inl rfl) (pe_tup (pa_cons pe_str (pa_cons (pv 3) (pa_cons (pv 6) pa_nil)))))
      (pss_one (ps_set (i := 4) scBoth.nd rfl (.inl rfl) (pe_op op_add_str (pe_op op_add_str (pe_op op_add_str (pe_op op_add_str (pv 4) (pe_call GG hr3 rfl mG kG bG .nil pass0 (pa_cons (pv 0) pa_nil))) pe_str) (pe_call GG hr3 rfl mG kG bG .nil pass0 (pa_cons (pv 0) pa_nil))) (pv 7)))))))
    (pss_one (ps_ret (pe_tup (pa_cons (pv 3) (pa_cons (pv 4) pa_nil)))))), ?_⟩
  have small : lP n ≤ 10000 := Nat.le_trans (lP_mono hn) (by decide)
  have sz : ∀ m : Nat, m ≤ 1000000 → m ≤ sizeLine := fun m h => Nat.le_trans h (by decide)
  have l1 : ("&" : Str).length = 1 := rfl
  have q1 : lB n = 3 * lP n + 10 := rfl
  have q2 : dB n = dP n + 2 := rfl
  have q3 : sB n = 3 * sP n + 2 := rfl
  have q4 : lE n = 9 * lP n + 40 := rfl
  have q5 : dE n = dP n + 4 := rfl
  have q6 : sE n = 9 * sP n + 8 := rfl
  refine ⟨_, rfl, _, rfl, _, rfl, t, l, s, sw, deep, rfl, hT, hs, hsw, hd, fun v H1 hv g1 hT1 => ?_⟩
  obtain ⟨p, vf, f0, txt, rfl, e1, e2, e3⟩ := hv
  refine ⟨p, _, rfl, SqT.of e1, rfl, _, _, rfl, _, _, rfl, rfl, ?_⟩
  refine ⟨_, rfl, t, l, 3, rfl, hT1, by decide, by decide, fun d H2 d0 d1 g2 hT2 => ?_⟩
  refine ⟨_, rfl, by omega, by omega, ?_⟩
  have g12 := g1.trans g2
  have hd3 : d.toNat ≤ 2 := by omega
  refine for_range (lo := 0) (n := d.toNat) (fun i σ H' => ∃ (vf' : V) (f' : Fm) (txt' : Str) (c5 c6 c7 : Option V), σ = [some (.ref t), some (.ref s), some (.int deep), some vf', some (.str txt'), c5, c6, c7] ∧ But t H H' ∧ Tape H' t l ∧ Dv H' vf' f'.toD ∧
      Drawn sw (TB sw) (lP n + i * (lP n + 5)) (dP n + i) (sP n + i * (sP n + 1)) f' txt') ?_ ?_ ?_
  · exact ⟨vf, f0, txt, none, none, none, rfl, g12, hT2, Dv.keep (g2.keepT hT1) _ _ e2, e3.mono (fun _ _ h => .one h) (by omega) (by omega) (by omega)⟩
  · rintro i σ H3 hi ⟨vf', f', txt', c5, c6, c7, rfl, g3, hT3, k1, k2⟩
    have hi2 : i ≤ 1 := by omega
    refine ⟨_, rfl, _, rfl, _, rfl, _, _, rfl, rfl, t, l, s, sw, deep - 1, rfl, hT3, hs.but g3 hT, hsw, by omega, fun v' H4 hv' g4 hT4 => ?_⟩
    obtain ⟨p', vg, f2, txt2, rfl, m1, m2, m3⟩ := hv'
    refine ⟨p', _, rfl, SqT.of m1, rfl, _, _, rfl, _, _, rfl, rfl, ?_⟩
    refine ⟨_, rfl, _, rfl, (by show 3 ≤ sizeLine; decide), fun r hr' => ?_⟩
    have g5 := same_new hr' (.tup [.str "and", vf', vg])
    have hT5 := hT4.same g5
    have kd : Dv (upd H4 r (.tup [.str "and", vf', vg])) (.ref r) (Fm.and f' f2).toD := Dv.tup upd_same (DvAll.cons Dv.str (DvAll.cons (Dv.keep (KeepT.of g5) _ _ (Dv.keep (g4.keepT hT3) _ _ k1)) (DvAll.cons (Dv.keep (KeepT.of g5) _ _ m2) DvAll.nil)))
    have n1 := k2.len
    have n2 := m3.len
    have n3 : i * (lP n + 5) ≤ lP n + 5 := by
      have : i * (lP n + 5) ≤ 1 * (lP n + 5) := Nat.mul_le_mul_right _ hi2
      omega
    refine ⟨_, rfl, _, rfl, t, l, rfl, hT5, fun x1 H6 x2 x3 g6 hT6 => ?_⟩
    refine ⟨_, _, rfl, rfl, sz _ (by omega), _, _, rfl, rfl, sz _ (by (try simp only [Str.length_append]); omega), _, rfl, t, l, rfl, hT6, fun y1 H7 y2 y3 g7 hT7 => ?_⟩
    refine ⟨_, _, rfl, rfl, sz _ (by (try simp only [Str.length_append]); omega), _, rfl, _, _, rfl, rfl, sz _ (by (try simp only [Str.length_append]); omega), ?_⟩
    refine ⟨.ref r, Fm.and f' f2, _, _, _, _, rfl, (((g3.trans g4).trans (But.of g5)).trans g6).trans g7, hT7, Dv.keep (g7.keepT hT6) _ _ (Dv.keep (g6.keepT hT5) _ _ kd), ?_⟩
    refine (k2.and m3 x2 x3 y2 y3).mono (fun _ _ h => h) ?_ ?_ ?_
    · rw [Nat.add_mul]
      omega
    · omega
    · rw [Nat.add_mul]
      omega
  · rintro σ H3 ⟨vf', f', txt', c5, c6, c7, rfl, g3, hT3, k1, k2⟩
    refine ⟨_, rfl, _, rfl, (by show 2 ≤ sizeLine; decide), fun r hr' => ?_⟩
    have g5 := same_new hr' (.tup [vf', .str txt'])
    refine q _ _ ⟨r, vf', f', txt', rfl, upd_same, Dv.keep (KeepT.of g5) _ _ k1, k2.mono (fun _ _ h => h) ?_ ?_ ?_⟩ (g3.trans (But.of g5)) (hT3.same g5)
    · have : d.toNat * (lP n + 5) ≤ 2 * (lP n + 5) := Nat.mul_le_mul_right _ hd3
      omega
    · omega
    · have : d.toNat * (sP n + 1) ≤ 2 * (sP n + 1) := Nat.mul_le_mul_right _ hd3
      omega
theorem ok_either {n k : Nat} (hn : n ≤ 3) (h3 : 3 ≤ k) (F : Fun K "_law_either" "_law_either" sEither f fd) (GP : FnOk P w K mg base CX0 k g gd ["tape", "switches", "deep"] (spBoth (n + 1))) (bP : Binds K gd ["tape", "switches", "deep"] []) (kP : PySem.W.keepIn K (.ref g) = true) (mP : mg "_law_both" = some (.ref g))
    {a1 a2 : Addr} {d1 d2 : FuncData} (GT : FnOk P w K mg base CX0 2 a1 d1 ["tape", "many"] spTake) (bT : Binds K d1 ["tape", "many"] []) (kT : PySem.W.keepIn K (.ref a1) = true) (mT : mg "_law_take" = some (.ref a1))
    (GG : FnOk P w K mg base CX0 3 a2 d2 ["tape"] spGap) (bG : Binds K d2 ["tape"] []) (kG : PySem.W.keepIn K (.ref a2) = true) (mG : mg "_law_gap" = some (.ref a2)) (mr : mg "range" = none) :
    FnOk P w K mg base CX0 (k + 1) f fd ["tape", "switches", "deep"] (spEither (n + 1)) := by
  refine F.ok scEither (fun vs H Q E h => ?_) (fun cdv A outer s H vs Q E hr h => ?_)
  · obtain ⟨t, l, s, sw, deep, rfl, _⟩ := h
    rfl
  obtain ⟨t, l, s, sw, deep, rfl, hT, hs, hsw, hd, q⟩ := h
  have hr2 := hr.mono (show 2 ≤ k by omega)
  have hr3 := hr.mono h3
  refine ⟨_, pss_cons (ps_asg (pe_call GP hr rfl mP kP bP .nil pass0 (pa_cons (pv 0) (pa_cons (pv 1) (pa_cons (pv 2) pa_nil)))) (pg_tup rfl (pgs_cons (pg_name (i := 3) scEither.nd rfl (.inl rfl)) (pgs_cons (pg_name (i := 4) scEither.nd rfl (.inl rfl)) pgs_nil))))
    (pss_cons (ps_for PassesOwn.never rfl (pi_range1 rfl mr (pa_cons (pe_call GT hr2 rfl mT kT bT .nil pass0 (pa_cons (pv 0) (pa_cons pe_int pa_nil))) pa_nil)) (pg_name (i := 5) scEither.nd rfl (.inl rfl))
      (pss_cons (ps_asg (pe_call GP hr rfl mP kP bP .nil pass0 (pa_cons (pv 0) (pa_cons (pv 1) (pa_cons (pe_op op_sub (pv 2) pe_int) pa_nil)))) (pg_tup rfl (pgs_cons (pg_name (i := 6) scEither.nd rfl (.inl rfl)) (pgs_cons (pg_name (i := 7) scEither.nd rfl (.inl rfl)) pgs_nil))))
      (pss_cons (ps_set (i := 3) scEither.nd rfl (.inl rfl) (pe_tup (pa_cons pe_str (pa_cons (pv 3) (pa_cons (pv 6) pa_nil)))))
      (pss_one (ps_set (i := 4) scEither.nd rfl (.inl rfl) (pe_op op_add_str (pe_op op_add_str (pe_op op_add_str (pe_op op_add_str (pv 4) (pe_call GG hr3 rfl mG kG bG .nil pass0 (pa_cons (pv 0) pa_nil))) pe_str) (pe_call GG hr3 rfl mG kG bG .nil pass0 (pa_cons (pv 0) pa_nil))) (pv 7)))))))
    (pss_one (ps_ret (pe_tup (pa_cons (pv 3) (pa_cons (pv 4) pa_nil)))))), ?_⟩
  have small : lP n ≤ 10000 := Nat.le_trans (lP_mono hn) (by decide)
  have sz : ∀ m : Nat, m ≤ 1000000 → m ≤ sizeLine := fun m h => Nat.le_trans h (by decide)
  have l1 : ("|" : Str).length = 1 := rfl
  have q1 : lB n = 3 * lP n + 10 := rfl
  have q2 : dB n = dP n + 2 := rfl
  have q3 : sB n = 3 * sP n + 2 := rfl
  have q4 : lE n = 9 * lP n + 40 := rfl
  have q5 : dE n = dP n + 4 := rfl
  have q6 : sE n = 9 * sP n + 8 := rfl
  refine ⟨_, rfl, _, rfl, _, rfl, t, l, s, sw, deep, rfl, hT, hs, hsw, hd, fun v H1 hv g1 hT1 => ?_⟩
  obtain ⟨p, vf, f0, txt, rfl, e1, e2, e3⟩ := hv
  refine ⟨p, _, rfl, SqT.of e1, rfl, _, _, rfl, _, _, rfl, rfl, ?_⟩
  refine ⟨_, rfl, t, l, 3, rfl, hT1, by decide, by decide, fun d H2 d0 d1 g2 hT2 => ?_⟩
  refine ⟨_, rfl, by omega, by omega, ?_⟩
  have g12 := g1.trans g2
  have hd3 : d.toNat ≤ 2 := by omega
  refine for_range (lo := 0) (n := d.toNat) (fun i σ H' => ∃ (vf' : V) (f' : Fm) (txt' : Str) (c5 c6 c7 : Option V), σ = [some (.ref t), some (.ref s), some (.int deep), some vf', some (.str txt'), c5, c6, c7] ∧ But t H H' ∧ Tape H' t l ∧ Dv H' vf' f'.toD ∧
      Drawn sw (TE sw) (lB n + i * (lB n + 5)) (dB n + i) (sB n + i * (sB n + 1)) f' txt') ?_ ?_ ?_
  · exact ⟨vf, f0, txt, none, none, none, rfl, g12, hT2, Dv.keep (g2.keepT hT1) _ _ e2, e3.mono (fun _ _ h => .one h) (by omega) (by omega) (by omega)⟩
  · rintro i σ H3 hi ⟨vf', f', txt', c5, c6, c7, rfl, g3, hT3, k1, k2⟩
    have hi2 : i ≤ 1 := by omega
    refine ⟨_, rfl, _, rfl, _, rfl, _, _, rfl, rfl, t, l, s, sw, deep - 1, rfl, hT3, hs.but g3 hT, hsw, by omega, fun v' H4 hv' g4 hT4 => ?_⟩
    obtain ⟨p', vg, f2, txt2, rfl, m1, m2, m3⟩ := hv'
    refine ⟨p', _, rfl, SqT.of m1, rfl, _, _, rfl, _, _, rfl, rfl, ?_⟩
    refine ⟨_, rfl, _, rfl, (by show 3 ≤ sizeLine; decide), fun r hr' => ?_⟩
    have g5 := same_new hr' (.tup [.str "or", vf', vg])
    have hT5 := hT4.same g5
    have kd : Dv (upd H4 r (.tup [.str "or", vf', vg])) (.ref r) (Fm.or f' f2).toD := Dv.tup upd_same (DvAll.cons Dv.str (DvAll.cons (Dv.keep (KeepT.of g5) _ _ (Dv.keep (g4.keepT hT3) _ _ k1)) (DvAll.cons (Dv.keep (KeepT.of g5) _ _ m2) DvAll.nil)))
    have n1 := k2.len
    have n2 := m3.len
    have n3 : i * (lB n + 5) ≤ lB n + 5 := by
      have : i * (lB n + 5) ≤ 1 * (lB n + 5) := Nat.mul_le_mul_right _ hi2
      omega
    refine ⟨_, rfl, _, rfl, t, l, rfl, hT5, fun x1 H6 x2 x3 g6 hT6 => ?_⟩
    refine ⟨_, _, rfl, rfl, sz _ (by omega), _, _, rfl, rfl, sz _ (by (try simp only [Str.length_append]); omega), _, rfl, t, l, rfl, hT6, fun y1 H7 y2 y3 g7 hT7 => ?_⟩
    refine ⟨_, _, rfl, rfl, sz _ (by (try simp only [Str.length_append]); omega), _, rfl, _, _, rfl, rfl, sz _ (by (try simp only [Str.length_append]); omega), ?_⟩
    refine ⟨.ref r, Fm.or f' f2, _, _, _, _, rfl, (((g3.trans g4).trans (But.of g5)).trans g6).trans g7, hT7, Dv.keep (g7.keepT hT6) _ _ (Dv.keep (g6.keepT hT5) _ _ kd), ?_⟩
    refine (k2.or m3 x2 x3 y2 y3).mono (fun _ _ h => h) ?_ ?_ ?_
    · rw [Nat.add_mul]
      omega
    · omega
    · rw [Nat.add_mul]
      omega
  · rintro σ H3 ⟨vf', f', txt', c5, c6, c7, rfl, g3, hT3, k1, k2⟩
    refine ⟨_, rfl, _, rfl, (by show 2 ≤ sizeLine; decide), fun r hr' => ?_⟩
    have g5 := same_new hr' (.tup [vf', .str txt'])
    refine q _ _ ⟨r, vf', f', txt', rfl, upd_same, Dv.keep (KeepT.of g5) _ _ k1, k2.mono (fun _ _ h => h) ?_ ?_ ?_⟩ (g3.trans (But.of g5)) (hT3.same g5)
    · have : d.toNat * (lB n + 5) ≤ 2 * (lB n + 5) := Nat.mul_le_mul_right _ hd3
      omega
    · omega
    · have : d.toNat * (sB n + 1) ≤ 2 * (sB n + 1) := Nat.mul_le_mul_right _ hd3
      omega
theorem ok_gens {a1 a2 a3 a4 a5 : Addr} {d1 d2 d3 d4 d5 : FuncData} (FP : Fun K "_law_part" "_law_part" sPart a3 d3) (bP : Binds K d3 ["tape", "switches", "deep"] []) (mP : mg "_law_part" = some (.ref a3))
    (FB : Fun K "_law_both" "_law_both" sBoth a4 d4) (bB : Binds K d4 ["tape", "switches", "deep"] []) (mB : mg "_law_both" = some (.ref a4))
    (FE : Fun K "_law_either" "_law_either" sEither a5 d5) (bE : Binds K d5 ["tape", "switches", "deep"] []) (mE : mg "_law_either" = some (.ref a5))
    (GT : FnOk P w K mg base CX0 2 a1 d1 ["tape", "many"] spTake) (bT : Binds K d1 ["tape", "many"] []) (kT : PySem.W.keepIn K (.ref a1) = true) (mT : mg "_law_take" = some (.ref a1))
    (GG : FnOk P w K mg base CX0 3 a2 d2 ["tape"] spGap) (bG : Binds K d2 ["tape"] []) (kG : PySem.W.keepIn K (.ref a2) = true) (mG : mg "_law_gap" = some (.ref a2)) (ml : mg "len" = none) (mr : mg "range" = none) :
    ∀ n, n ≤ 3 → FnOk P w K mg base CX0 (3 * n + 4) a3 d3 ["tape", "switches", "deep"] (spPart (n + 1)) ∧ FnOk P w K mg base CX0 (3 * n + 6) a5 d5 ["tape", "switches", "deep"] (spEither (n + 1))
  | 0, _ => by
    have p0 : FnOk P w K mg base CX0 3 a3 d3 ["tape", "switches", "deep"] (spPart 0) := FnOk.mono (no_ok fun _ _ _ _ h => h) (by decide)
    have e0 : FnOk P w K mg base CX0 3 a5 d5 ["tape", "switches", "deep"] (spEither 0) := FnOk.mono (no_ok fun _ _ _ _ h => h) (by decide)
    have p1 := ok_part (by decide) (by decide) FP p0 bP mP e0 bE FE.kp mE GT bT kT mT GG bG kG mG ml
    have b1 := ok_both (by decide) (by decide) FB p1 bP FP.kp mP GT bT kT mT GG bG kG mG mr
    exact ⟨p1, ok_either (by decide) (by decide) FE b1 bB FB.kp mB GT bT kT mT GG bG kG mG mr⟩
  | n + 1, h => by
    obtain ⟨ihp, ihe⟩ := ok_gens FP bP mP FB bB mB FE bE mE GT bT kT mT GG bG kG mG ml mr n (by omega)
    have p1 := ok_part (n := n + 1) (k := 3 * n + 6) (by omega) (by omega) FP (FnOk.mono ihp (by omega)) bP mP ihe bE FE.kp mE GT bT kT mT GG bG kG mG ml
    have b1 := ok_both (n := n + 1) (k := 3 * n + 7) (by omega) (by omega) FB p1 bP FP.kp mP GT bT kT mT GG bG kG mG mr
    exact ⟨p1, ok_either (n := n + 1) (k := 3 * n + 8) (by omega) (by omega) FE b1 bB FB.kp mB GT bT kT mT GG bG kG mG mr⟩
theorem ok_form {k : Nat} (F : Fun K "_law_formula" "_law_formula" sForm f fd) (GE : FnOk P w K mg base CX0 k g gd ["tape", "switches", "deep"] (spEither 3)) (bE : Binds K gd ["tape", "switches", "deep"] []) (kE : PySem.W.keepIn K (.ref g) = true) (mE : mg "_law_either" = some (.ref g)) (ml : mg "len" = none) :
    FnOk P w K mg base CX0 (k + 1) f fd ["tape", "switches"] spForm := by
  refine F.ok scForm (fun vs H Q E h => ?_) (fun cdv A outer s H vs Q E hr h => ?_)
  · obtain ⟨t, l, s, sw, rfl, _⟩ := h
    rfl
  obtain ⟨t, l, s, sw, rfl, hT, hs, hsw, q⟩ := h
  refine ⟨_, pss_cons (ps_asg (pe_call GE hr rfl mE kE bE .nil pass0 (pa_cons (pv 0) (pa_cons (pv 1) (pa_cons pe_int pa_nil)))) (pg_tup rfl (pgs_cons (pg_name (i := 2) scForm.nd rfl (.inl rfl)) (pgs_cons (pg_name (i := 3) scForm.nd rfl (.inl rfl)) pgs_nil))))
    (pss_one (ps_ret (pe_ifExp (pt_cmpR op_le (pe_callB call_len_str (by rfl) ml PySem.boot_len (pa_cons (pv 3) pa_nil)) pe_int (nomark _)) (pe_tup (pa_cons (pv 2) (pa_cons (pv 3) pa_nil))) (pe_tup (pa_cons (pe_tup (pa_cons pe_str pa_nil)) (pa_cons pe_str pa_nil)))))), ?_⟩
  refine ⟨_, rfl, _, rfl, t, l, s, sw, 2, rfl, hT, hs, hsw, by decide, fun v H1 hv g1 hT1 => ?_⟩
  obtain ⟨p, vf, f0, txt, rfl, e1, e2, e3⟩ := hv
  refine ⟨p, _, rfl, SqT.of e1, rfl, _, _, rfl, _, _, rfl, rfl, ?_⟩
  have c1 : lE 2 = 8554 := by decide
  have c2 : dE 2 = 15 := by decide
  have c3 : sE 2 = 1457 := by decide
  refine ⟨_, rfl, txt, rfl, Nat.le_trans (Nat.le_trans e3.len (Nat.le_of_eq c1)) (by decide), _, _, rfl, rfl, _, rfl, ite2 (fun c => ?_) (fun _ => ?_)⟩
  · have hl : txt.length ≤ 60 := by
      have c := of_decide_eq_true c
      omega
    refine ⟨_, rfl, _, rfl, (by show 2 ≤ sizeLine; decide), fun r hr' => ?_⟩
    have g5 := same_new hr' (.tup [vf, .str txt])
    exact q _ _ ⟨r, vf, f0, txt, rfl, upd_same, Dv.keep (KeepT.of g5) _ _ e2, e3.rel, e3.over, hl, Nat.le_trans e3.dep (Nat.le_of_eq c2), Nat.le_trans e3.size (Nat.le_of_eq c3)⟩ (g1.trans (But.of g5)) (hT1.same g5)
  · refine ⟨(by show 1 ≤ sizeLine; decide), fun u1 n1 => ⟨(by show 2 ≤ sizeLine; decide), fun u2 n2 => ?_⟩⟩
    have g3 := same_new n1 (.tup [.str "yes"])
    have g4 := same_new n2 (.tup [.ref u1, .str "1"])
    exact q _ _ ⟨u2, .ref u1, .yes, "1", rfl, upd_same, Dv.tup (g4 _ _ upd_same) (DvAll.cons Dv.str DvAll.nil), Drawn.yes.mono (fun _ _ h => .one (.one h)) (by decide) (by decide) (by decide)⟩ ((g1.trans (But.of g3)).trans (But.of g4)) ((hT1.same g3).same g4)
end
end Ver

/-! ## Configurations: the mathematics -/
namespace Ver
open PySem L2
def confs : Nat → List (List Int)
  | 0 => [[]]
  | n + 1 => (confs n).flatMap fun r => [r ++ [0], r ++ [1]]
def confD (r : List Int) : PyData := .tuple (r.map PyData.int)
theorem confs_len : ∀ n, (confs n).length = 2 ^ n
  | 0 => rfl
  | n + 1 => by
    show ((confs n).flatMap fun r => [r ++ [0], r ++ [1]]).length = _
    have : ∀ l : List (List Int), (l.flatMap fun r => [r ++ [0], r ++ [1]]).length = 2 * l.length := by
      intro l
      induction l with
      | nil => rfl
      | cons a l ih => rw [List.flatMap_cons, List.length_append, ih, List.length_cons, List.length_cons, List.length_cons, List.length_nil]; omega
    rw [this, confs_len n, Nat.pow_succ]
    omega
theorem confs_row : ∀ n, ∀ r ∈ confs n, r.length = n ∧ ∀ b ∈ r, b = 0 ∨ b = 1
  | 0, r, h => by
    rw [List.mem_singleton.mp h]
    exact ⟨rfl, fun _ h => by cases h⟩
  | n + 1, r, h => by
    obtain ⟨q, hq, hr⟩ := List.mem_flatMap.mp h
    obtain ⟨k1, k2⟩ := confs_row n q hq
    have : ∃ b : Int, (b = 0 ∨ b = 1) ∧ r = q ++ [b] := by
      rcases List.mem_cons.mp hr with e | e
      · exact ⟨0, .inl rfl, e⟩
      · exact ⟨1, .inr rfl, List.mem_singleton.mp e⟩
    obtain ⟨b, hb, rfl⟩ := this
    refine ⟨by rw [List.length_append, k1]; rfl, fun c hc => ?_⟩
    rcases List.mem_append.mp hc with z | z
    · exact k2 c z
    · rw [List.mem_singleton.mp z]
      exact hb
theorem flatMap_take {α β : Type} (f : α → List β) (l : List α) {i : Nat} {x : α} (h : l[i]? = some x) : (l.take (i + 1)).flatMap f = (l.take i).flatMap f ++ f x := by
  rw [List.take_succ, h, List.flatMap_append]
  show _ ++ (f x ++ []) = _
  rw [List.append_nil]
theorem confs_take_len (n i : Nat) : (((confs n).take i).flatMap fun r => [r ++ [0], r ++ [1]]).length ≤ 2 * 2 ^ n := by
  have : ∀ l : List (List Int), (l.flatMap fun r => [r ++ [0], r ++ [1]]).length = 2 * l.length := by
    intro l
    induction l with
    | nil => rfl
    | cons a l ih => rw [List.flatMap_cons, List.length_append, ih, List.length_cons, List.length_cons, List.length_cons, List.length_nil]; omega
  rw [this, List.length_take, confs_len]
  have := Nat.min_le_right i (2 ^ n)
  omega
theorem pow32 {n : Nat} (h : n ≤ 5) : 2 ^ n ≤ 32 := by
  have : 2 ^ n ≤ 2 ^ 5 := Nat.pow_le_pow_right (by omega) h
  omega
end Ver

/-! ## All configurations, as the law makes them -/
namespace Ver
open PySem L2
abbrev sAll : Stmt := top 31
def spAll : Sp := fun vs H Q _ => ∃ n : Nat, vs = [.int n] ∧ n ≤ 5 ∧ ∀ (p : Addr) (xs : List V) (H' : Hp), H p = none → Same H H' → H' p = some (.lst xs) → DvAll H' xs ((confs n).map confD) → Q (.ref p) H'
section
variable {P : Program} {w : World} {K : PySem.W.Frag} {mg : Str → Option Value} {base : Heap} {f g : Addr} {fd gd : FuncData}
theorem scAll : FnScope ["count", "found", "k", "longer", "row"] ["count"] (defScope sAll) := ⟨rfl, rfl, rfl, by decide +kernel, rfl, by decide +kernel, by decide +kernel⟩
theorem ok_all (F : Fun K "_law_all" "_law_all" sAll f fd) (mr : mg "range" = none) : FnOk P w K mg base CX0 1 f fd ["count"] spAll := by
  refine F.ok scAll (fun vs H Q E h => ?_) (fun cdv A outer s H vs Q E hr h => ?_)
  · obtain ⟨n, rfl, _⟩ := h
    rfl
  obtain ⟨n, rfl, hn, q⟩ := h
  refine ⟨_, pss_cons (ps_set (i := 1) scAll.nd rfl (.inl rfl) (pe_lstD (ds := [confD []]) (env := []) (pds_cons (pd_tup pds_nil (Nat.le_of_ble_eq_true rfl)) pds_nil) (Nat.le_of_ble_eq_true rfl)))
    (pss_cons (ps_for PassesOwn.never rfl (pi_range1 rfl mr (pa_cons (pv 0) pa_nil)) (pg_name (i := 2) scAll.nd rfl (.inl rfl))
      (pss_cons (ps_set (i := 3) scAll.nd rfl (.inl rfl) (pe_lst pa_nil))
      (pss_cons (ps_for PassesOwn.never rfl (pi_list (pv 1)) (pg_name (i := 4) scAll.nd rfl (.inl rfl))
        (pss_one (ps_expr (pe_bm PySem.F.plainAttrs_list PySem.F.slot_list_extend PySem.F.type_list_extend mt_extend (pv 3) (pa_cons
          (PE.ex fun r : { r : List Int // r.length ≤ 10 } => pe_lstD (ds := [.tuple (r.1.map PyData.int ++ [.int 0]), .tuple (r.1.map PyData.int ++ [.int 1])]) (env := [(4, .tuple (r.1.map PyData.int))])
            (pds_cons (pd_catA (pd_v 4 (pv 4) List.mem_cons_self) (pd_tup (pds_cons pd_int pds_nil) (Nat.le_of_ble_eq_true rfl)) (by rw [List.length_map]; have := r.2; show _ + 1 ≤ 1000; omega))
            (pds_cons (pd_catA (pd_v 4 (pv 4) List.mem_cons_self) (pd_tup (pds_cons pd_int pds_nil) (Nat.le_of_ble_eq_true rfl)) (by rw [List.length_map]; have := r.2; show _ + 1 ≤ 1000; omega)) pds_nil)) (Nat.le_of_ble_eq_true rfl)) pa_nil)))))
      (pss_one (ps_set (i := 1) scAll.nd rfl (.inl rfl) (pv 3))))))
    (pss_one (ps_ret (pv 1)))), ?_⟩
  refine ⟨(fun i d h => by cases h), fun p0 xs0 H1 n0 g1 e1 d1 => ?_⟩
  refine ⟨_, rfl, _, rfl, by omega, by omega, ?_⟩
  refine for_range (lo := 0) (n := n) (fun k σ H' => ∃ (p : Addr) (xs : List V) (c2 c3 c4 : Option V), σ = [some (.int n), some (.ref p), c2, c3, c4] ∧ H p = none ∧ Same H H' ∧ H' p = some (.lst xs) ∧ DvAll H' xs ((confs k).map confD)) ?_ ?_ ?_
  · exact ⟨p0, xs0, none, none, none, rfl, n0, g1, e1, d1⟩
  · rintro k σ H2 hk ⟨p, xs, c2, c3, c4, rfl, np, g2, e2, d2⟩
    have hk5 : 2 ^ k ≤ 32 := pow32 (by omega)
    have hxl : xs.length = 2 ^ k := by rw [d2.length, List.length_map, confs_len]
    refine ⟨(by show 0 ≤ sizeLine; decide), fun l hl => ?_⟩
    have g3 := same_new hl (.lst [])
    have nl : H l = none := g2.free hl
    have hpl : p ≠ l := ne_of_none e2 hl
    refine ⟨_, rfl, p, rfl, ⟨_, SqL.of (g3 _ _ e2)⟩, ?_⟩
    refine for_list (xs := xs) (fun i σ H' => ∃ (ys : List V) (c2 c4 : Option V), σ = [some (.int n), some (.ref p), c2, some (.ref l), c4] ∧ Same H H' ∧ Same H2 H' ∧ H' l = some (.lst ys) ∧ DvAll H' ys ((((confs k).take i).flatMap fun r => [r ++ [0], r ++ [1]]).map confD)) ?_ ?_ ?_ ?_
    · exact ⟨[], _, c4, rfl, g2.trans g3, g3, upd_same, DvAll.nil⟩
    · rintro i σ H' _ ⟨ys, c2, c4, rfl, _, g4, _⟩
      exact SqL.of (g4 _ _ e2)
    · rintro i x σ H3 hx ⟨ys, c2, c4, rfl, g4, g5, e3, d3⟩
      have hi : i < (confs k).length := by
        have := (List.getElem?_eq_some_iff.mp hx).1
        rw [confs_len]
        omega
      have er : (confs k)[i]? = some (confs k)[i] := List.getElem?_eq_getElem hi
      generalize (confs k)[i] = r at er
      have hr5 := confs_row k r (List.mem_of_getElem? er)
      obtain ⟨x', ex, dx⟩ := DvAll.get d2 (show ((confs k).map confD)[i]? = some (confD r) by rw [List.getElem?_map, er]; rfl)
      rw [hx] at ex
      cases ex
      refine ⟨_, rfl, .inl ⟨rfl, _, SqL.of e3⟩, ⟨r, by omega⟩, ?_, ?_⟩
      · intro j d hm
        rcases List.mem_cons.mp hm with z | z
        · cases z
          exact ⟨x, rfl, Dv.keep (KeepT.of g5) _ _ dx⟩
        · cases z
      · intro b zs H4 nb g6 e4 d4
        have ly := d3.length
        rw [List.length_map] at ly
        have lz := d4.length
        have lt := confs_take_len k i
        refine ⟨l, b, ys, zs, rfl, rfl, g6 _ _ e3, e4, room5 (by rw [ly, lz]; show _ + 2 ≤ 1000; omega), ?_⟩
        have kt : KeepT H4 (upd H4 l (.lst (ys ++ zs))) := fun a us h => by
          rw [upd_ne (fun z => by rw [z, g6 _ _ e3] at h; cases h)]
          exact h
        have g7 : Same H (upd H4 l (.lst (ys ++ zs))) := same_put (g4.trans g6) nl
        have g8 : Same H2 (upd H4 l (.lst (ys ++ zs))) := same_put (g5.trans g6) hl
        refine ⟨ys ++ zs, _, _, rfl, g7, g8, upd_same, ?_⟩
        rw [flatMap_take _ _ er, List.map_append]
        refine DvAll.append (DvAll.keep kt _ _ (DvAll.keep (KeepT.of g6) _ _ d3)) (DvAll.keep kt _ _ ?_)
        show DvAll H4 zs [.tuple ((r ++ [0]).map PyData.int), .tuple ((r ++ [1]).map PyData.int)]
        rw [List.map_append, List.map_append]
        exact d4
    · rintro σ H3 ⟨ys, c2, c4, rfl, g4, g5, e3, d3⟩
      rw [hxl, ← confs_len k, List.take_length] at d3
      exact ⟨_, rfl, l, ys, _, _, _, rfl, nl, g4, e3, d3⟩
  · rintro σ H2 ⟨p, xs, c2, c3, c4, rfl, np, g2, e2, d2⟩
    exact ⟨_, rfl, q p xs H2 np g2 e2 d2⟩
end
end Ver

/-! ## configurations -/
namespace Ver
open PySem L2
abbrev sConf : Stmt := top 12
section
variable {P : Program} {w : World} {K : PySem.W.Frag} {mg : Str → Option Value} {base : Heap} {f g : Addr} {fd gd : FuncData}
theorem scConf : FnScope ["count", "found", "_", "begun", "bit"] ["count"] (defScope sConf) := ⟨rfl, rfl, rfl, by decide +kernel, rfl, by decide +kernel, by decide +kernel⟩
theorem ok_conf (F : Fun K "configurations" "configurations" sConf f fd) (mr : mg "range" = none) : FnOk P w K mg base CX0 1 f fd ["count"] spAll := by
  refine F.ok scConf (fun vs H Q E h => ?_) (fun cdv A outer s H vs Q E hr h => ?_)
  · obtain ⟨n, rfl, _⟩ := h
    rfl
  obtain ⟨n, rfl, hn, q⟩ := h
  refine ⟨_, pss_cons (ps_set (i := 1) scConf.nd rfl (.inl rfl) (pe_lstD (ds := [confD []]) (env := []) (pds_cons (pd_tup pds_nil (Nat.le_of_ble_eq_true rfl)) pds_nil) (Nat.le_of_ble_eq_true rfl)))
    (pss_cons (ps_for PassesOwn.never rfl (pi_range1 rfl mr (pa_cons (pv 0) pa_nil)) (pg_name (i := 2) scConf.nd rfl (.inl rfl))
      (pss_one (ps_setLc2 (i := 1) (own := [("begun", 3), ("bit", 4)]) (vs1 := [4]) (g := gName 3) (g1 := gName 4) (wi1 := iTup K (tTup (tCons (tC (.int 0)) (tCons (tC (.int 1)) tNil)))) (by rfl) scConf.nd rfl rfl (sw_true rfl rfl rfl (by decide +kernel)) (pi_list (pv 1))
        (blkOk_by (own := [("begun", 3), ("bit", 4)]) (N := ["count", "found", "_", "begun", "bit"]) (sc := defScope sConf) (by decide +kernel)) (by decide)
        (fun _ _ _ _ _ => pg_name (i := 3) scConf.nd rfl (Or.inl rfl)) (fun _ _ _ _ _ => pts_nil) (fun _ _ _ _ _ => pi_tup (pe_tup (pa_cons pe_int (pa_cons pe_int pa_nil)))) (fun _ _ _ _ _ => pg_name (i := 4) scConf.nd rfl (Or.inl rfl)) (fun _ _ _ _ _ => pts_nil)
        (fun _ _ _ _ _ => PE.ex fun r : { r : List Int × Int // r.1.length ≤ 10 } => (pd_catA (env := [(3, .tuple (r.1.1.map PyData.int)), (4, .int r.1.2)]) (pd_v 3 (pv 3) List.mem_cons_self) (pd_tup (pds_cons (pd_v 4 (pv 4) (List.mem_cons_of_mem _ List.mem_cons_self)) pds_nil) (Nat.le_of_ble_eq_true rfl)) (by rw [List.length_map]; have := r.2; show _ + 1 ≤ 1000; omega)).pe))))
    (pss_one (ps_ret (pv 1)))), ?_⟩
  refine ⟨(fun i d h => by cases h), fun p0 xs0 H1 n0 g1 e1 d1 => ?_⟩
  refine ⟨_, rfl, _, rfl, by omega, by omega, ?_⟩
  refine for_range (lo := 0) (n := n) (fun k σ H' => ∃ (p : Addr) (xs : List V) (c2 : Option V), σ = [some (.int n), some (.ref p), c2, none, none] ∧ H p = none ∧ Same H H' ∧ H' p = some (.lst xs) ∧ DvAll H' xs ((confs k).map confD)) ?_ ?_ ?_
  · exact ⟨p0, xs0, none, rfl, n0, g1, e1, d1⟩
  · rintro k σ H2 hk ⟨p, xs, c2, rfl, np, g2, e2, d2⟩
    have hk5 : 2 ^ k ≤ 32 := pow32 (by omega)
    have hxl : xs.length = 2 ^ k := by rw [d2.length, List.length_map, confs_len]
    refine ⟨_, rfl, p, rfl, ⟨_, SqL.of e2⟩, fun D hD => ?_⟩
    have g3 := same_new hD (.lst [])
    have nD : H D = none := g2.free hD
    refine ⟨fun i m H' => m = xs.length - i ∧ i ≤ xs.length ∧ Same H H' ∧ Same H2 H' ∧ ∃ ys : List V, H' D = some (.lst ys) ∧ DvAll H' ys ((((confs k).take i).flatMap fun r => [r ++ [0], r ++ [1]]).map confD), ⟨_, rfl, Nat.zero_le _, g2.trans g3, g3, [], upd_same, DvAll.nil⟩, ?_⟩
    rintro i m H3 ⟨rfl, hi, g4, g5, ys, e3, d3⟩
    by_cases hlt : i < xs.length
    · refine .inr ⟨⟨xs, xs[i], SqL.of (g5 _ _ e2), by simp [hlt]⟩, fun H' => Same H H' ∧ Same H2 H' ∧ ∃ ys : List V, H' D = some (.lst ys) ∧ DvAll H' ys ((((confs k).take (i + 1)).flatMap fun r => [r ++ [0], r ++ [1]]).map confD), fun H' p' => ⟨xs.length - (i + 1), by omega, rfl, hlt, p'⟩, fun x H' y => ?_⟩
      obtain ⟨rfl, y⟩ := y
      have hx := y xs (SqL.of (g5 _ _ e2))
      have hi' : i < (confs k).length := by rw [confs_len]; omega
      have er : (confs k)[i]? = some (confs k)[i] := List.getElem?_eq_getElem hi'
      generalize (confs k)[i] = r at er
      have hr5 := confs_row k r (List.mem_of_getElem? er)
      obtain ⟨x', ex, dx⟩ := DvAll.get d2 (show ((confs k).map confD)[i]? = some (confD r) by rw [List.getElem?_map, er]; rfl)
      rw [hx] at ex
      cases ex
      rw [flatMap_take _ _ er]
      generalize hB : ((confs k).take i).flatMap (fun r => [r ++ [0], r ++ [1]]) = B at d3
      have lB' : B.length ≤ 2 * 2 ^ k := by rw [← hB]; exact confs_take_len k i
      refine ⟨rfl, (by show 2 ≤ sizeLine; decide), fun u hu => ⟨u, rfl, ⟨_, SqT.of upd_same⟩, ?_⟩⟩
      have g6 := same_new hu (.tup [.int 0, .int 1])
      refine ⟨fun j m H'' => m = 2 - j ∧ j ≤ 2 ∧ Same H H'' ∧ Same H2 H'' ∧ H'' u = some (.tup [.int 0, .int 1]) ∧ ∃ ys : List V, H'' D = some (.lst ys) ∧ DvAll H'' ys ((B ++ [r ++ [0], r ++ [1]].take j).map confD), ⟨_, rfl, Nat.zero_le _, g4.trans g6, g5.trans g6, upd_same, ys, g6 _ _ e3, by rw [List.take_zero, List.append_nil]; exact DvAll.keep (KeepT.of g6) _ _ d3⟩, ?_⟩
      rintro j m H4 ⟨rfl, hj, g7, g8, eu, zs, e4, d4⟩
      by_cases hj2 : j < 2
      · refine .inr ⟨⟨[.int 0, .int 1], [V.int 0, .int 1][j], SqT.of eu, by simp [hj2]⟩, fun H'' => Same H H'' ∧ Same H2 H'' ∧ H'' u = some (.tup [.int 0, .int 1]) ∧ ∃ ys : List V, H'' D = some (.lst ys) ∧ DvAll H'' ys ((B ++ [r ++ [0], r ++ [1]].take (j + 1)).map confD), fun H'' p' => ⟨2 - (j + 1), by omega, rfl, hj2, p'⟩, fun z H'' y => ?_⟩
        obtain ⟨rfl, y⟩ := y
        have hz := y _ (SqT.of eu)
        obtain ⟨b, rfl, ht⟩ : ∃ b : Int, z = .int b ∧ [r ++ [0], r ++ [1]].take (j + 1) = [r ++ [0], r ++ [1]].take j ++ [r ++ [b]] := by
          match j, hz with
          | 0, hz => exact ⟨0, (Option.some.inj hz).symm, rfl⟩
          | 1, hz => exact ⟨1, (Option.some.inj hz).symm, rfl⟩
        refine ⟨rfl, ⟨(r, b), by show r.length ≤ 10; omega⟩, ?_, ?_⟩
        · intro i' d hm
          rcases List.mem_cons.mp hm with e | hm
          · cases e
            exact ⟨x, rfl, Dv.keep (KeepT.of g8) _ _ dx⟩
          · rcases List.mem_cons.mp hm with e | hm
            · cases e
              exact ⟨_, rfl, Dv.int⟩
            · cases hm
        · intro v H5 g9 dv
          have lz := d4.length
          rw [List.length_map, List.length_append] at lz
          have l2 : ([r ++ [0], r ++ [1]].take j).length ≤ 2 := by rw [List.length_take]; exact Nat.min_le_right _ _
          refine ⟨zs, g9 _ _ e4, Nat.lt_of_le_of_lt (show zs.length ≤ 66 by omega) (by decide), ?_⟩
          have kt : KeepT H5 (upd H5 D (.lst (zs ++ [v]))) := fun a us h => by
            rw [upd_ne (fun z => by rw [z, g9 _ _ e4] at h; cases h)]
            exact h
          refine ⟨same_put (g7.trans g9) nD, same_put (g8.trans g9) hD, by rw [upd_ne (fun z => by rw [z, e4] at eu; cases eu)]; exact g9 _ _ eu, zs ++ [v], upd_same, ?_⟩
          rw [ht, ← List.append_assoc, List.map_append]
          refine DvAll.append (DvAll.keep kt _ _ (DvAll.keep (KeepT.of g9) _ _ d4)) (DvAll.keep kt _ _ (DvAll.cons ?_ DvAll.nil))
          show Dv H5 v (.tuple ((r ++ [b]).map PyData.int))
          rw [List.map_append]
          exact dv
      · have : j = 2 := by omega
        subst this
        exact .inl ⟨⟨[.int 0, .int 1], SqT.of eu, Nat.le_refl _⟩, g7, g8, zs, e4, d4⟩
    · have : i = xs.length := by omega
      subst this
      refine .inl ⟨⟨xs, SqL.of (g5 _ _ e2), Nat.le_refl _⟩, D, ys, _, rfl, nD, g4, e3, ?_⟩
      rw [hxl, ← confs_len k, List.take_length] at d3
      exact d3
  · rintro σ H2 ⟨p, xs, c2, rfl, np, g2, e2, d2⟩
    exact ⟨_, rfl, q p xs H2 np g2 e2 d2⟩
end
end Ver

/-! ## _law_true -/
namespace Ver
open PySem L2
abbrev sTrue : Stmt := top 32
/-- switches, a formula over them, a configuration -/
structure TrOk (K : PySem.W.Frag) (H : Hp) (a : Addr) (s : List Str) (v : V) (f : Fm) (b : Addr) (c : List Int) : Prop where
  sws : SwT H a s
  dat : Dv H v f.toD
  over : f.Over s
  cnf : SqT K H b (c.map V.int)
  len : c.length = s.length
def spTrue (K : PySem.W.Frag) (n : Nat) : Sp := fun vs H Q _ => ∃ (a : Addr) (s : List Str) (v : V) (f : Fm) (b : Addr) (c : List Int), vs = [.ref a, v, .ref b] ∧ TrOk K H a s v f b c ∧ f.dep ≤ n ∧ Q (.bl (ev s c f)) H
section
variable {P : Program} {w : World} {K : PySem.W.Frag} {mg : Str → Option Value} {base : Heap} {f g : Addr} {fd gd : FuncData}
theorem scTrue : FnScope ["switches", "formula", "configuration", "tag", "first"] ["switches", "formula", "configuration"] (defScope sTrue) := ⟨rfl, rfl, rfl, by decide +kernel, rfl, by decide +kernel, by decide +kernel⟩
theorem ok_true1 {n : Nat} (F : Fun K "_law_true" "_law_true" sTrue f fd) (G : FnOk P w K mg base CX0 n f fd ["switches", "formula", "configuration"] (spTrue K n)) (bG : Binds K fd ["switches", "formula", "configuration"] []) (kG : PySem.W.keepIn K (.ref f) = true)
    (mG : mg "_law_true" = some (.ref f)) : FnOk P w K mg base CX0 (n + 1) f fd ["switches", "formula", "configuration"] (spTrue K (n + 1)) := by
  refine F.ok scTrue (fun vs H Q E h => ?_) (fun cdv A outer s H vs Q E hr h => ?_)
  · obtain ⟨a, s, v, f, b, c, rfl, _⟩ := h
    rfl
  obtain ⟨a, sw, v, fm, b, c, rfl, ok, hd, q⟩ := h
  refine ⟨_, pss_cons (ps_set (i := 3) scTrue.nd rfl (.inl rfl) (pe_ix ix_tup (pv 1) pe_int (fun _ _ => rfl)))
    (pss_cons (ps_if (PW.pt (pw_or (pt_cmpR op_eq (pv 3) pe_str (nomark _)) (pw_or1 (pt_cmpR op_eq (pv 3) pe_str (nomark _))))) (pss_one (ps_ret (pe_cmpR op_eq (pv 3) pe_str (nomark _)))) pss_nil)
    (pss_cons (ps_if (pt_cmpR op_eq (pv 3) pe_str (nomark _)) (pss_one (ps_ret (pe_cmpR op_eq (pe_ix ix_tup (pv 2) (pe_bmT PySem.F.slot_tuple_index PySem.F.type_tuple_index mt_tup_index (pv 0) (pa_cons (pe_ix ix_tup (pv 1) pe_int (fun _ _ => rfl)) pa_nil)) (fun _ _ => rfl)) pe_int (nomark _)))) pss_nil)
    (pss_cons (ps_if (pt_cmpR op_eq (pv 3) pe_str (nomark _)) (pss_one (ps_ret (pe_not (pe_call G hr rfl mG kG bG .nil pass0 (pa_cons (pv 0) (pa_cons (pe_ix ix_tup (pv 1) pe_int (fun _ _ => rfl)) (pa_cons (pv 2) pa_nil))))))) pss_nil)
    (pss_cons (ps_set (i := 4) scTrue.nd rfl (.inl rfl) (pe_call G hr rfl mG kG bG .nil pass0 (pa_cons (pv 0) (pa_cons (pe_ix ix_tup (pv 1) pe_int (fun _ _ => rfl)) (pa_cons (pv 2) pa_nil)))))
    (pss_cons (ps_if (pt_cmpR op_eq (pv 3) pe_str (nomark _)) (pss_one (ps_ret (pe_and (pv 4) (pe_one (pe_call G hr rfl mG kG bG .nil pass0 (pa_cons (pv 0) (pa_cons (pe_ix ix_tup (pv 1) pe_int (fun _ _ => rfl)) (pa_cons (pv 2) pa_nil)))))))) pss_nil)
    (pss_one (ps_ret (pe_or (pv 4) (pe_one (pe_call G hr rfl mG kG bG .nil pass0 (pa_cons (pv 0) (pa_cons (pe_ix ix_tup (pv 1) pe_int (fun _ _ => rfl)) (pa_cons (pv 2) pa_nil))))))))))))), ?_⟩
  obtain ⟨o1, o2, o3, o4, o5⟩ := ok
  cases fm with
  | yes =>
    obtain ⟨p, xs, rfl, e1, e2⟩ := o2.of_tup
    unfold DvAll at e2
    obtain ⟨x0, r0, rfl, e3, _⟩ := e2
    cases e3.of_str
    refine ⟨_, rfl, p, _, _, _, rfl, rfl, SqT.of e1, at_of (j := 0) (v := .str "yes") rfl rfl, ?_⟩
    exact ⟨_, rfl, rfl, _, rfl, iteDT rfl (iteT ⟨_, rfl, rfl, q⟩)⟩
  | no =>
    obtain ⟨p, xs, rfl, e1, e2⟩ := o2.of_tup
    unfold DvAll at e2
    obtain ⟨x0, r0, rfl, e3, _⟩ := e2
    cases e3.of_str
    refine ⟨_, rfl, p, _, _, _, rfl, rfl, SqT.of e1, at_of (j := 0) (v := .str "no") rfl rfl, ?_⟩
    have e : ev sw c .no = decide ((V.str "no" : V) = V.str "yes") := (decide_eq_false tYN.symm).symm
    rw [e] at q
    exact ⟨_, rfl, rfl, _, rfl, iteDF tYN.symm ⟨_, rfl, rfl, _, rfl, iteDT rfl ⟨_, rfl, rfl, q⟩⟩⟩
  | sw x =>
    obtain ⟨p, xs, rfl, e1, e2⟩ := o2.of_tup
    unfold DvAll DvAll at e2
    obtain ⟨x0, r0, rfl, e3, x1, r1, rfl, e4, _⟩ := e2
    cases e3.of_str
    cases e4.of_str
    refine ⟨_, rfl, p, _, _, _, rfl, rfl, SqT.of e1, at_of (j := 0) (v := .str "switch") rfl rfl, ?_⟩
    refine ⟨_, rfl, rfl, _, rfl, iteDF tYS.symm ⟨_, rfl, rfl, _, rfl, iteDF tNS.symm ⟨_, rfl, rfl, _, rfl, iteDT rfl ?_⟩⟩⟩
    obtain ⟨i1, i2⟩ := ixOf_get (show x ∈ sw from o3)
    have i3 : ixOf x sw < c.length := by rw [o5]; exact ixOf_lt o3
    have ec : (c.map V.int)[ixOf x sw]? = some (.int (c.getD (ixOf x sw) 0)) := by
      rw [List.getElem?_map, List.getElem?_eq_getElem i3, List.getD_eq_getElem?_getD, List.getElem?_eq_getElem i3]
      rfl
    have o1' := o1
    obtain ⟨ob, b1, b2, b3⟩ := o1
    refine ⟨_, rfl, _, rfl, ⟨a, ob, _, rfl, b3, b1, b2⟩, _, rfl, p, _, _, _, rfl, rfl, SqT.of e1, at_of (j := 1) (v := .str x) rfl rfl, a, sw, x, ixOf x sw, rfl, rfl, o1'.sq, i1, i2, b, _, _, _, rfl, rfl, o4, at_of rfl ec, rfl, ?_⟩
    have e : decide (V.int (c.getD (ixOf x sw) 0) = V.int 1) = ev sw c (.sw x) := by
      show _ = decide (c.getD (ixOf x sw) 0 = 1)
      by_cases z : c.getD (ixOf x sw) 0 = 1
      · rw [z, decide_eq_true rfl, decide_eq_true rfl]
      · rw [decide_eq_false z, decide_eq_false (fun y => z (V.int.inj y))]
    have q2 : Q (.bl (decide (V.int (c.getD (ixOf x sw) 0) = V.int 1))) H := by rw [e]; exact q
    exact q2
  | not f0 =>
    obtain ⟨p, xs, rfl, e1, e2⟩ := o2.of_tup
    unfold DvAll DvAll at e2
    obtain ⟨x0, r0, rfl, e3, x1, r1, rfl, e4, _⟩ := e2
    cases e3.of_str
    refine ⟨_, rfl, p, _, _, _, rfl, rfl, SqT.of e1, at_of (j := 0) (v := .str "not") rfl rfl, ?_⟩
    refine ⟨_, rfl, rfl, _, rfl, iteDF tYT.symm ⟨_, rfl, rfl, _, rfl, iteDF tNT.symm ⟨_, rfl, rfl, _, rfl, iteDF tST.symm ⟨_, rfl, rfl, _, rfl, iteDT rfl ?_⟩⟩⟩⟩
    exact ⟨_, rfl, _, rfl, p, _, _, _, rfl, rfl, SqT.of e1, at_of (j := 1) (v := x1) rfl rfl, _, rfl, a, sw, x1, f0, b, c, rfl, ⟨o1, e4, o3, o4, o5⟩, (by have : f0.dep + 1 ≤ n + 1 := hd; omega), _, rfl, q⟩
  | and f0 f1 =>
    obtain ⟨p, xs, rfl, e1, e2⟩ := o2.of_tup
    unfold DvAll DvAll DvAll at e2
    obtain ⟨x0, r0, rfl, e3, x1, r1, rfl, e4, x2, r2, rfl, e5, _⟩ := e2
    cases e3.of_str
    have hd' : max f0.dep f1.dep + 1 ≤ n + 1 := hd
    refine ⟨_, rfl, p, _, _, _, rfl, rfl, SqT.of e1, at_of (j := 0) (v := .str "and") rfl rfl, ?_⟩
    refine ⟨_, rfl, rfl, _, rfl, iteDF tYA.symm ⟨_, rfl, rfl, _, rfl, iteDF tNA.symm ⟨_, rfl, rfl, _, rfl, iteDF tSA.symm ⟨_, rfl, rfl, _, rfl, iteDF tTA.symm ?_⟩⟩⟩⟩
    refine ⟨_, rfl, _, rfl, p, _, _, _, rfl, rfl, SqT.of e1, at_of (j := 1) (v := x1) rfl rfl, _, rfl, a, sw, x1, f0, b, c, rfl, ⟨o1, e4, o3.1, o4, o5⟩, by omega, ?_⟩
    refine ⟨_, rfl, rfl, _, rfl, iteDT rfl ⟨_, rfl, _, rfl, ?_⟩⟩
    have e : ev sw c (.and f0 f1) = (ev sw c f0 && ev sw c f1) := rfl
    rw [e] at q
    refine ite2 (fun z => ?_) (fun z => ?_)
    · rw [z] at q
      exact ⟨_, rfl, _, rfl, p, _, _, _, rfl, rfl, SqT.of e1, at_of (j := 2) (v := x2) rfl rfl, _, rfl, a, sw, x2, f1, b, c, rfl, ⟨o1, e5, o3.2, o4, o5⟩, by omega, q⟩
    · rw [Bool.eq_false_iff.mpr z] at q
      exact q
  | or f0 f1 =>
    obtain ⟨p, xs, rfl, e1, e2⟩ := o2.of_tup
    unfold DvAll DvAll DvAll at e2
    obtain ⟨x0, r0, rfl, e3, x1, r1, rfl, e4, x2, r2, rfl, e5, _⟩ := e2
    cases e3.of_str
    have hd' : max f0.dep f1.dep + 1 ≤ n + 1 := hd
    refine ⟨_, rfl, p, _, _, _, rfl, rfl, SqT.of e1, at_of (j := 0) (v := .str "or") rfl rfl, ?_⟩
    refine ⟨_, rfl, rfl, _, rfl, iteDF tYO.symm ⟨_, rfl, rfl, _, rfl, iteDF tNO.symm ⟨_, rfl, rfl, _, rfl, iteDF tSO.symm ⟨_, rfl, rfl, _, rfl, iteDF tTO.symm ?_⟩⟩⟩⟩
    refine ⟨_, rfl, _, rfl, p, _, _, _, rfl, rfl, SqT.of e1, at_of (j := 1) (v := x1) rfl rfl, _, rfl, a, sw, x1, f0, b, c, rfl, ⟨o1, e4, o3.1, o4, o5⟩, by omega, ?_⟩
    refine ⟨_, rfl, rfl, _, rfl, iteDF tAO.symm ⟨_, rfl, _, rfl, ?_⟩⟩
    have e : ev sw c (.or f0 f1) = (ev sw c f0 || ev sw c f1) := rfl
    rw [e] at q
    refine ite2 (fun z => ?_) (fun z => ?_)
    · rw [z] at q
      exact q
    · rw [Bool.eq_false_iff.mpr z] at q
      exact ⟨_, rfl, _, rfl, p, _, _, _, rfl, rfl, SqT.of e1, at_of (j := 2) (v := x2) rfl rfl, _, rfl, a, sw, x2, f1, b, c, rfl, ⟨o1, e5, o3.2, o4, o5⟩, by omega, q⟩
theorem ok_true (F : Fun K "_law_true" "_law_true" sTrue f fd) (bG : Binds K fd ["switches", "formula", "configuration"] []) (mG : mg "_law_true" = some (.ref f)) :
    ∀ n, FnOk P w K mg base CX0 n f fd ["switches", "formula", "configuration"] (spTrue K n)
  | 0 => no_ok fun vs H Q E h => by
    obtain ⟨a, s, v, fm, b, c, _, _, h, _⟩ := h
    cases fm <;> simp [Fm.dep] at h
  | n + 1 => ok_true1 F (ok_true F bG mG n) bG F.kp mG
end
end Ver

/-! ## is_true, _formulas_in -/
namespace Ver
open PySem L2
abbrev sFin : Stmt := top 20
abbrev sIst : Stmt := top 19
def spFin : Sp := fun vs H Q _ => ∃ (v : V) (f : Fm), vs = [v] ∧ Dv H v f.toD ∧ f.size ≤ 100000 ∧
  ∀ (p : Addr) (xs : List V) (H' : Hp), H p = none → Same H H' → H' p = some (.lst xs) → DvAll H' xs ((pre f).map Fm.toD) → Q (.ref p) H'
def spIst (K : PySem.W.Frag) : Sp := fun vs H Q _ => ∃ (a : Addr) (s : List Str) (v : V) (f : Fm) (b : Addr) (c : List Int), vs = [.ref a, v, .ref b] ∧ TrOk K H a s v f b c ∧ f.size ≤ 100000 ∧ ∀ H', Same H H' → Q (.bl (ev s c f)) H'
/-- what stands in a formula's tuple -/
def tagOf : Fm → Str
  | .yes => "yes" | .no => "no" | .sw _ => "switch" | .not _ => "not" | .and _ _ => "and" | .or _ _ => "or"
theorem Fm.parts {H : Hp} {v : V} {f : Fm} (h : Dv H v f.toD) : ∃ a xs, v = .ref a ∧ H a = some (.tup (.str (tagOf f) :: xs)) ∧ (∀ x, f = .sw x → xs = [.str x]) ∧ ((∀ x, f ≠ .sw x) → DvAll H xs ((kids f).map Fm.toD)) := by
  have go : ∀ {ds : List PyData} {t : Str}, Dv H v (.tuple (.str t :: ds)) → ∃ a xs, v = .ref a ∧ H a = some (.tup (.str t :: xs)) ∧ DvAll H xs ds := by
    intro ds t h
    obtain ⟨a, xs, rfl, e1, e2⟩ := h.of_tup
    unfold DvAll at e2
    obtain ⟨x, r, rfl, e3, e4⟩ := e2
    cases e3.of_str
    exact ⟨a, r, rfl, e1, e4⟩
  cases f with
  | sw x =>
    obtain ⟨a, xs, rfl, e1, e2⟩ := go h
    unfold DvAll DvAll at e2
    obtain ⟨y, r, rfl, e3, rfl⟩ := e2
    cases e3.of_str
    exact ⟨a, _, rfl, e1, fun z e => by cases e; rfl, fun n => absurd rfl (n x)⟩
  | yes => obtain ⟨a, xs, rfl, e1, e2⟩ := go h; exact ⟨a, xs, rfl, e1, fun _ e => (by cases e), fun _ => e2⟩
  | no => obtain ⟨a, xs, rfl, e1, e2⟩ := go h; exact ⟨a, xs, rfl, e1, fun _ e => (by cases e), fun _ => e2⟩
  | not f => obtain ⟨a, xs, rfl, e1, e2⟩ := go h; exact ⟨a, xs, rfl, e1, fun _ e => (by cases e), fun _ => e2⟩
  | and f g => obtain ⟨a, xs, rfl, e1, e2⟩ := go h; exact ⟨a, xs, rfl, e1, fun _ e => (by cases e), fun _ => e2⟩
  | or f g => obtain ⟨a, xs, rfl, e1, e2⟩ := go h; exact ⟨a, xs, rfl, e1, fun _ e => (by cases e), fun _ => e2⟩
theorem tag_sw {f : Fm} (h : (V.str (tagOf f) : V) = V.str "switch") : ∃ x, f = .sw x := by
  cases f with
  | sw x => exact ⟨x, rfl⟩
  | yes => exact absurd h tYS
  | no => exact absurd h tNS
  | not _ => exact absurd h tST.symm
  | and _ _ => exact absurd h tSA.symm
  | or _ _ => exact absurd h tSO.symm
theorem kids_len (f : Fm) : (kids f).length ≤ 2 := by cases f <;> simp [kids]
theorem cutV_1 {x : V} {xs : List V} : cutV (x :: xs) (some ((1 : Nat) : Int)) none = xs := by
  show ((x :: xs).drop (HT.sIx (x :: xs).length 0 (some ((1 : Nat) : Int)))).take ((x :: xs).length - HT.sIx (x :: xs).length 0 (some ((1 : Nat) : Int))) = xs
  rw [HT.sIx_nat, Nat.min_eq_left (by simp)]
  simp
/-- the sizes of what waits -/
def wsz (W : List Fm) : Nat := (W.map Fm.size).sum
theorem wsz_app (a b : List Fm) : wsz (a ++ b) = wsz a + wsz b := by unfold wsz; rw [List.map_append, List.sum_append]
theorem wsz_len (W : List Fm) : W.length ≤ wsz W := by
  induction W with
  | nil => exact Nat.le_refl _
  | cons f W ih =>
    have := f.size_pos
    show W.length + 1 ≤ (f.size :: W.map Fm.size).sum
    rw [List.sum_cons]
    have : (W.map Fm.size).sum = wsz W := rfl
    omega
theorem wsz_kids (f : Fm) : wsz (kids f) + 1 = f.size := by
  cases f <;> simp [kids, wsz, Fm.size] <;> omega
section
variable {P : Program} {w : World} {K : PySem.W.Frag} {mg : Str → Option Value} {base : Heap} {f g : Addr} {fd gd : FuncData}
theorem scFin : FnScope ["formula", "found", "waiting", "part"] ["formula"] (defScope sFin) := ⟨rfl, rfl, rfl, by decide +kernel, rfl, by decide +kernel, by decide +kernel⟩
theorem ok_fin (F : Fun K "_formulas_in" "_formulas_in" sFin f fd) : FnOk P w K mg base CX0 1 f fd ["formula"] spFin := by
  refine F.ok scFin (fun vs H Q E h => ?_) (fun cdv A outer s H vs Q E hr h => ?_)
  · obtain ⟨v, f, rfl, _⟩ := h
    rfl
  obtain ⟨v, fm, rfl, hv, hz, q⟩ := h
  refine ⟨_, pss_cons (ps_set (i := 1) scFin.nd rfl (.inl rfl) (pe_lst pa_nil))
    (pss_cons (ps_set (i := 2) scFin.nd rfl (.inl rfl) (pe_lst (pa_cons (pv 0) pa_nil)))
    (pss_cons (ps_while PassesOwn.never (pt_truth (pv 2) (by intro _; rfl))
      (pss_cons (ps_set (i := 3) scFin.nd rfl (.inl rfl) (pe_bm0 PySem.F.plainAttrs_list PySem.F.slot_list_pop PySem.F.type_list_pop mt_pop (pv 2)))
      (pss_cons (ps_expr (pe_bm PySem.F.plainAttrs_list PySem.F.slot_list_append PySem.F.type_list_append mt_append (pv 1) (pa_cons (pv 3) pa_nil)))
      (pss_one (ps_if (pt_cmpR op_ne (pe_ix ix_tup (pv 3) pe_int (fun _ _ => rfl)) pe_str (nomark _))
        (pss_one (ps_expr (pe_bm PySem.F.plainAttrs_list PySem.F.slot_list_extend PySem.F.type_list_extend mt_extT (pv 2) (pa_cons (pe_slice sl_tup (pv 3) (po_some pe_int) po_none) pa_nil)))) pss_nil)))))
    (pss_one (ps_ret (pv 1))))), ?_⟩
  refine ⟨(by show 0 ≤ sizeLine; decide), fun pf nf => ⟨_, rfl, (by show 1 ≤ sizeLine; decide), fun pw nw => ?_⟩⟩
  have g1 := same_new nf (.lst [])
  have g2 := same_new nw (.lst [v])
  have hfw : pf ≠ pw := ne_of_none upd_same nw
  have nw0 : H pw = none := g1.free nw
  refine ⟨fun m σ H' => ∃ (D W : List Fm) (xs ys : List V) (c : Option V), σ = [some v, some (.ref pf), some (.ref pw), c] ∧ Same H H' ∧ H' pf = some (.lst xs) ∧ H' pw = some (.lst ys) ∧ DvAll H' xs (D.map Fm.toD) ∧ DvAll H' ys (W.map Fm.toD) ∧
      D ++ W.reverse.flatMap pre = pre fm ∧ m = wsz W, ⟨_, [], [fm], [], [v], none, rfl, g1.trans g2, g2 _ _ upd_same, upd_same, DvAll.nil, DvAll.cons (Dv.keep (KeepT.of (g1.trans g2)) _ _ hv) DvAll.nil, by simp, rfl⟩, ?_⟩
  rintro m σ H1 ⟨D, W, xs, ys, c, rfl, k1, k2, k3, k4, k5, k6, rfl⟩
  have ly := k5.length
  rw [List.length_map] at ly
  refine ⟨_, rfl, _, .inl ⟨ys, SqL.of k3, rfl⟩, ite2 (fun z => ?_) (fun z => ?_)⟩
  · have hW : W ≠ [] := by
      rintro rfl
      cases ys with
      | nil => cases z
      | cons _ _ => cases ly
    obtain ⟨W0, gm, rfl⟩ : ∃ W0 gm, W = W0 ++ [gm] := ⟨W.dropLast, W.getLast hW, (List.dropLast_concat_getLast hW).symm⟩
    obtain ⟨ys0, y, rfl⟩ : ∃ ys0 y, ys = ys0 ++ [y] := by
      have hy : ys ≠ [] := by
        rintro rfl
        cases z
      exact ⟨ys.dropLast, ys.getLast hy, (List.dropLast_concat_getLast hy).symm⟩
    have l0 : ys0.length = W0.length := by simpa using ly
    have sp : DvAll H1 ys0 (W0.map Fm.toD) ∧ Dv H1 y gm.toD := by
      have h1 := DvAll.take W0.length k5
      rw [List.map_append, List.take_left' l0, List.take_left' (by rw [List.length_map])] at h1
      obtain ⟨x, e1, e2⟩ := DvAll.get (j := W0.length) (d := gm.toD) k5 (by rw [List.map_append, List.getElem?_append_right (by rw [List.length_map]; exact Nat.le_refl _), List.length_map, Nat.sub_self]; rfl)
      rw [List.getElem?_append_right (by omega), l0, Nat.sub_self] at e1
      cases e1
      exact ⟨h1, e2⟩
    obtain ⟨k7, k8⟩ := sp
    have szW : wsz (W0 ++ [gm]) = wsz W0 + gm.size := by rw [wsz_app]; show _ + (gm.size + 0) = _; omega
    have lD := k4.length
    rw [List.length_map] at lD
    have tot : D.length + wsz (W0 ++ [gm]) = fm.size := by
      rw [← pre_len fm, ← k6, List.length_append]
      have : ∀ W : List Fm, (W.reverse.flatMap pre).length = wsz W := by
        intro W
        induction W with
        | nil => rfl
        | cons f W ih => rw [List.reverse_cons, List.flatMap_append, List.length_append, ih]; show _ + (pre f ++ []).length = (f.size :: W.map Fm.size).sum; rw [List.append_nil, pre_len, List.sum_cons]; show _ = _ + wsz W; omega
      rw [this]
    have gp := gm.size_pos
    have lW := wsz_len W0
    have big : ∀ m : Nat, m ≤ 100002 → m ≤ sizeLine := fun m h => Nat.le_trans h (by decide)
    refine ⟨fun σ' H' => ∃ m', m' < wsz (W0 ++ [gm]) ∧ ∃ (D W : List Fm) (xs ys : List V) (c : Option V), σ' = [some v, some (.ref pf), some (.ref pw), c] ∧ Same H H' ∧ H' pf = some (.lst xs) ∧ H' pw = some (.lst ys) ∧ DvAll H' xs (D.map Fm.toD) ∧ DvAll H' ys (W.map Fm.toD) ∧
      D ++ W.reverse.flatMap pre = pre fm ∧ m' = wsz W, fun σ' H' h => h, ?_⟩
    refine ⟨_, rfl, .inl ⟨rfl, _, SqL.of k3⟩, pw, _, y, rfl, rfl, k3, by simp, ?_⟩
    rw [List.dropLast_concat]
    have kt1 : KeepT H1 (upd H1 pw (.lst ys0)) := fun a us h => by
      rw [upd_ne (fun z => by rw [z, k3] at h; cases h)]
      exact h
    have kt2 : KeepT (upd H1 pw (.lst ys0)) (upd (upd H1 pw (.lst ys0)) pf (.lst (xs ++ [y]))) := fun a us h => by
      rw [upd_ne (fun z => by rw [z, upd_ne hfw, k2] at h; cases h)]
      exact h
    have kt : KeepT H1 (upd (upd H1 pw (.lst ys0)) pf (.lst (xs ++ [y]))) := fun a us h => kt2 _ _ (kt1 _ _ h)
    refine ⟨_, rfl, .inl ⟨rfl, _, SqL.of (by rw [upd_ne hfw]; exact k2)⟩, _, rfl, pf, xs, y, rfl, rfl, by rw [upd_ne hfw]; exact k2, Nat.lt_of_le_of_lt (show xs.length ≤ 100000 by omega) (by decide), ?_⟩
    have s2 : Same H (upd (upd H1 pw (.lst ys0)) pf (.lst (xs ++ [y]))) := same_put (same_put k1 nw0) nf
    have ew : (upd (upd H1 pw (.lst ys0)) pf (.lst (xs ++ [y]))) pw = some (.lst ys0) := by rw [upd_ne hfw.symm]; exact upd_same
    have ef : (upd (upd H1 pw (.lst ys0)) pf (.lst (xs ++ [y]))) pf = some (.lst (xs ++ [y])) := upd_same
    have dD : DvAll (upd (upd H1 pw (.lst ys0)) pf (.lst (xs ++ [y]))) (xs ++ [y]) ((D ++ [gm]).map Fm.toD) := by
      rw [List.map_append]
      exact DvAll.append (DvAll.keep kt _ _ k4) (DvAll.cons (Dv.keep kt _ _ k8) DvAll.nil)
    have dW := DvAll.keep kt _ _ k7
    have dg := Dv.keep kt _ _ k8
    generalize upd (upd H1 pw (.lst ys0)) pf (.lst (xs ++ [y])) = H2 at s2 ew ef dD dW dg
    obtain ⟨a, zs, rfl, e1, e2, e3⟩ := Fm.parts dg
    have k6' : D ++ [gm] ++ (W0 ++ kids gm).reverse.flatMap pre = pre fm := by
      rw [← k6, List.reverse_append, List.reverse_append, List.flatMap_append, List.append_assoc, List.reverse_singleton, List.flatMap_append]
      show D ++ ([gm] ++ _) = D ++ ((pre gm ++ []) ++ _)
      rw [List.append_nil, pre_kids gm]
      simp
    refine ⟨_, rfl, a, _, _, _, rfl, rfl, SqT.of e1, at_of (j := 0) (v := .str (tagOf gm)) rfl rfl, rfl, _, rfl, ite2 (fun z2 => ?_) (fun z2 => ?_)⟩
    · have hns : ∀ x, gm ≠ .sw x := by
        rintro x rfl
        rw [decide_eq_true (show (V.str (tagOf (Fm.sw x)) : V) = V.str "switch" from rfl)] at z2
        cases z2
      have dz := e3 hns
      have lz := dz.length
      rw [List.length_map] at lz
      have kl := kids_len gm
      refine ⟨_, rfl, .inl ⟨rfl, _, SqL.of ew⟩, _, rfl, _, rfl, a, _, rfl, SqT.of e1, ?_, fun u nu => ?_⟩
      · rintro ⟨h1, _⟩
        rw [show (1 : Int) = ((1 : Nat) : Int) from rfl, HT.sIx_nat] at h1
        simp at h1
      · have g3 := same_new nu (.tup (cutV (.str (tagOf gm) :: zs) (some 1) none))
        have ec : cutV (.str (tagOf gm) :: zs) (some 1) none = zs := cutV_1
        refine ⟨pw, u, ys0, zs, rfl, rfl, g3 _ _ ew, SqT.of (by rw [upd_same, ec]), big _ (by omega), ?_⟩
        have kt3 : KeepT H2 (upd (upd H2 u (.tup (cutV (.str (tagOf gm) :: zs) (some 1) none))) pw (.lst (ys0 ++ zs))) := fun a us h => by
          rw [upd_ne (fun z => by rw [z, ew] at h; cases h)]
          exact g3 _ _ h
        refine ⟨wsz (W0 ++ kids gm), by rw [szW, wsz_app]; have := wsz_kids gm; omega, D ++ [gm], W0 ++ kids gm, xs ++ [.ref a], ys0 ++ zs, _, rfl, same_put (s2.trans g3) nw0, by rw [upd_ne hfw]; exact g3 _ _ ef, upd_same, DvAll.keep kt3 _ _ dD, ?_, k6', rfl⟩
        rw [List.map_append]
        exact DvAll.append (DvAll.keep kt3 _ _ dW) (DvAll.keep kt3 _ _ dz)
    · obtain ⟨x, rfl⟩ : ∃ x, gm = .sw x := tag_sw (by
        by_cases z3 : (V.str (tagOf gm) : V) = V.str "switch"
        · exact z3
        · rw [decide_eq_false z3] at z2
          exact absurd rfl z2)
      have k6'' : D ++ [Fm.sw x] ++ W0.reverse.flatMap pre = pre fm := by
        have := k6'
        rw [show kids (Fm.sw x) = [] from rfl, List.append_nil] at this
        exact this
      exact ⟨wsz W0, by rw [szW]; omega, D ++ [.sw x], W0, xs ++ [.ref a], ys0, _, rfl, s2, ef, ew, dD, dW, k6'', rfl⟩
  · have hW : W = [] := by
      cases ys with
      | nil => exact List.length_eq_zero_iff.mp ly.symm
      | cons _ _ => exact absurd rfl z
    subst hW
    rw [show ([] : List Fm).reverse.flatMap pre = [] from rfl, List.append_nil] at k6
    subst k6
    exact ⟨_, rfl, q pf xs H1 nf k1 k2 k4⟩
theorem scIst : FnScope ["switches", "formula", "configuration", "truths", "part", "word", "second", "first"] ["switches", "formula", "configuration"] (defScope sIst) := ⟨rfl, rfl, rfl, by decide +kernel, rfl, by decide +kernel, by decide +kernel⟩
/-- the stack as the list holds it -/
def stk (st : List Bool) : List V := st.reverse.map V.bl
theorem stk_cons (b : Bool) (r : List Bool) : stk (b :: r) = stk r ++ [V.bl b] := by unfold stk; rw [List.reverse_cons, List.map_append]; rfl
theorem stk_len (r : List Bool) : (stk r).length = r.length := by unfold stk; rw [List.length_map, List.length_reverse]
theorem stk_last (b : Bool) (r : List Bool) : (stk r ++ [V.bl b])[(stk r ++ [V.bl b]).length - 1]? = some (.bl b) := by simp
theorem ok_ist (F : Fun K "is_true" "is_true" sIst f fd) (G : FnOk P w K mg base CX0 1 g gd ["formula"] spFin) (bG : Binds K gd ["formula"] []) (kG : PySem.W.keepIn K (.ref g) = true) (mG : mg "_formulas_in" = some (.ref g)) (mv : mg "reversed" = none) :
    FnOk P w K mg base CX0 2 f fd ["switches", "formula", "configuration"] (spIst K) := by
  refine F.ok scIst (fun vs H Q E h => ?_) (fun cdv A outer s H vs Q E hr h => ?_)
  · obtain ⟨a, s, v, f, b, c, rfl, _⟩ := h
    rfl
  obtain ⟨a, sw, v, fm, b, c, rfl, ok, hz, q⟩ := h
  have app := fun {X : Cx} {es : List Expr} {e : Expr} {t : TA} (h : PA X (e :: es) t) => h
  refine ⟨_, pss_cons (ps_set (i := 3) scIst.nd rfl (.inl rfl) (pe_lst pa_nil))
    (pss_cons (ps_for PassesOwn.never rfl (pi_reversed (by rfl) mv (pa_cons (pe_call G hr rfl mG kG bG .nil pass0 (pa_cons (pv 1) pa_nil)) pa_nil)) (pg_name (i := 4) scIst.nd rfl (.inl rfl))
      (pss_cons (ps_set (i := 5) scIst.nd rfl (.inl rfl) (pe_ix ix_tup (pv 4) pe_int (fun _ _ => rfl)))
      (pss_one (ps_if (pt_cmpR op_eq (pv 5) pe_str (nomark _))
        (pss_one (ps_expr (pe_bm PySem.F.plainAttrs_list PySem.F.slot_list_append PySem.F.type_list_append mt_append (pv 3) (pa_cons (pe_cmpR op_eq (pe_ix ix_tup (pv 2) (pe_bmT PySem.F.slot_tuple_index PySem.F.type_tuple_index mt_tup_index (pv 0) (pa_cons (pe_ix ix_tup (pv 4) pe_int (fun _ _ => rfl)) pa_nil)) (fun _ _ => rfl)) pe_int (nomark _)) pa_nil))))
        (pss_one (ps_if (pt_cmpR op_eq (pv 5) pe_str (nomark _))
          (pss_one (ps_expr (pe_bm PySem.F.plainAttrs_list PySem.F.slot_list_append PySem.F.type_list_append mt_append (pv 3) (pa_cons (pe_not (pe_bm0 PySem.F.plainAttrs_list PySem.F.slot_list_pop PySem.F.type_list_pop mt_pop (pv 3))) pa_nil))))
          (pss_one (ps_if (pt_cmpR op_in_seq (pv 5) (pe_tup (pa_cons pe_str (pa_cons pe_str pa_nil))) rfl)
            (pss_cons (ps_set (i := 6) scIst.nd rfl (.inl rfl) (pe_bm0 PySem.F.plainAttrs_list PySem.F.slot_list_pop PySem.F.type_list_pop mt_pop (pv 3)))
            (pss_cons (ps_set (i := 7) scIst.nd rfl (.inl rfl) (pe_bm0 PySem.F.plainAttrs_list PySem.F.slot_list_pop PySem.F.type_list_pop mt_pop (pv 3)))
            (pss_one (ps_expr (pe_bm PySem.F.plainAttrs_list PySem.F.slot_list_append PySem.F.type_list_append mt_append (pv 3) (pa_cons (pe_ifExp (pt_cmpR op_eq (pv 5) pe_str (nomark _)) (pe_and (pv 7) (pe_one (pv 6))) (pe_or (pv 7) (pe_one (pv 6)))) pa_nil))))))
            (pss_one (ps_expr (pe_bm PySem.F.plainAttrs_list PySem.F.slot_list_append PySem.F.type_list_append mt_append (pv 3) (pa_cons (pe_cmpR op_eq (pv 5) pe_str (nomark _)) pa_nil))))))))))))
    (pss_one (ps_ret (pe_ix ix_list (pv 3) pe_int (fun _ _ => rfl))))), ?_⟩
  obtain ⟨o1, o2, o3, o4, o5⟩ := ok
  refine ⟨(by show 0 ≤ sizeLine; decide), fun tr nt => ?_⟩
  have g1 := same_new nt (.lst [])
  refine ⟨_, rfl, v, fm, rfl, Dv.keep (KeepT.of g1) _ _ o2, hz, fun p xs H1 np g2 e1 d1 => ?_⟩
  have g12 := g1.trans g2
  have lx := d1.length
  rw [List.length_map] at lx
  have lp := pre_len fm
  have etr := g2 _ _ upd_same
  have hpt : p ≠ tr := fun z => by rw [z, upd_same] at np; cases np
  refine ⟨p, xs, rfl, SqL.of e1, RT.for_Itv (fun i σ H' => ∃ (st : List Bool) (c4 c5 c6 c7 : Option V), σ = [some (.ref a), some v, some (.ref b), some (.ref tr), c4, c5, c6, c7] ∧ Same H H' ∧ KeepT H1 H' ∧ H' p = some (.lst xs) ∧ H' tr = some (.lst (stk st)) ∧ st.length ≤ i ∧ run sw c ((pre fm).reverse.drop i) st = some [ev sw c fm]) ?_ ?_ ?_ ?_⟩
  · refine ⟨[], none, none, none, none, rfl, g12, fun _ _ h => h, e1, etr, Nat.le_refl _, ?_⟩
    have := run_pre sw c fm [] []
    rw [List.append_nil] at this
    rw [List.drop_zero, this]
    rfl
  · rintro i σ H' ⟨st, c4, c5, c6, c7, rfl, _, _, k2, _⟩
    exact SqL.of k2
  · rintro i x σ H2 hi hx ⟨st, c4, c5, c6, c7, rfl, k1, kk, k2, k3, k4, k5⟩
    have hj : (pre fm).length - 1 - i < (pre fm).length := by omega
    rw [lx] at hx
    obtain ⟨x', ex, dx⟩ := DvAll.get d1 (show ((pre fm).map Fm.toD)[(pre fm).length - 1 - i]? = some ((pre fm)[(pre fm).length - 1 - i]).toD by rw [List.getElem?_map, List.getElem?_eq_getElem hj]; rfl)
    rw [hx] at ex
    cases ex
    have er : (pre fm).reverse.drop i = (pre fm)[(pre fm).length - 1 - i] :: (pre fm).reverse.drop (i + 1) := by
      rw [List.drop_eq_getElem_cons (by rw [List.length_reverse]; omega), List.getElem_reverse]
    have ho := pre_over fm o3 _ (List.getElem_mem hj)
    rw [er] at k5
    generalize (pre fm)[(pre fm).length - 1 - i] = gm at dx k5 ho
    have dx' := Dv.keep kk _ _ dx
    obtain ⟨st', es, k6⟩ : ∃ st', step sw c gm st = some st' ∧ run sw c ((pre fm).reverse.drop (i + 1)) st' = some [ev sw c fm] := by
      have k5' : (step sw c gm st).bind (run sw c ((pre fm).reverse.drop (i + 1))) = some [ev sw c fm] := k5
      cases e : step sw c gm st with
      | none => rw [e] at k5'; cases k5'
      | some st' => rw [e] at k5'; exact ⟨st', rfl, k5'⟩
    have hsl := step_len es
    -- the turn's end, from any heap that holds the new stack
    have fin : ∀ (H3 : Hp) (c4 c5 c6 c7 : Option V), Same H H3 → KeepT H1 H3 → H3 p = some (.lst xs) → H3 tr = some (.lst (stk st')) → ∃ (st : List Bool) (d4 d5 d6 d7 : Option V), [some (.ref a), some v, some (.ref b), some (.ref tr), c4, c5, c6, c7] = [some (.ref a), some v, some (.ref b), some (.ref tr), d4, d5, d6, d7] ∧
        Same H H3 ∧ KeepT H1 H3 ∧ H3 p = some (.lst xs) ∧ H3 tr = some (.lst (stk st)) ∧ st.length ≤ i + 1 ∧ run sw c ((pre fm).reverse.drop (i + 1)) st = some [ev sw c fm] :=
      fun H3 c4 c5 c6 c7 h1 h2 h3 h4 => ⟨st', c4, c5, c6, c7, rfl, h1, h2, h3, h4, by omega, k6⟩
    have small : ∀ n : Nat, n ≤ 100000 → n < sizeLine := fun n h => Nat.lt_of_le_of_lt h (by decide)
    -- a list at tr in the place of another
    have put : ∀ {H3 : Hp} {ys zs : List V}, Same H H3 → KeepT H1 H3 → H3 p = some (.lst xs) → H3 tr = some (.lst ys) → Same H (upd H3 tr (.lst zs)) ∧ KeepT H1 (upd H3 tr (.lst zs)) ∧ (upd H3 tr (.lst zs)) p = some (.lst xs) := fun {H3 ys zs} h1 h2 h3 h4 =>
      ⟨same_put h1 nt, fun a us h => by
        rw [upd_ne (fun z => by have y := h2 _ _ h; rw [z, h4] at y; cases y)]
        exact h2 _ _ h, by rw [upd_ne hpt]; exact h3⟩
    obtain ⟨ax, zs, rfl, e2, e3, e4⟩ := Fm.parts dx'
    refine ⟨_, rfl, ax, _, _, _, rfl, rfl, SqT.of e2, at_of (j := 0) (v := .str (tagOf gm)) rfl rfl, ?_⟩
    cases gm with
    | sw x =>
      have ez := e3 x rfl
      subst ez
      have es' : st' = ev sw c (.sw x) :: st := (Option.some.inj es).symm
      subst es'
      refine ⟨_, rfl, rfl, _, rfl, iteDT rfl ?_⟩
      obtain ⟨i1, i2⟩ := ixOf_get (show x ∈ sw from ho)
      have i3 : ixOf x sw < c.length := by rw [o5]; exact ixOf_lt ho
      have ec : (c.map V.int)[ixOf x sw]? = some (.int (c.getD (ixOf x sw) 0)) := by
        rw [List.getElem?_map, List.getElem?_eq_getElem i3, List.getD_eq_getElem?_getD, List.getElem?_eq_getElem i3]
        rfl
      have o1' := o1.same k1
      have o1q := o1'.sq (K := K)
      obtain ⟨ob, b1, b2, b3⟩ := o1'
      have o4' : SqT K H2 b (c.map V.int) := same_tup k1 o4
      have ee : decide (V.int (c.getD (ixOf x sw) 0) = V.int 1) = ev sw c (.sw x) := by
        show _ = decide (c.getD (ixOf x sw) 0 = 1)
        by_cases z : c.getD (ixOf x sw) 0 = 1
        · rw [z, decide_eq_true rfl, decide_eq_true rfl]
        · rw [decide_eq_false z, decide_eq_false (fun y => z (V.int.inj y))]
      refine ⟨_, rfl, .inl ⟨rfl, _, SqL.of k3⟩, _, rfl, _, rfl, ⟨a, ob, _, rfl, b3, b1, b2⟩, _, rfl, ax, _, _, _, rfl, rfl, SqT.of e2, at_of (j := 1) (v := .str x) rfl rfl, a, sw, x, ixOf x sw, rfl, rfl, o1q, i1, i2, b, _, _, _, rfl, rfl, o4', at_of rfl ec, rfl, ?_⟩
      obtain ⟨p1, p2, p3⟩ := put (zs := stk (ev sw c (.sw x) :: st)) k1 kk k2 k3
      refine ⟨tr, _, _, rfl, rfl, k3, small _ (by rw [stk_len]; omega), ?_⟩
      have en : stk st ++ [V.bl (decide (V.int (c.getD (ixOf x sw) 0) = V.int 1))] = stk (ev sw c (.sw x) :: st) := by rw [ee, stk_cons]
      have r := fin _ (some (.ref ax)) (some (.str "switch")) c6 c7 p1 p2 p3 upd_same
      rw [← en] at r
      exact r
    | yes =>
      have es' : st' = true :: st := (Option.some.inj es).symm
      subst es'
      refine ⟨_, rfl, rfl, _, rfl, iteDF tYS ⟨_, rfl, rfl, _, rfl, iteDF tYT ⟨_, rfl, (by show 2 ≤ sizeLine; decide), fun u nu => ⟨u, _, rfl, .inr (SqT.of upd_same), rfl, rfl, _, rfl, ite2 (fun z => absurd z (by decide +kernel)) (fun _ => ?_)⟩⟩⟩⟩
      have g3 := same_new nu (.tup [.str "and", .str "or"])
      have ku : KeepT H1 (upd H2 u (.tup [.str "and", .str "or"])) := fun a us h => g3 _ _ (kk _ _ h)
      obtain ⟨p1, p2, p3⟩ := put (zs := stk (true :: st)) (k1.trans g3) ku (g3 _ _ k2) (g3 _ _ k3)
      refine ⟨_, rfl, .inl ⟨rfl, _, SqL.of (g3 _ _ k3)⟩, _, rfl, rfl, tr, _, _, rfl, rfl, g3 _ _ k3, small _ (by rw [stk_len]; omega), ?_⟩
      have en : stk st ++ [V.bl (decide ((V.str "yes" : V) = V.str "yes"))] = stk (true :: st) := by rw [decide_eq_true rfl, stk_cons]
      have r := fin _ (some (.ref ax)) (some (.str "yes")) c6 c7 p1 p2 p3 upd_same
      rw [← en] at r
      exact r
    | no =>
      have es' : st' = false :: st := (Option.some.inj es).symm
      subst es'
      refine ⟨_, rfl, rfl, _, rfl, iteDF tNS ⟨_, rfl, rfl, _, rfl, iteDF tNT ⟨_, rfl, (by show 2 ≤ sizeLine; decide), fun u nu => ⟨u, _, rfl, .inr (SqT.of upd_same), rfl, rfl, _, rfl, ite2 (fun z => absurd z (by decide +kernel)) (fun _ => ?_)⟩⟩⟩⟩
      have g3 := same_new nu (.tup [.str "and", .str "or"])
      have ku : KeepT H1 (upd H2 u (.tup [.str "and", .str "or"])) := fun a us h => g3 _ _ (kk _ _ h)
      obtain ⟨p1, p2, p3⟩ := put (zs := stk (false :: st)) (k1.trans g3) ku (g3 _ _ k2) (g3 _ _ k3)
      refine ⟨_, rfl, .inl ⟨rfl, _, SqL.of (g3 _ _ k3)⟩, _, rfl, rfl, tr, _, _, rfl, rfl, g3 _ _ k3, small _ (by rw [stk_len]; omega), ?_⟩
      have en : stk st ++ [V.bl (decide ((V.str "no" : V) = V.str "yes"))] = stk (false :: st) := by rw [decide_eq_false tYN.symm, stk_cons]
      have r := fin _ (some (.ref ax)) (some (.str "no")) c6 c7 p1 p2 p3 upd_same
      rw [← en] at r
      exact r
    | not f0 =>
      obtain ⟨b0, r0, rfl⟩ : ∃ b0 r0, st = b0 :: r0 := by
        cases st with
        | nil => cases es
        | cons b0 r0 => exact ⟨b0, r0, rfl⟩
      have es' : st' = (!b0) :: r0 := (Option.some.inj es).symm
      subst es'
      rw [stk_cons] at k3
      refine ⟨_, rfl, rfl, _, rfl, iteDF tST.symm ⟨_, rfl, rfl, _, rfl, iteDT rfl ?_⟩⟩
      refine ⟨_, rfl, .inl ⟨rfl, _, SqL.of k3⟩, _, rfl, .inl ⟨rfl, _, SqL.of k3⟩, tr, _, _, rfl, rfl, k3, stk_last _ _, _, rfl, ?_⟩
      obtain ⟨p1, p2, p3⟩ := put (zs := stk r0) k1 kk k2 k3
      obtain ⟨p4, p5, p6⟩ := put (zs := stk ((!b0) :: r0)) p1 p2 p3 upd_same
      rw [List.length_cons] at k4
      rw [List.dropLast_concat]
      refine ⟨tr, _, _, rfl, rfl, upd_same, small _ (by rw [stk_len]; omega), ?_⟩
      have en : stk r0 ++ [V.bl (!b0)] = stk ((!b0) :: r0) := (stk_cons _ _).symm
      have r := fin _ (some (.ref ax)) (some (.str "not")) c6 c7 p4 p5 p6 upd_same
      rw [← en] at r
      exact r
    | and f0 f1 =>
      obtain ⟨y0, x0, r0, rfl⟩ : ∃ y0 x0 r0, st = y0 :: x0 :: r0 := by
        match st, es with
        | y0 :: x0 :: r0, _ => exact ⟨y0, x0, r0, rfl⟩
      have es' : st' = (x0 && y0) :: r0 := (Option.some.inj es).symm
      subst es'
      rw [stk_cons] at k3
      rw [List.length_cons, List.length_cons] at k4
      refine ⟨_, rfl, rfl, _, rfl, iteDF tSA.symm ⟨_, rfl, rfl, _, rfl, iteDF tTA.symm ⟨_, rfl, (by show 2 ≤ sizeLine; decide), fun u nu => ⟨u, _, rfl, .inr (SqT.of upd_same), rfl, rfl, _, rfl, ite2 (fun _ => ?_) (fun z => absurd (show inV (V.str "and") [V.str "and", V.str "or"] = true by decide +kernel) z)⟩⟩⟩⟩
      have g3 := same_new nu (.tup [.str "and", .str "or"])
      have ku : KeepT H1 (upd H2 u (.tup [.str "and", .str "or"])) := fun a us h => g3 _ _ (kk _ _ h)
      obtain ⟨p1, p2, p3⟩ := put (zs := stk (x0 :: r0)) (k1.trans g3) ku (g3 _ _ k2) (g3 _ _ k3)
      obtain ⟨p4, p5, p6⟩ := put (zs := stk r0) p1 p2 p3 upd_same
      obtain ⟨p7, p8, p9⟩ := put (zs := stk ((x0 && y0) :: r0)) p4 p5 p6 upd_same
      refine ⟨_, rfl, .inl ⟨rfl, _, SqL.of (g3 _ _ k3)⟩, tr, _, _, rfl, rfl, g3 _ _ k3, stk_last _ _, ?_⟩
      rw [List.dropLast_concat]
      have k3' : (upd (upd H2 u (.tup [.str "and", .str "or"])) tr (.lst (stk (x0 :: r0)))) tr = some (.lst (stk r0 ++ [V.bl x0])) := by rw [upd_same, stk_cons]
      refine ⟨_, rfl, .inl ⟨rfl, _, SqL.of k3'⟩, tr, _, _, rfl, rfl, k3', stk_last _ _, ?_⟩
      rw [List.dropLast_concat]
      have en : stk r0 ++ [V.bl (x0 && y0)] = stk ((x0 && y0) :: r0) := (stk_cons _ _).symm
      have r := fin _ (some (.ref ax)) (some (.str "and")) (some (.bl y0)) (some (.bl x0)) p7 p8 p9 upd_same
      rw [← en] at r
      refine ⟨_, rfl, .inl ⟨rfl, _, SqL.of upd_same⟩, _, rfl, rfl, _, rfl, iteDT rfl ⟨_, rfl, _, rfl, ite2 (fun z => ?_) (fun z => ?_)⟩⟩
      · rw [show (x0 && y0) = y0 by rw [z]; rfl] at r
        exact ⟨_, rfl, tr, _, _, rfl, rfl, upd_same, small _ (by rw [stk_len]; omega), r⟩
      · rw [show (x0 && y0) = false by rw [Bool.eq_false_iff.mpr z]; rfl] at r
        exact ⟨tr, _, _, rfl, rfl, upd_same, small _ (by rw [stk_len]; omega), r⟩
    | or f0 f1 =>
      obtain ⟨y0, x0, r0, rfl⟩ : ∃ y0 x0 r0, st = y0 :: x0 :: r0 := by
        match st, es with
        | y0 :: x0 :: r0, _ => exact ⟨y0, x0, r0, rfl⟩
      have es' : st' = (x0 || y0) :: r0 := (Option.some.inj es).symm
      subst es'
      rw [stk_cons] at k3
      rw [List.length_cons, List.length_cons] at k4
      refine ⟨_, rfl, rfl, _, rfl, iteDF tSO.symm ⟨_, rfl, rfl, _, rfl, iteDF tTO.symm ⟨_, rfl, (by show 2 ≤ sizeLine; decide), fun u nu => ⟨u, _, rfl, .inr (SqT.of upd_same), rfl, rfl, _, rfl, ite2 (fun _ => ?_) (fun z => absurd (show inV (V.str "or") [V.str "and", V.str "or"] = true by decide +kernel) z)⟩⟩⟩⟩
      have g3 := same_new nu (.tup [.str "and", .str "or"])
      have ku : KeepT H1 (upd H2 u (.tup [.str "and", .str "or"])) := fun a us h => g3 _ _ (kk _ _ h)
      obtain ⟨p1, p2, p3⟩ := put (zs := stk (x0 :: r0)) (k1.trans g3) ku (g3 _ _ k2) (g3 _ _ k3)
      obtain ⟨p4, p5, p6⟩ := put (zs := stk r0) p1 p2 p3 upd_same
      obtain ⟨p7, p8, p9⟩ := put (zs := stk ((x0 || y0) :: r0)) p4 p5 p6 upd_same
      refine ⟨_, rfl, .inl ⟨rfl, _, SqL.of (g3 _ _ k3)⟩, tr, _, _, rfl, rfl, g3 _ _ k3, stk_last _ _, ?_⟩
      rw [List.dropLast_concat]
      have k3' : (upd (upd H2 u (.tup [.str "and", .str "or"])) tr (.lst (stk (x0 :: r0)))) tr = some (.lst (stk r0 ++ [V.bl x0])) := by rw [upd_same, stk_cons]
      refine ⟨_, rfl, .inl ⟨rfl, _, SqL.of k3'⟩, tr, _, _, rfl, rfl, k3', stk_last _ _, ?_⟩
      rw [List.dropLast_concat]
      have en : stk r0 ++ [V.bl (x0 || y0)] = stk ((x0 || y0) :: r0) := (stk_cons _ _).symm
      have r := fin _ (some (.ref ax)) (some (.str "or")) (some (.bl y0)) (some (.bl x0)) p7 p8 p9 upd_same
      rw [← en] at r
      refine ⟨_, rfl, .inl ⟨rfl, _, SqL.of upd_same⟩, _, rfl, rfl, _, rfl, iteDF tAO.symm ⟨_, rfl, _, rfl, ite2 (fun z => ?_) (fun z => ?_)⟩⟩
      · rw [show (x0 || y0) = true by rw [z]; rfl] at r
        exact ⟨tr, _, _, rfl, rfl, upd_same, small _ (by rw [stk_len]; omega), r⟩
      · rw [show (x0 || y0) = y0 by rw [Bool.eq_false_iff.mpr z]; rfl] at r
        exact ⟨_, rfl, tr, _, _, rfl, rfl, upd_same, small _ (by rw [stk_len]; omega), r⟩
  · rintro σ H2 ⟨st, c4, c5, c6, c7, rfl, k1, kk, k2, k3, k4, k5⟩
    rw [lx, List.drop_of_length_le (by rw [List.length_reverse]; exact Nat.le_refl _)] at k5
    have es : st = [ev sw c fm] := Option.some.inj k5
    subst es
    exact ⟨_, rfl, tr, _, _, _, rfl, rfl, SqL.of k3, at_of (j := 0) (v := .bl (ev sw c fm)) rfl rfl, q H2 k1⟩
end
end Ver

/-! ## _signs_of -/
namespace Ver
open PySem PySem.Spec PyProof.Rows L2
abbrev sSig : Stmt := top 14
theorem lex_run {u v : List Nat} (h0 : u ≠ []) (hu : ∀ c ∈ u, lett c = true) (hv : ∀ c, v.head? = some c → lett c = false) : lexA [] (u ++ v) = u :: lexA [] v := by
  have fu : flush u = [u] := by
    cases u with
    | nil => exact absurd rfl h0
    | cons a r => rfl
  cases v with
  | nil => rw [List.append_nil, lex_word u [] hu, List.nil_append, fu]; rfl
  | cons c v =>
    have hc := hv c rfl
    rw [lex_cut hc, lex_word u [] hu, List.nil_append, fu, lexA_cons, hc]
    rfl
theorem lex_one {c : Nat} {r : List Nat} (h : lett c = false) : lexA [] (c :: r) = sgn c ++ lexA [] r := by
  rw [lexA_cons, h]
  rfl
def spSig : Sp := fun vs H Q _ => ∃ x : Str, vs = [.str x] ∧ x.length ≤ 1000 ∧ ∀ (p : Addr) (H' : Hp) (ts : List Str), Same H H' → H p = none → ts.map cl = lexA [] (cl x) → H' p = some (.lst ((ts ++ [("" : Str)]).map V.str)) → Q (.ref p) H'
section
variable {P : Program} {w : World} {K : PySem.W.Frag} {mg : Str → Option Value} {base : Heap} {f g : Addr} {fd gd : FuncData}
theorem scSig : FnScope ["text", "signs", "begin", "end"] ["text"] (defScope sSig) := ⟨rfl, rfl, rfl, by decide +kernel, rfl, by decide +kernel, by decide +kernel⟩
theorem ok_sig {n : Nat} (F : Fun K "_signs_of" "_signs_of" sSig f fd) (ml : mg "len" = none)
    (mL : ∃ t, mg "SMALL_LETTERS" = some (.str letters t)) (mE : ∃ t, mg "_END" = some (.str "" t)) : FnOk P w K mg base CX0 (n + 1) f fd ["text"] spSig := by
  refine F.ok scSig (fun vs H Q E h => ?_) (fun cdv A outer s H vs Q E hr h => ?_)
  · obtain ⟨x, rfl, _⟩ := h
    rfl
  obtain ⟨x, rfl, hx, q⟩ := h
  have pl : ∀ {pos}, PE (cxOf CX0 P w K mg base ["text", "signs", "begin", "end"] "_signs_of" (defScope sSig) f cdv A outer s H E).nox (.Name "SMALL_LETTERS" pos) (tC (.str letters)) := fun {pos} => C8.pe_gc (v := .str letters) (by rfl) (by obtain ⟨t, e⟩ := mL; exact ⟨_, e, _, rfl⟩)
  refine ⟨_, pss_cons (ps_set (i := 1) scSig.nd rfl (.inl rfl) (pe_lst pa_nil))
    (pss_cons (ps_set (i := 2) scSig.nd rfl (.inl rfl) pe_int)
    (pss_cons (ps_while PassesOwn.never (pt_cmpR op_lt (pv 2) (pe_callB call_len_str (by rfl) ml PySem.boot_len (pa_cons (pv 0) pa_nil)) (nomark _))
      (pss_cons (ps_set (i := 3) scSig.nd rfl (.inl rfl) (pe_op op_add (pv 2) pe_int))
      (C8.pss_cut (ps_if (pt_cmpR op_in_str (pe_ix ix_str (pv 0) (pv 2) (fun _ _ => rfl)) pl (by rfl))
        (pss_one (ps_while PassesOwn.never (PW.pt (pw_and (pt_cmpR op_lt (pv 3) (pe_callB call_len_str (by rfl) ml PySem.boot_len (pa_cons (pv 0) pa_nil)) (nomark _)) (pw_and1 (pt_cmpR op_in_str (pe_ix ix_str (pv 0) (pv 3) (fun _ _ => rfl)) pl (by rfl)))))
          (pss_one (ps_aug (i := 3) scSig.nd rfl (.inl rfl) pe_int ip_add)))) pss_nil)
      (pss_cons (ps_if (pt_cmpR op_ne (pe_ix ix_str (pv 0) (pv 2) (fun _ _ => rfl)) pe_str (nomark _))
        (pss_one (ps_expr (pe_bm PySem.F.plainAttrs_list PySem.F.slot_list_append PySem.F.type_list_append mt_append (pv 1) (pa_cons (pe_slice sl_str (pv 0) (po_some (pv 2)) (po_some (pv 3))) pa_nil)))) pss_nil)
      (pss_one (ps_set (i := 2) scSig.nd rfl (.inl rfl) (pv 3)))))))
    (pss_one (ps_ret (pe_op op_cat (pv 1) (pe_lst (pa_cons (C8.pe_gc (v := .str "") (by rfl) (by obtain ⟨t, e⟩ := mE; exact ⟨_, e, _, rfl⟩)) pa_nil))))))), ?_⟩
  have hz := room5 hx
  have hl : (cl x).length = x.length := cl_len x
  refine ⟨(by show 0 ≤ sizeLine; decide), fun p np => ?_⟩
  refine ⟨fun m σ H' => ∃ (b : Nat) (ts : List Str) (c : Option V), σ = [some (.str x), some (.ref p), some (.int b), c] ∧ b ≤ x.length ∧ H' p = some (.lst (ts.map V.str)) ∧ ts.map cl ++ lexA [] ((cl x).drop b) = lexA [] (cl x) ∧ Same H H' ∧ ts.length ≤ b ∧ m = x.length - b,
    ⟨_, 0, [], none, rfl, Nat.zero_le _, upd_same, rfl, same_new np _, Nat.le_refl _, rfl⟩, ?_⟩
  rintro m σ H1 ⟨b, ts, c0, rfl, hb, hp, hlex, hs, hts, rfl⟩
  refine ⟨_, rfl, _, rfl, x, rfl, hz, _, _, rfl, rfl, _, rfl, ite2 (fun c1 => ?_) (fun c1 => ?_)⟩
  · have hb' : b < x.length := by
      have := of_decide_eq_true c1
      omega
    have hbl : b < (cl x).length := by omega
    refine ⟨fun σ' H' => ∃ m', m' < x.length - b ∧ ∃ (b : Nat) (ts : List Str) (c : Option V), σ' = [some (.str x), some (.ref p), some (.int b), c] ∧ b ≤ x.length ∧ H' p = some (.lst (ts.map V.str)) ∧ ts.map cl ++ lexA [] ((cl x).drop b) = lexA [] (cl x) ∧ Same H H' ∧ ts.length ≤ b ∧ m' = x.length - b, fun σ' H' h => h, ?_⟩
    refine ⟨_, rfl, _, _, rfl, rfl, ?_⟩
    have hdb : (cl x).drop b = (cl x)[b] :: (cl x).drop (b + 1) := List.drop_eq_getElem_cons hbl
    have hat : atI (cl x) (b : Int) = some (cl x)[b] := atI_nat (List.getElem?_eq_getElem hbl)
    refine ⟨fun σ' H' => H' = H1 ∧ ∃ e : Nat, σ' = [some (.str x), some (.ref p), some (.int b), some (.int e)] ∧ b < e ∧ e ≤ x.length ∧ (lett (cl x)[b] = true → (∀ c ∈ ((cl x).drop b).take (e - b), lett c = true) ∧ ∀ c, ((cl x).drop e).head? = some c → lett c = false) ∧ (lett (cl x)[b] = false → e = b + 1), ?_, ?_⟩
    · refine ⟨_, rfl, _, rfl, x, _, _, rfl, rfl, hz, hat, _, _, rfl, rfl, _, rfl, ?_⟩
      rw [in_letters]
      have e1 : ((b : Int) + 1) = ((b + 1 : Nat) : Int) := by omega
      refine ite2 (fun c2 => ?_) (fun c2 => ?_)
      · refine ⟨fun m σ' H' => H' = H1 ∧ ∃ e : Nat, σ' = [some (.str x), some (.ref p), some (.int b), some (.int e)] ∧ b < e ∧ e ≤ x.length ∧ (∀ c ∈ ((cl x).drop b).take (e - b), lett c = true) ∧ m = x.length - e, ⟨_, rfl, b + 1, by rw [← e1]; rfl, by omega, by omega, ?_, rfl⟩, ?_⟩
        · intro c hc
          rw [hdb, Nat.add_sub_cancel_left] at hc
          rw [List.mem_singleton.mp (show c ∈ [(cl x)[b]] from hc)]
          exact c2
        rintro m σ' H' ⟨rfl, e, rfl, he1, he2, he3, rfl⟩
        refine ⟨_, rfl, _, rfl, x, rfl, hz, _, _, rfl, rfl, _, rfl, ite2 (fun c3 => ?_) (fun c3 => ?_)⟩
        · have he' : e < (cl x).length := by
            have := of_decide_eq_true c3
            omega
          have hde : (cl x).drop e = (cl x)[e] :: (cl x).drop (e + 1) := List.drop_eq_getElem_cons he'
          refine ⟨_, rfl, _, rfl, x, _, _, rfl, rfl, hz, atI_nat (List.getElem?_eq_getElem he'), _, _, rfl, rfl, _, rfl, ?_⟩
          rw [in_letters]
          refine ite2 (fun c4 => ?_) (fun c4 => ?_)
          · refine ⟨fun σ'' H'' => ∃ m', m' < x.length - e ∧ H'' = H' ∧ ∃ e : Nat, σ'' = [some (.str x), some (.ref p), some (.int b), some (.int e)] ∧ b < e ∧ e ≤ x.length ∧ (∀ c ∈ ((cl x).drop b).take (e - b), lett c = true) ∧ m' = x.length - e, fun σ' H' h => h, ?_⟩
            refine ⟨_, rfl, _, _, rfl, rfl, _, ?_, rfl, e + 1, ?_, by omega, by omega, ?_, rfl⟩
            · omega
            · show [some (V.str x), some (V.ref p), some (V.int b), some (V.int ((e : Int) + 1))] = _
              rw [show ((e : Int) + 1) = ((e + 1 : Nat) : Int) by omega]
            · intro c hc
              rw [show e + 1 - b = (e - b) + 1 by omega, List.take_succ, List.getElem?_drop, show b + (e - b) = e by omega, List.getElem?_eq_getElem he'] at hc
              rcases List.mem_append.mp hc with z | z
              · exact he3 c z
              · rw [List.mem_singleton.mp (show c ∈ [(cl x)[e]] from z)]
                exact c4
          · refine ⟨rfl, e, rfl, he1, he2, fun _ => ⟨he3, fun c hc => ?_⟩, fun z => ?_⟩
            · rw [hde] at hc
              cases hc
              exact Bool.eq_false_iff.mpr c4
            · rw [z] at c2
              cases c2
        · have he' : e = x.length := by
            by_cases z : e < x.length
            · exact absurd (decide_eq_true (show ((e : Int) < (x.length : Int)) by omega)) c3
            · omega
          refine ⟨rfl, e, rfl, he1, he2, fun _ => ⟨he3, fun c hc => ?_⟩, fun z => ?_⟩
          · rw [List.drop_eq_nil_of_le (by omega)] at hc
            cases hc
          · rw [z] at c2
            cases c2
      · refine ⟨rfl, b + 1, ?_, by omega, by omega, fun z => absurd z c2, fun _ => rfl⟩
        rw [← e1]
        rfl
    · rintro σ' H' ⟨rfl, e, rfl, he1, he2, he3, he4⟩
      refine ⟨_, rfl, _, rfl, x, _, _, rfl, rfl, hz, hat, rfl, _, rfl, ?_⟩
      -- the sign's own text
      have hcut : cl (cutS x (some (b : Int)) (some (e : Int))) = ((cl x).drop b).take (e - b) := by
        show (((cl x).drop (HT.sIx x.length 0 (some ((b : Nat) : Int)))).take (HT.sIx x.length x.length (some ((e : Nat) : Int)) - HT.sIx x.length 0 (some ((b : Nat) : Int)))).toArray.toList = _
        rw [HT.sIx_nat, HT.sIx_nat, Nat.min_eq_left (Nat.le_of_lt hb'), Nat.min_eq_left he2]
      have hsplit : (cl x).drop b = ((cl x).drop b).take (e - b) ++ (cl x).drop e := by
        have z := List.take_append_drop (e - b) ((cl x).drop b)
        rw [List.drop_drop, show b + (e - b) = e by omega] at z
        exact z.symm
      have htake1 : e = b + 1 → ((cl x).drop b).take (e - b) = [(cl x)[b]] := fun z => by
        rw [hdb, z, Nat.add_sub_cancel_left]
        rfl
      have hstep : (cl x)[b] ≠ 32 → lexA [] ((cl x).drop b) = ((cl x).drop b).take (e - b) :: lexA [] ((cl x).drop e) := fun h32 => by
        cases hlb : lett (cl x)[b] with
        | true =>
          obtain ⟨h1, h2⟩ := he3 hlb
          have h0 : ((cl x).drop b).take (e - b) ≠ [] := by
            intro z
            have := congrArg List.length z
            rw [List.length_take, List.length_drop, List.length_nil] at this
            omega
          have z := lex_run h0 h1 h2
          rw [← hsplit] at z
          exact z
        | false =>
          have z := he4 hlb
          rw [htake1 z, z, hdb, lex_one hlb]
          unfold sgn
          rw [if_neg h32]
          rfl
      have hskip : (cl x)[b] = 32 → lexA [] ((cl x).drop b) = lexA [] ((cl x).drop e) := fun h32 => by
        have hlb : lett (cl x)[b] = false := by rw [h32]; decide
        have z := he4 hlb
        rw [z, hdb, lex_one hlb]
        unfold sgn
        rw [if_pos h32]
        rfl
      refine ite2 (fun c5 => ?_) (fun c5 => ?_)
      · have h32 : (cl x)[b] ≠ 32 := fun z => by
          rw [z] at c5
          exact absurd c5 (by decide +kernel)
        refine ⟨_, rfl, .inl ⟨rfl, _, SqL.of hp⟩, _, rfl, _, rfl, _, rfl, _, rfl, _, rfl, x, rfl, hz, p, _, _, rfl, rfl, hp, ?_, ?_⟩
        · rw [List.length_map]
          exact Nat.lt_of_le_of_lt (show ts.length ≤ 1000 by omega) (by decide)
        · refine ⟨_, rfl, _, ?_, e, ts ++ [cutS x (some (b : Int)) (some (e : Int))], _, rfl, he2, ?_, ?_, same_put hs np, ?_, rfl⟩
          · omega
          · rw [upd_same, List.map_append]
            rfl
          · rw [List.map_append, List.append_assoc, ← hlex, hstep h32]
            show _ ++ ([cl (cutS x (some (b : Int)) (some (e : Int)))] ++ _) = _
            rw [hcut]
            rfl
          · rw [List.length_append]
            show ts.length + 1 ≤ e
            omega
      · have h32 : (cl x)[b] = 32 := by
          have z : (V.str ⟨#[(cl x)[b]]⟩ : V) = V.str " " := by
            by_cases z : (V.str ⟨#[(cl x)[b]]⟩ : V) = V.str " "
            · exact z
            · rw [decide_eq_false z] at c5
              exact absurd rfl c5
          have z2 : cl ⟨#[(cl x)[b]]⟩ = cl " " := congrArg cl (V.str.inj z)
          have z3 : cl " " = [32] := by decide +kernel
          rw [z3] at z2
          exact (List.cons.inj z2).1
        refine ⟨_, rfl, _, ?_, e, ts, _, rfl, he2, hp, ?_, hs, by omega, rfl⟩
        · omega
        · rw [← hlex, hskip h32]
  · have hbe : b = x.length := by
      by_cases z : b < x.length
      · exact absurd (decide_eq_true (show ((b : Int) < (x.length : Int)) by omega)) c1
      · omega
    have hnil : (cl x).drop b = [] := List.drop_eq_nil_of_le (by omega)
    rw [hnil] at hlex
    have hlex2 : ts.map cl = lexA [] (cl x) := by
      rw [← hlex]
      show _ = _ ++ []
      rw [List.append_nil]
    refine ⟨_, rfl, (by show 1 ≤ sizeLine; decide), fun p2 n2 => ⟨p, p2, ts.map V.str, [.str ""], rfl, rfl, ?_, upd_same, ?_, fun p3 n3 => ?_⟩⟩
    · rw [upd_ne (ne_of_none hp n2)]
      exact hp
    · rw [List.length_map]
      show ts.length + 1 ≤ sizeLine
      exact Nat.le_trans (show ts.length + 1 ≤ 1001 by omega) (by decide)
    · have s2 : Same H (upd H1 p2 (.lst [.str ""])) := hs.trans (same_new n2 _)
      refine q p3 _ ts (s2.trans (same_new n3 _)) (s2.free n3) hlex2 ?_
      rw [upd_same, List.map_append]
      rfl
end
end Ver

/-! ## Reading: _read_single -/
namespace Ver
open PySem PySem.Spec PyProof.Rows L2
abbrev sRs : Stmt := top 18
abbrev sRp : Stmt := top 17
abbrev sRb : Stmt := top 16
abbrev sRe : Stmt := top 15
abbrev sRf : Stmt := top 13
abbrev bmV : List Value := [.type "ValueError", .type "Exception", .type "BaseException", .type "object"]
/-- the error's class -/
structure BadF (K : PySem.W.Frag) (mg : Str → Option Value) (C : Addr) : Prop where
  q : PySem.W.excIn K C bmV "ValueError.__new__" = true
  g : mg "BadFormula" = some (.ref C)
  k : PySem.W.keepIn K (.ref C) = true
  r1 : PySem.W.subIn K (.ref C) (.type "BaseException") = some true
  r2 : PySem.W.typeIn K (.ref C) = some (.type "type")
theorem len_app (a b : Str) : (a ++ b).length = a.length + b.length := by
  rw [← cl_len, cl_app, List.length_append]
  rfl
theorem excV : ExcBaseFacts "ValueError" "ValueError.__new__" "ValueError.__init__" bmV := PySem.F.excBase_ValueError
/-- nothing was taken from what stood, new things stand -/
def spRs (C : Addr) : Sp := fun vs H Q E => ∃ (s : Addr) (sw : List Str) (x : Str), vs = [.ref s, .str x] ∧ SwT H s sw ∧ sw.length ≤ 5 ∧ x.length ≤ 1000 ∧
  (match single sw (cl x) with
    | some f => ∀ v H', Same H H' → Dv H' v f.toD → Q v H'
    | none => ∀ H', Same H H' → E (.ref C) none H')
section
variable {P : Program} {w : World} {K : PySem.W.Frag} {mg : Str → Option Value} {base : Heap} {f g C : Addr} {fd gd : FuncData}
theorem scRs : FnScope ["switches", "sign"] ["switches", "sign"] (defScope sRs) := ⟨rfl, rfl, rfl, by decide +kernel, rfl, by decide +kernel, by decide +kernel⟩
theorem ok_rs {n : Nat} (F : Fun K "_read_single" "_read_single" sRs f fd) (B : BadF K mg C) (mE : ∃ t, mg "_END" = some (.str "" t)) : FnOk P w K mg base (L2.CX P w) (n + 1) f fd ["switches", "sign"] (spRs C) := by
  refine F.okX scRs (fun vs H Q E h => ?_) (fun cdv A outer s H vs Q E hr h => ?_)
  · obtain ⟨a, sw, x, rfl, _⟩ := h
    rfl
  obtain ⟨a, sw, x, rfl, hs, h5, hx, q⟩ := h
  have tk := takes_of (X := cxOf (L2.CX P w) P w K mg base ["switches", "sign"] "_read_single" (defScope sRs) f cdv A outer s H E) (E := E) rfl rfl rfl rfl
  have rC : Raises (cxOf (L2.CX P w) P w K mg base ["switches", "sign"] "_read_single" (defScope sRs) f cdv A outer s H E) (.ref C) := raises_own B.r1 B.r2
  refine ⟨_, pss_cons (ps_if (pt_cmpR op_eq (pv 1) pe_str (nomark _)) (pss_one (ps_ret (pe_tup (pa_cons pe_str pa_nil)))) pss_nil)
    (pss_cons (ps_if (pt_cmpR op_eq (pv 1) pe_str (nomark _)) (pss_one (ps_ret (pe_tup (pa_cons pe_str pa_nil)))) pss_nil)
    (pss_cons (ps_if (pt_cmpR (op_in_seq) (pv 1) (pv 0) (by rfl)) (pss_one (ps_ret (pe_tup (pa_cons pe_str (pa_cons (pv 1) pa_nil))))) pss_nil)
    (pss_cons (ps_if (pt_cmpR op_eq (pv 1) (C8.pe_gc (v := .str "") (by rfl) (by obtain ⟨t, e⟩ := mE; exact ⟨_, e, _, rfl⟩)) (by rfl)) (pss_one (ps_raise rfl tk (SkE.pmk_own1 excV B.q B.g B.k rC (by rfl) pe_str))) pss_nil)
    (pss_one (ps_raise rfl tk (SkE.pmk_own1 excV B.q B.g B.k rC (by rfl) (pe_joined (PJ.cons (pe_fmt (pv 1)) (PJ.cons pe_str PJ.nil))))))))), ?_⟩
  have s1 : ∀ (t : Str), (V.str x : V) = V.str t → x = t := fun t e => V.str.inj e
  refine ⟨_, rfl, rfl, _, rfl, ite2 (fun c1 => ?_) (fun c1 => ?_)⟩
  · have e := s1 _ (of_decide_eq_true c1)
    subst e
    have es : single sw (cl "0") = some .no := by unfold single; rw [if_pos c48]
    rw [es] at q
    exact ⟨(by show 1 ≤ sizeLine; decide), fun p np => q _ _ (same_new np _) (Dv.tup upd_same (DvAll.cons Dv.str DvAll.nil))⟩
  have n1 : cl x ≠ [48] := fun z => c1 (decide_eq_true (congrArg V.str (cl_inj (z.trans c48.symm))))
  refine ⟨_, rfl, rfl, _, rfl, ite2 (fun c2 => ?_) (fun c2 => ?_)⟩
  · have e := s1 _ (of_decide_eq_true c2)
    subst e
    have es : single sw (cl "1") = some .yes := by unfold single; rw [if_neg n1, if_pos c49]
    rw [es] at q
    exact ⟨(by show 1 ≤ sizeLine; decide), fun p np => q _ _ (same_new np _) (Dv.tup upd_same (DvAll.cons Dv.str DvAll.nil))⟩
  have n2 : cl x ≠ [49] := fun z => c2 (decide_eq_true (congrArg V.str (cl_inj (z.trans c49.symm))))
  have es : single sw (cl x) = (sw.find? fun y => decide (cl y = cl x)).map Fm.sw := by unfold single; rw [if_neg n1, if_neg n2]
  rw [es] at q
  refine ⟨_, rfl, _, rfl, a, _, rfl, .inr hs.sq, rfl, ?_, _, rfl, ?_⟩
  · rw [List.all_map]
    exact List.all_eq_true.mpr fun _ _ => rfl
  have hin : inV (V.str x) (sw.map V.str) = (sw.find? fun y => decide (cl y = cl x)).isSome := by
    clear q es hs h5
    induction sw with
    | nil => rfl
    | cons y r ih =>
      show (eqV (V.str y) (V.str x) || inV (V.str x) (r.map V.str)) = _
      rw [ih, List.find?_cons]
      have e : eqV (V.str y) (V.str x) = decide (cl y = cl x) := by
        by_cases z : y = x
        · subst z
          rw [decide_eq_true rfl]
          simp [eqV]
        · rw [decide_eq_false fun w => z (cl_inj w)]
          simp [eqV, z]
      rw [e]
      cases decide (cl y = cl x) <;> rfl
  rw [if_neg (by decide), hin]
  cases hf : sw.find? (fun y => decide (cl y = cl x)) with
  | some y =>
    rw [hf] at q
    have ey : y = x := cl_inj (of_decide_eq_true (List.find?_some (p := fun y => decide (cl y = cl x)) hf))
    subst ey
    refine iteT ⟨_, rfl, (by show 2 ≤ sizeLine; decide), fun p np => ?_⟩
    exact q _ _ (same_new np _) (Dv.tup upd_same (DvAll.cons Dv.str (DvAll.cons Dv.str DvAll.nil)))
  | none =>
    rw [hf] at q
    refine iteF ⟨_, rfl, rfl, _, rfl, ite2 (fun c3 => ?_) (fun c3 => ?_)⟩
    · exact q _ (Same.refl H)
    · refine ⟨_, rfl, .inl ⟨x, rfl, room5 hx, x, rfl, ?_, _, rfl, ?_, q _ (Same.refl H)⟩⟩
      · rw [len_app]
        exact room5 (by show 0 + x.length ≤ 1000; omega)
      · have hk : (" begins no part and is no switch" : Str).length = 32 := by decide +kernel
        rw [len_app, len_app, hk]
        exact Nat.le_trans (show 0 + x.length + 32 ≤ 2000 by omega) (by decide)
end
end Ver

/-! ## Reading: _read_both, _read_either -/
namespace Ver
open PySem PySem.Spec PyProof.Rows L2
theorem rdB_cuts (s : List Str) (m : Nat) : Cuts (rdB s m) := chain_cuts (rdP_cuts s m)
/-- the switches and the signs, as they stand -/
def Rd (H : Hp) (a : Addr) (sw : List Str) (p : Addr) (ts : List Str) : Prop := SwT H a sw ∧ sw.length ≤ 5 ∧ H p = some (.lst ((ts ++ [("" : Str)]).map V.str)) ∧ ts.length ≤ 1000 ∧ (∀ t ∈ ts, t.length ≤ 1000) ∧ Named sw
theorem Rd.same {H H' : Hp} {a : Addr} {sw : List Str} {p : Addr} {ts : List Str} (h : Rd H a sw p ts) (e : Same H H') : Rd H' a sw p ts := ⟨h.1.same e, h.2.1, e _ _ h.2.2.1, h.2.2.2⟩
def spRd (R : List Str → Nat → List Tok' → Option (Fm × List Tok')) (C : Addr) (n : Nat) : Sp := fun vs H Q E => ∃ (a : Addr) (sw : List Str) (p : Addr) (ts : List Str) (i : Nat), vs = [.ref a, .ref p, .int i] ∧ Rd H a sw p ts ∧ i ≤ ts.length ∧ ts.length - i < n ∧
  (match R sw n ((ts.map cl).drop i) with
    | some (f, r) => ∀ v H' (b : Addr) (j : Nat), j ≤ ts.length → (ts.map cl).drop j = r → Same H H' → H' b = some (.tup [v, .int j]) → Dv H' v f.toD → Q (.ref b) H'
    | none => ∀ H', Same H H' → E (.ref C) none H')
theorem sg_at (ts : List Str) {j : Nat} (h : j ≤ ts.length) : ∃ t, (ts ++ [("" : Str)])[j]? = some t ∧ ((j < ts.length ∧ (ts.map cl).drop j = cl t :: (ts.map cl).drop (j + 1)) ∨ (j = ts.length ∧ t = "" ∧ (ts.map cl).drop j = [])) := by
  by_cases z : j < ts.length
  · refine ⟨ts[j], by rw [List.getElem?_append_left z, List.getElem?_eq_getElem z], .inl ⟨z, ?_⟩⟩
    rw [List.drop_eq_getElem_cons (by rw [List.length_map]; exact z), List.getElem_map]
  · have e : j = ts.length := by omega
    subst e
    exact ⟨"", by rw [List.getElem?_append_right (Nat.le_refl _), Nat.sub_self]; rfl, .inr ⟨rfl, rfl, List.drop_eq_nil_of_le (by rw [List.length_map]; exact Nat.le_refl _)⟩⟩
section
variable {P : Program} {w : World} {K : PySem.W.Frag} {mg : Str → Option Value} {base : Heap} {f g C : Addr} {fd gd : FuncData}
theorem scRb : FnScope ["switches", "signs", "at", "formula", "second"] ["switches", "signs", "at"] (defScope sRb) := ⟨rfl, rfl, rfl, by decide +kernel, rfl, by decide +kernel, by decide +kernel⟩
theorem ok_rb {n k : Nat} (F : Fun K "_read_both" "_read_both" sRb f fd) (G : FnOk P w K mg base (L2.CX P w) k g gd ["switches", "signs", "at"] (spRd rdP C n)) (bG : Binds K gd ["switches", "signs", "at"] []) (kG : PySem.W.keepIn K (.ref g) = true) (mG : mg "_read_part" = some (.ref g)) :
    FnOk P w K mg base (L2.CX P w) (k + 1) f fd ["switches", "signs", "at"] (spRd rdB C n) := by
  refine F.okX scRb (fun vs H Q E h => ?_) (fun cdv A outer s H vs Q E hr h => ?_)
  · obtain ⟨a, sw, p, ts, i, rfl, _⟩ := h
    rfl
  obtain ⟨a, sw, p, ts, i, rfl, hz, hi, hf, q⟩ := h
  have tk := takes_of (X := cxOf (L2.CX P w) P w K mg base ["switches", "signs", "at", "formula", "second"] "_read_both" (defScope sRb) f cdv A outer s H E) (E := E) rfl rfl rfl rfl
  have own : PassesOwn (model P w) (cxOf (L2.CX P w) P w K mg base ["switches", "signs", "at", "formula", "second"] "_read_both" (defScope sRb) f cdv A outer s H E).A (cxOf (L2.CX P w) P w K mg base ["switches", "signs", "at", "formula", "second"] "_read_both" (defScope sRb) f cdv A outer s H E).env (cxOf (L2.CX P w) P w K mg base ["switches", "signs", "at", "formula", "second"] "_read_both" (defScope sRb) f cdv A outer s H E).xe :=
    passes_of (X := cxOf (L2.CX P w) P w K mg base ["switches", "signs", "at", "formula", "second"] "_read_both" (defScope sRb) f cdv A outer s H E) rfl
  refine ⟨_, pss_cons (ps_asg (pe_callS G hr (by rfl) mG kG bG (fun σ => passAt tk σ) (pa_cons (pv 0) (pa_cons (pv 1) (pa_cons (pv 2) pa_nil)))) (pg_tup rfl (pgs_cons (pg_name (i := 3) scRb.nd rfl (.inl rfl)) (pgs_cons (pg_name (i := 2) scRb.nd rfl (.inl rfl)) pgs_nil))))
    (pss_cons (ps_while own (pt_cmpR op_eq (pe_ix ix_list (pv 1) (pv 2) (fun _ _ => rfl)) pe_str (nomark _))
      (pss_cons (ps_asg (pe_callS G hr (by rfl) mG kG bG (fun σ => passAt tk σ) (pa_cons (pv 0) (pa_cons (pv 1) (pa_cons (pe_op op_add (pv 2) pe_int) pa_nil)))) (pg_tup rfl (pgs_cons (pg_name (i := 4) scRb.nd rfl (.inl rfl)) (pgs_cons (pg_name (i := 2) scRb.nd rfl (.inl rfl)) pgs_nil))))
      (pss_one (ps_set (i := 3) scRb.nd rfl (.inl rfl) (pe_tup (pa_cons pe_str (pa_cons (pv 3) (pa_cons (pv 4) pa_nil))))))))
    (pss_one (ps_ret (pe_tup (pa_cons (pv 3) (pa_cons (pv 2) pa_nil)))))), ?_⟩
  have eR : rdB sw n ((ts.map cl).drop i) = match rdP sw n ((ts.map cl).drop i) with
    | none => none
    | some (f, r) => loop [38] .and (rdP sw n) f r := rfl
  refine ⟨_, rfl, _, rfl, _, rfl, a, sw, p, ts, i, rfl, hz, hi, hf, ?_⟩
  cases h1 : rdP sw n ((ts.map cl).drop i) with
  | none =>
    rw [h1] at eR
    rw [eR] at q
    exact fun H' e => q H' e
  | some fr =>
    obtain ⟨f1, r1⟩ := fr
    rw [h1] at eR
    intro v H1 b j hj hr1 g1 e1 d1
    refine ⟨b, _, rfl, SqT.of e1, rfl, _, _, rfl, _, _, rfl, rfl, ?_⟩
    refine ⟨fun m σ H' => ∃ (f : Fm) (v : V) (j : Nat) (c : Option V), σ = [some (.ref a), some (.ref p), some (.int j), some v, c] ∧ j ≤ ts.length ∧ ts.length - j ≤ ts.length - i ∧ Dv H' v f.toD ∧ Same H H' ∧ loop [38] .and (rdP sw n) f ((ts.map cl).drop j) = rdB sw n ((ts.map cl).drop i) ∧ m = ts.length - j,
      ⟨_, f1, v, j, none, rfl, hj, ?_, d1, g1, by rw [hr1]; exact eR.symm, rfl⟩, ?_⟩
    · have := rdP_cuts sw n _ _ _ h1
      rw [← hr1, List.length_drop, List.length_drop, List.length_map] at this
      omega
    rintro m σ H2 ⟨f2, v2, j2, c2, rfl, hj2, hji, d2, g2, e2, rfl⟩
    obtain ⟨t, ht, hcase⟩ := sg_at ts hj2
    have hz2 := hz.same g2
    refine ⟨_, rfl, _, rfl, p, _, _, _, rfl, rfl, SqL.of hz2.2.2.1, at_of (j := j2) rfl (by rw [List.getElem?_map, ht]; rfl), rfl, _, rfl, ite2 (fun c1 => ?_) (fun c1 => ?_)⟩
    · have et : t = "&" := V.str.inj (of_decide_eq_true c1)
      rcases hcase with ⟨hlt, hdr⟩ | ⟨_, z, _⟩
      · rw [et, c38] at hdr
        rw [hdr, loop_step (rdP_cuts sw n)] at e2
        refine ⟨fun σ' H' => ∃ m', m' < ts.length - j2 ∧ ∃ (f : Fm) (v : V) (j : Nat) (c : Option V), σ' = [some (.ref a), some (.ref p), some (.int j), some v, c] ∧ j ≤ ts.length ∧ ts.length - j ≤ ts.length - i ∧ Dv H' v f.toD ∧ Same H H' ∧ loop [38] .and (rdP sw n) f ((ts.map cl).drop j) = rdB sw n ((ts.map cl).drop i) ∧ m' = ts.length - j, fun σ' H' h => h, ?_⟩
        refine ⟨_, rfl, _, rfl, _, rfl, _, _, rfl, rfl, a, sw, p, ts, j2 + 1, ?_, hz2, by omega, by omega, ?_⟩
        · show [V.ref a, V.ref p, V.int ((j2 : Int) + 1)] = _
          rw [show ((j2 : Int) + 1) = ((j2 + 1 : Nat) : Int) by omega]
        cases h3 : rdP sw n ((ts.map cl).drop (j2 + 1)) with
        | none =>
          rw [h3] at e2
          rw [← e2] at q
          exact fun H' e => q H' (g2.trans e)
        | some fr =>
          obtain ⟨f3, r3⟩ := fr
          rw [h3] at e2
          intro v3 H3 b3 j3 hj3 hr3 g3 e3 d3
          refine ⟨b3, _, rfl, SqT.of e3, rfl, _, _, rfl, _, _, rfl, rfl, ?_⟩
          refine ⟨_, rfl, _, rfl, (by show 3 ≤ sizeLine; decide), fun p4 n4 => ?_⟩
          have hlen := rdP_cuts sw n _ _ _ h3
          rw [← hr3, List.length_drop, List.length_drop, List.length_map] at hlen
          have kt := KeepT.of (same_new n4 (.tup [.str "and", v2, v3]))
          refine ⟨_, ?_, .and f2 f3, _, j3, _, rfl, hj3, by omega, ?_, (g2.trans g3).trans (same_new n4 _), ?_, rfl⟩
          · omega
          · exact Dv.tup upd_same (DvAll.cons Dv.str (DvAll.cons (Dv.keep kt _ _ (Dv.keep (KeepT.of g3) _ _ d2)) (DvAll.cons (Dv.keep kt _ _ d3) DvAll.nil)))
          · rw [hr3]
            exact e2
      · rw [z] at et
        exact absurd et (by decide +kernel)
    · have hstop : ((ts.map cl).drop j2).head? ≠ some [38] := by
        rcases hcase with ⟨hlt, hdr⟩ | ⟨_, _, hdr⟩
        · rw [hdr]
          intro z
          have z2 : cl t = [38] := Option.some.inj z
          exact c1 (decide_eq_true (congrArg V.str (cl_inj (z2.trans c38.symm))))
        · rw [hdr]
          exact fun z => nomatch z
      rw [loop_stop hstop] at e2
      rw [← e2] at q
      refine ⟨_, rfl, _, rfl, (by show 2 ≤ sizeLine; decide), fun p4 n4 => ?_⟩
      exact q v2 _ p4 j2 hj2 rfl (g2.trans (same_new n4 _)) upd_same (Dv.keep (KeepT.of (same_new n4 _)) _ _ d2)
theorem scRe : FnScope ["switches", "signs", "at", "formula", "second"] ["switches", "signs", "at"] (defScope sRe) := ⟨rfl, rfl, rfl, by decide +kernel, rfl, by decide +kernel, by decide +kernel⟩
theorem ok_re {n k : Nat} (F : Fun K "_read_either" "_read_either" sRe f fd) (G : FnOk P w K mg base (L2.CX P w) k g gd ["switches", "signs", "at"] (spRd rdB C n)) (bG : Binds K gd ["switches", "signs", "at"] []) (kG : PySem.W.keepIn K (.ref g) = true) (mG : mg "_read_both" = some (.ref g)) :
    FnOk P w K mg base (L2.CX P w) (k + 1) f fd ["switches", "signs", "at"] (spRd rdE C n) := by
  refine F.okX scRe (fun vs H Q E h => ?_) (fun cdv A outer s H vs Q E hr h => ?_)
  · obtain ⟨a, sw, p, ts, i, rfl, _⟩ := h
    rfl
  obtain ⟨a, sw, p, ts, i, rfl, hz, hi, hf, q⟩ := h
  have tk := takes_of (X := cxOf (L2.CX P w) P w K mg base ["switches", "signs", "at", "formula", "second"] "_read_either" (defScope sRe) f cdv A outer s H E) (E := E) rfl rfl rfl rfl
  have own : PassesOwn (model P w) (cxOf (L2.CX P w) P w K mg base ["switches", "signs", "at", "formula", "second"] "_read_either" (defScope sRe) f cdv A outer s H E).A (cxOf (L2.CX P w) P w K mg base ["switches", "signs", "at", "formula", "second"] "_read_either" (defScope sRe) f cdv A outer s H E).env (cxOf (L2.CX P w) P w K mg base ["switches", "signs", "at", "formula", "second"] "_read_either" (defScope sRe) f cdv A outer s H E).xe :=
    passes_of (X := cxOf (L2.CX P w) P w K mg base ["switches", "signs", "at", "formula", "second"] "_read_either" (defScope sRe) f cdv A outer s H E) rfl
  refine ⟨_, pss_cons (ps_asg (pe_callS G hr (by rfl) mG kG bG (fun σ => passAt tk σ) (pa_cons (pv 0) (pa_cons (pv 1) (pa_cons (pv 2) pa_nil)))) (pg_tup rfl (pgs_cons (pg_name (i := 3) scRe.nd rfl (.inl rfl)) (pgs_cons (pg_name (i := 2) scRe.nd rfl (.inl rfl)) pgs_nil))))
    (pss_cons (ps_while own (pt_cmpR op_eq (pe_ix ix_list (pv 1) (pv 2) (fun _ _ => rfl)) pe_str (nomark _))
      (pss_cons (ps_asg (pe_callS G hr (by rfl) mG kG bG (fun σ => passAt tk σ) (pa_cons (pv 0) (pa_cons (pv 1) (pa_cons (pe_op op_add (pv 2) pe_int) pa_nil)))) (pg_tup rfl (pgs_cons (pg_name (i := 4) scRe.nd rfl (.inl rfl)) (pgs_cons (pg_name (i := 2) scRe.nd rfl (.inl rfl)) pgs_nil))))
      (pss_one (ps_set (i := 3) scRe.nd rfl (.inl rfl) (pe_tup (pa_cons pe_str (pa_cons (pv 3) (pa_cons (pv 4) pa_nil))))))))
    (pss_one (ps_ret (pe_tup (pa_cons (pv 3) (pa_cons (pv 2) pa_nil)))))), ?_⟩
  have eR : rdE sw n ((ts.map cl).drop i) = match rdB sw n ((ts.map cl).drop i) with
    | none => none
    | some (f, r) => loop [124] .or (rdB sw n) f r := rfl
  refine ⟨_, rfl, _, rfl, _, rfl, a, sw, p, ts, i, rfl, hz, hi, hf, ?_⟩
  cases h1 : rdB sw n ((ts.map cl).drop i) with
  | none =>
    rw [h1] at eR
    rw [eR] at q
    exact fun H' e => q H' e
  | some fr =>
    obtain ⟨f1, r1⟩ := fr
    rw [h1] at eR
    intro v H1 b j hj hr1 g1 e1 d1
    refine ⟨b, _, rfl, SqT.of e1, rfl, _, _, rfl, _, _, rfl, rfl, ?_⟩
    refine ⟨fun m σ H' => ∃ (f : Fm) (v : V) (j : Nat) (c : Option V), σ = [some (.ref a), some (.ref p), some (.int j), some v, c] ∧ j ≤ ts.length ∧ ts.length - j ≤ ts.length - i ∧ Dv H' v f.toD ∧ Same H H' ∧ loop [124] .or (rdB sw n) f ((ts.map cl).drop j) = rdE sw n ((ts.map cl).drop i) ∧ m = ts.length - j,
      ⟨_, f1, v, j, none, rfl, hj, ?_, d1, g1, by rw [hr1]; exact eR.symm, rfl⟩, ?_⟩
    · have := rdB_cuts sw n _ _ _ h1
      rw [← hr1, List.length_drop, List.length_drop, List.length_map] at this
      omega
    rintro m σ H2 ⟨f2, v2, j2, c2, rfl, hj2, hji, d2, g2, e2, rfl⟩
    obtain ⟨t, ht, hcase⟩ := sg_at ts hj2
    have hz2 := hz.same g2
    refine ⟨_, rfl, _, rfl, p, _, _, _, rfl, rfl, SqL.of hz2.2.2.1, at_of (j := j2) rfl (by rw [List.getElem?_map, ht]; rfl), rfl, _, rfl, ite2 (fun c1 => ?_) (fun c1 => ?_)⟩
    · have et : t = "|" := V.str.inj (of_decide_eq_true c1)
      rcases hcase with ⟨hlt, hdr⟩ | ⟨_, z, _⟩
      · rw [et, c124] at hdr
        rw [hdr, loop_step (rdB_cuts sw n)] at e2
        refine ⟨fun σ' H' => ∃ m', m' < ts.length - j2 ∧ ∃ (f : Fm) (v : V) (j : Nat) (c : Option V), σ' = [some (.ref a), some (.ref p), some (.int j), some v, c] ∧ j ≤ ts.length ∧ ts.length - j ≤ ts.length - i ∧ Dv H' v f.toD ∧ Same H H' ∧ loop [124] .or (rdB sw n) f ((ts.map cl).drop j) = rdE sw n ((ts.map cl).drop i) ∧ m' = ts.length - j, fun σ' H' h => h, ?_⟩
        refine ⟨_, rfl, _, rfl, _, rfl, _, _, rfl, rfl, a, sw, p, ts, j2 + 1, ?_, hz2, by omega, by omega, ?_⟩
        · show [V.ref a, V.ref p, V.int ((j2 : Int) + 1)] = _
          rw [show ((j2 : Int) + 1) = ((j2 + 1 : Nat) : Int) by omega]
        cases h3 : rdB sw n ((ts.map cl).drop (j2 + 1)) with
        | none =>
          rw [h3] at e2
          rw [← e2] at q
          exact fun H' e => q H' (g2.trans e)
        | some fr =>
          obtain ⟨f3, r3⟩ := fr
          rw [h3] at e2
          intro v3 H3 b3 j3 hj3 hr3 g3 e3 d3
          refine ⟨b3, _, rfl, SqT.of e3, rfl, _, _, rfl, _, _, rfl, rfl, ?_⟩
          refine ⟨_, rfl, _, rfl, (by show 3 ≤ sizeLine; decide), fun p4 n4 => ?_⟩
          have hlen := rdB_cuts sw n _ _ _ h3
          rw [← hr3, List.length_drop, List.length_drop, List.length_map] at hlen
          have kt := KeepT.of (same_new n4 (.tup [.str "or", v2, v3]))
          refine ⟨_, ?_, .or f2 f3, _, j3, _, rfl, hj3, by omega, ?_, (g2.trans g3).trans (same_new n4 _), ?_, rfl⟩
          · omega
          · exact Dv.tup upd_same (DvAll.cons Dv.str (DvAll.cons (Dv.keep kt _ _ (Dv.keep (KeepT.of g3) _ _ d2)) (DvAll.cons (Dv.keep kt _ _ d3) DvAll.nil)))
          · rw [hr3]
            exact e2
      · rw [z] at et
        exact absurd et (by decide +kernel)
    · have hstop : ((ts.map cl).drop j2).head? ≠ some [124] := by
        rcases hcase with ⟨hlt, hdr⟩ | ⟨_, _, hdr⟩
        · rw [hdr]
          intro z
          have z2 : cl t = [124] := Option.some.inj z
          exact c1 (decide_eq_true (congrArg V.str (cl_inj (z2.trans c124.symm))))
        · rw [hdr]
          exact fun z => nomatch z
      rw [loop_stop hstop] at e2
      rw [← e2] at q
      refine ⟨_, rfl, _, rfl, (by show 2 ≤ sizeLine; decide), fun p4 n4 => ?_⟩
      exact q v2 _ p4 j2 hj2 rfl (g2.trans (same_new n4 _)) upd_same (Dv.keep (KeepT.of (same_new n4 _)) _ _ d2)
end
end Ver

/-! ## Reading: _read_part, and the three together -/
namespace Ver
open PySem PySem.Spec PyProof.Rows L2
/-- what stands behind a bracket's inside -/
def closing (f : Fm) : List Tok' → Option (Fm × List Tok')
  | [] => none
  | u :: r => if u = [41] then some (f, r) else none
theorem rdP_at (s : List Str) (m : Nat) (t : Tok') (r : List Tok') : rdP s (m + 1) (t :: r) = if t = [33] then (match rdP s m r with
        | none => none
        | some (f, r') => some (.not f, r'))
      else if t = [40] then (match rdE s m r with
        | none => none
        | some (f, r') => closing f r')
      else (single s t).map fun f => (f, r) := rfl
theorem single_nil {s : List Str} (h : Named s) : single s [] = none := by
  unfold single
  rw [if_neg (fun z => nomatch z), if_neg (fun z => nomatch z)]
  have : s.find? (fun x => decide (cl x = [])) = none := by
    rw [List.find?_eq_none]
    intro x hx
    rw [decide_eq_true_eq]
    exact (h x hx).2
  rw [this]
  rfl
section
variable {P : Program} {w : World} {K : PySem.W.Frag} {mg : Str → Option Value} {base : Heap} {f g g1 g2 C : Addr} {fd gd gd1 gd2 : FuncData}
theorem scRp : FnScope ["switches", "signs", "at", "sign", "formula"] ["switches", "signs", "at"] (defScope sRp) := ⟨rfl, rfl, rfl, by decide +kernel, rfl, by decide +kernel, by decide +kernel⟩
theorem ok_rp {n k : Nat} (F : Fun K "_read_part" "_read_part" sRp f fd) (B : BadF K mg C) (G : FnOk P w K mg base (L2.CX P w) k f fd ["switches", "signs", "at"] (spRd rdP C n)) (bG : Binds K fd ["switches", "signs", "at"] []) (mG : mg "_read_part" = some (.ref f))
    (G1 : FnOk P w K mg base (L2.CX P w) k g1 gd1 ["switches", "signs", "at"] (spRd rdE C n)) (bG1 : Binds K gd1 ["switches", "signs", "at"] []) (kG1 : PySem.W.keepIn K (.ref g1) = true) (mG1 : mg "_read_either" = some (.ref g1))
    (G2 : FnOk P w K mg base (L2.CX P w) k g2 gd2 ["switches", "sign"] (spRs C)) (bG2 : Binds K gd2 ["switches", "sign"] []) (kG2 : PySem.W.keepIn K (.ref g2) = true) (mG2 : mg "_read_single" = some (.ref g2)) :
    FnOk P w K mg base (L2.CX P w) (k + 1) f fd ["switches", "signs", "at"] (spRd rdP C (n + 1)) := by
  refine F.okX scRp (fun vs H Q E h => ?_) (fun cdv A outer s H vs Q E hr h => ?_)
  · obtain ⟨a, sw, p, ts, i, rfl, _⟩ := h
    rfl
  obtain ⟨a, sw, p, ts, i, rfl, hz, hi, hf, q⟩ := h
  have tk := takes_of (X := cxOf (L2.CX P w) P w K mg base ["switches", "signs", "at", "sign", "formula"] "_read_part" (defScope sRp) f cdv A outer s H E) (E := E) rfl rfl rfl rfl
  have rC : Raises (cxOf (L2.CX P w) P w K mg base ["switches", "signs", "at", "sign", "formula"] "_read_part" (defScope sRp) f cdv A outer s H E) (.ref C) := raises_own B.r1 B.r2
  refine ⟨_, pss_cons (ps_set (i := 3) scRp.nd rfl (.inl rfl) (pe_ix ix_list (pv 1) (pv 2) (fun _ _ => rfl)))
    (pss_cons (ps_if (pt_cmpR op_eq (pv 3) pe_str (nomark _))
      (pss_cons (ps_asg (pe_callS G hr (by rfl) mG F.kp bG (fun σ => passAt tk σ) (pa_cons (pv 0) (pa_cons (pv 1) (pa_cons (pe_op op_add (pv 2) pe_int) pa_nil)))) (pg_tup rfl (pgs_cons (pg_name (i := 4) scRp.nd rfl (.inl rfl)) (pgs_cons (pg_name (i := 2) scRp.nd rfl (.inl rfl)) pgs_nil))))
      (pss_one (ps_ret (pe_tup (pa_cons (pe_tup (pa_cons pe_str (pa_cons (pv 4) pa_nil))) (pa_cons (pv 2) pa_nil)))))) pss_nil)
    (pss_cons (ps_if (pt_cmpR op_eq (pv 3) pe_str (nomark _))
      (pss_cons (ps_asg (pe_callS G1 hr (by rfl) mG1 kG1 bG1 (fun σ => passAt tk σ) (pa_cons (pv 0) (pa_cons (pv 1) (pa_cons (pe_op op_add (pv 2) pe_int) pa_nil)))) (pg_tup rfl (pgs_cons (pg_name (i := 4) scRp.nd rfl (.inl rfl)) (pgs_cons (pg_name (i := 2) scRp.nd rfl (.inl rfl)) pgs_nil))))
      (pss_cons (ps_if (pt_cmpR op_ne (pe_ix ix_list (pv 1) (pv 2) (fun _ _ => rfl)) pe_str (nomark _)) (pss_one (ps_raise rfl tk (SkE.pmk_own1 excV B.q B.g B.k rC (by rfl) pe_str))) pss_nil)
      (pss_one (ps_ret (pe_tup (pa_cons (pv 4) (pa_cons (pe_op op_add (pv 2) pe_int) pa_nil))))))) pss_nil)
    (pss_one (ps_ret (pe_tup (pa_cons (pe_callS G2 hr (by rfl) mG2 kG2 bG2 (fun σ => passAt tk σ) (pa_cons (pv 0) (pa_cons (pv 3) pa_nil))) (pa_cons (pe_op op_add (pv 2) pe_int) pa_nil))))))), ?_⟩
  obtain ⟨t, ht, hcase⟩ := sg_at ts hi
  have i1 : ((i : Int) + 1) = ((i + 1 : Nat) : Int) := by omega
  refine ⟨_, rfl, _, rfl, p, _, _, _, rfl, rfl, SqL.of hz.2.2.1, at_of (j := i) rfl (by rw [List.getElem?_map, ht]; rfl), ?_⟩
  refine ⟨_, rfl, rfl, _, rfl, ite2 (fun c1 => ?_) (fun c1 => ?_)⟩
  · have et : t = "!" := V.str.inj (of_decide_eq_true c1)
    rcases hcase with ⟨hlt, hdr⟩ | ⟨_, z, _⟩
    · rw [et, c33] at hdr
      rw [hdr, rdP_at, if_pos rfl] at q
      refine ⟨_, rfl, _, rfl, _, rfl, _, _, rfl, rfl, a, sw, p, ts, i + 1, ?_, hz, by omega, by omega, ?_⟩
      · show [V.ref a, V.ref p, V.int ((i : Int) + 1)] = _
        rw [i1]
      cases h3 : rdP sw n ((ts.map cl).drop (i + 1)) with
      | none =>
        rw [h3] at q
        exact fun H' e => q H' e
      | some fr =>
        obtain ⟨f3, r3⟩ := fr
        rw [h3] at q
        intro v3 H3 b3 j3 hj3 hr3 g3 e3 d3
        refine ⟨b3, _, rfl, SqT.of e3, rfl, _, _, rfl, _, _, rfl, rfl, ?_⟩
        refine ⟨_, rfl, (by show 2 ≤ sizeLine; decide), fun p4 n4 => ⟨_, rfl, (by show 2 ≤ sizeLine; decide), fun p5 n5 => ?_⟩⟩
        have kt := KeepT.of (same_new n4 (.tup [.str "not", v3]))
        have kt5 := KeepT.of (same_new n5 (.tup [.ref p4, .int (j3 : Int)]))
        exact q _ _ p5 j3 hj3 hr3 ((g3.trans (same_new n4 _)).trans (same_new n5 _)) upd_same (Dv.keep kt5 _ _ (Dv.tup upd_same (DvAll.cons Dv.str (DvAll.cons (Dv.keep kt _ _ d3) DvAll.nil))))
    · rw [z] at et
      exact absurd et (by decide +kernel)
  have n33 : cl t ≠ [33] := fun z => c1 (decide_eq_true (congrArg V.str (cl_inj (z.trans c33.symm))))
  refine ⟨_, rfl, rfl, _, rfl, ite2 (fun c2 => ?_) (fun c2 => ?_)⟩
  · have et : t = "(" := V.str.inj (of_decide_eq_true c2)
    rcases hcase with ⟨hlt, hdr⟩ | ⟨_, z, _⟩
    · rw [et, c40] at hdr
      rw [hdr, rdP_at, if_neg (by decide), if_pos rfl] at q
      refine ⟨_, rfl, _, rfl, _, rfl, _, _, rfl, rfl, a, sw, p, ts, i + 1, ?_, hz, by omega, by omega, ?_⟩
      · show [V.ref a, V.ref p, V.int ((i : Int) + 1)] = _
        rw [i1]
      cases h3 : rdE sw n ((ts.map cl).drop (i + 1)) with
      | none =>
        rw [h3] at q
        exact fun H' e => q H' e
      | some fr =>
        obtain ⟨f3, r3⟩ := fr
        rw [h3] at q
        intro v3 H3 b3 j3 hj3 hr3 g3 e3 d3
        have hz3 := hz.same g3
        obtain ⟨t3, ht3, hcase3⟩ := sg_at ts hj3
        refine ⟨b3, _, rfl, SqT.of e3, rfl, _, _, rfl, _, _, rfl, rfl, ?_⟩
        refine ⟨_, rfl, _, rfl, p, _, _, _, rfl, rfl, SqL.of hz3.2.2.1, at_of (j := j3) rfl (by rw [List.getElem?_map, ht3]; rfl), rfl, _, rfl, ite2 (fun c3 => ?_) (fun c3 => ?_)⟩
        · have n41 : t3 ≠ ")" := fun z => by
            rw [z] at c3
            exact absurd c3 (by decide +kernel)
          have en : closing f3 r3 = none := by
            rw [← hr3]
            rcases hcase3 with ⟨_, hd⟩ | ⟨_, _, hd⟩
            · rw [hd]
              show (if cl t3 = [41] then _ else none) = none
              rw [if_neg fun z => n41 (cl_inj (z.trans c41.symm))]
            · rw [hd]
              rfl
          have q' := show (match closing f3 r3 with
            | some (f, r) => ∀ v H' (b : Addr) (j : Nat), j ≤ ts.length → (ts.map cl).drop j = r → Same H H' → H' b = some (.tup [v, .int j]) → Dv H' v f.toD → Q (.ref b) H'
            | none => ∀ H', Same H H' → E (.ref C) none H') from q
          rw [en] at q'
          exact q' _ g3
        · have e41 : t3 = ")" := by
            by_cases z : t3 = ")"
            · exact z
            · exact absurd (by rw [decide_eq_false fun w => z (V.str.inj w)]; rfl) c3
          rcases hcase3 with ⟨hlt3, hd⟩ | ⟨_, z, _⟩
          · have en : closing f3 r3 = some (f3, (ts.map cl).drop (j3 + 1)) := by
              rw [← hr3, hd, e41, c41]
              rfl
            have q' := show (match closing f3 r3 with
              | some (f, r) => ∀ v H' (b : Addr) (j : Nat), j ≤ ts.length → (ts.map cl).drop j = r → Same H H' → H' b = some (.tup [v, .int j]) → Dv H' v f.toD → Q (.ref b) H'
              | none => ∀ H', Same H H' → E (.ref C) none H') from q
            rw [en] at q'
            refine ⟨_, rfl, _, rfl, _, _, rfl, rfl, (by show 2 ≤ sizeLine; decide), fun p5 n5 => ?_⟩
            exact q' v3 _ p5 (j3 + 1) (by omega) rfl (g3.trans (same_new n5 _)) upd_same (Dv.keep (KeepT.of (same_new n5 _)) _ _ d3)
          · rw [z] at e41
            exact absurd e41 (by decide +kernel)
    · rw [z] at et
      exact absurd et (by decide +kernel)
  have n40 : cl t ≠ [40] := fun z => c2 (decide_eq_true (congrArg V.str (cl_inj (z.trans c40.symm))))
  refine ⟨_, rfl, _, rfl, a, sw, t, rfl, hz.1, hz.2.1, ?_, ?_⟩
  · rcases hcase with ⟨hlt, _⟩ | ⟨_, z, _⟩
    · have : t = ts[i] := by
        rw [List.getElem?_append_left hlt, List.getElem?_eq_getElem hlt] at ht
        exact (Option.some.inj ht).symm
      rw [this]
      exact hz.2.2.2.2.1 _ (List.getElem_mem hlt)
    · rw [z]
      decide +kernel
  rcases hcase with ⟨hlt, hdr⟩ | ⟨_, z, hdr⟩
  · rw [hdr, rdP_at, if_neg n33, if_neg n40] at q
    cases h3 : single sw (cl t) with
    | none =>
      rw [h3] at q
      exact fun H' e => q H' e
    | some f3 =>
      rw [h3] at q
      intro v3 H3 g3 d3
      refine ⟨_, rfl, _, _, rfl, rfl, (by show 2 ≤ sizeLine; decide), fun p5 n5 => ?_⟩
      exact q v3 _ p5 (i + 1) (by omega) rfl (g3.trans (same_new n5 _)) upd_same (Dv.keep (KeepT.of (same_new n5 _)) _ _ d3)
  · have e0 : cl t = [] := by rw [z]; rfl
    rw [e0, single_nil hz.2.2.2.2.2]
    rw [hdr] at q
    exact fun H' e => q H' e
end
end Ver

/-! ## read_formula -/
namespace Ver
open PySem PySem.Spec PyProof.Rows L2
theorem lexA_ok : ∀ (l acc : List Nat), (∀ t ∈ lexA acc l, t ≠ [] ∧ t.length ≤ acc.length + l.length) ∧ (lexA acc l).length ≤ l.length + (flush acc).length
  | [], acc => by
    refine ⟨fun t ht => ?_, by show (flush acc).length ≤ _; omega⟩
    cases acc with
    | nil => cases ht
    | cons a r =>
      have e : t = a :: r := List.mem_singleton.mp ht
      subst e
      exact ⟨(fun z => nomatch z), by simp⟩
  | c :: l, acc => by
    rw [lexA_cons]
    by_cases h : lett c = true
    · rw [if_pos h]
      obtain ⟨h1, h2⟩ := lexA_ok l (acc ++ [c])
      refine ⟨fun t ht => ?_, ?_⟩
      · obtain ⟨a, b⟩ := h1 t ht
        rw [List.length_append] at b
        simp at b ⊢
        exact ⟨a, by omega⟩
      · have : (flush (acc ++ [c])).length = 1 := by
          cases acc <;> rfl
        rw [this] at h2
        rw [List.length_cons]
        omega
    · rw [if_neg h]
      obtain ⟨h1, h2⟩ := lexA_ok l []
      have hf : ∀ t ∈ flush acc, t ≠ [] ∧ t.length ≤ acc.length := fun t ht => by
        cases acc with
        | nil => cases ht
        | cons a r =>
          have e : t = a :: r := List.mem_singleton.mp ht
          subst e
          exact ⟨(fun z => nomatch z), Nat.le_refl _⟩
      have hs : ∀ t ∈ sgn c, t = [c] := fun t ht => by
        unfold sgn at ht
        split at ht
        · cases ht
        · exact List.mem_singleton.mp ht
      refine ⟨fun t ht => ?_, ?_⟩
      · rw [List.length_cons]
        rcases List.mem_append.mp ht with z | z
        · obtain ⟨a, b⟩ := hf t z
          exact ⟨a, by omega⟩
        · rcases List.mem_append.mp z with z | z
          · rw [hs t z]
            exact ⟨(fun z => nomatch z), by show 1 ≤ acc.length + (l.length + 1); omega⟩
          · obtain ⟨a, b⟩ := h1 t z
            simp at b
            exact ⟨a, by omega⟩
      · have : (sgn c).length ≤ 1 := by
          unfold sgn
          split <;> simp
        have z0 : (flush ([] : List Nat)).length = 0 := rfl
        rw [z0] at h2
        rw [List.length_append, List.length_append, List.length_cons]
        omega
/-- what read_formula gives -/
def rf (sw : List Str) (x : Str) : Option Fm := if x.length ≤ 60 then (match rdE sw 61 (lexA [] (cl x)) with
    | some (f, []) => some f
    | _ => none) else none
def spRf (C : Addr) : Sp := fun vs H Q E => ∃ (a : Addr) (sw : List Str) (x : Str), vs = [.ref a, .str x] ∧ SwT H a sw ∧ sw.length ≤ 5 ∧ Named sw ∧ x.length ≤ 1000 ∧
  (match rf sw x with
    | some f => ∀ v H', Same H H' → Dv H' v f.toD → Q v H'
    | none => ∀ H', Same H H' → E (.ref C) none H')
section
variable {P : Program} {w : World} {K : PySem.W.Frag} {mg : Str → Option Value} {base : Heap} {f g g1 g2 g3 C : Addr} {fd gd gd1 gd2 gd3 : FuncData}
theorem ok_rd (F : Fun K "_read_part" "_read_part" sRp f fd) (B : BadF K mg C) (bG : Binds K fd ["switches", "signs", "at"] []) (mG : mg "_read_part" = some (.ref f))
    (F2 : Fun K "_read_both" "_read_both" sRb g2 gd2) (bG2 : Binds K gd2 ["switches", "signs", "at"] []) (mG2 : mg "_read_both" = some (.ref g2))
    (F1 : Fun K "_read_either" "_read_either" sRe g1 gd1) (bG1 : Binds K gd1 ["switches", "signs", "at"] []) (mG1 : mg "_read_either" = some (.ref g1))
    (F3 : Fun K "_read_single" "_read_single" sRs g3 gd3) (bG3 : Binds K gd3 ["switches", "sign"] []) (mG3 : mg "_read_single" = some (.ref g3)) (mE : ∃ t, mg "_END" = some (.str "" t)) :
    ∀ n, FnOk P w K mg base (L2.CX P w) (3 * n) f fd ["switches", "signs", "at"] (spRd rdP C n) ∧ FnOk P w K mg base (L2.CX P w) (3 * n + 2) g1 gd1 ["switches", "signs", "at"] (spRd rdE C n)
  | 0 => by
    have no : ∀ R vs H Q E, ¬ spRd R C 0 vs H Q E := fun R vs H Q E h => by
      obtain ⟨_, _, _, _, _, _, _, _, h, _⟩ := h
      omega
    exact ⟨⟨fun vs H Q E h => absurd h (no _ vs H Q E), fun A outer s H args us vs Q E _ _ _ _ h => absurd h (no _ vs H Q E)⟩, ⟨fun vs H Q E h => absurd h (no _ vs H Q E), fun A outer s H args us vs Q E _ _ _ _ h => absurd h (no _ vs H Q E)⟩⟩
  | n + 1 => by
    obtain ⟨h1, h2⟩ := ok_rd F B bG mG F2 bG2 mG2 F1 bG1 mG1 F3 bG3 mG3 mE n
    have p := ok_rp F B (h1.mono (show 3 * n ≤ 3 * n + 2 by omega)) bG mG h2 bG1 F1.kp mG1 (ok_rs (n := 3 * n + 1) F3 B mE) bG3 F3.kp mG3
    have b := ok_rb F2 p bG F.kp mG
    exact ⟨p, ok_re F1 b bG2 F2.kp mG2⟩
theorem scRf : FnScope ["switches", "text", "signs", "formula", "at"] ["switches", "text"] (defScope sRf) := ⟨rfl, rfl, rfl, by decide +kernel, rfl, by decide +kernel, by decide +kernel⟩
theorem ok_rf (F : Fun K "read_formula" "read_formula" sRf f fd) (B : BadF K mg C) (G : FnOk P w K mg base CX0 185 g gd ["text"] spSig) (bG : Binds K gd ["text"] []) (kG : PySem.W.keepIn K (.ref g) = true) (mG : mg "_signs_of" = some (.ref g))
    (G1 : FnOk P w K mg base (L2.CX P w) 185 g1 gd1 ["switches", "signs", "at"] (spRd rdE C 61)) (bG1 : Binds K gd1 ["switches", "signs", "at"] []) (kG1 : PySem.W.keepIn K (.ref g1) = true) (mG1 : mg "_read_either" = some (.ref g1))
    (ml : mg "len" = none) (mE : ∃ t, mg "_END" = some (.str "" t)) (mM : ∃ t, mg "MAX_TEXT" = some (.int 60 t)) :
    FnOk P w K mg base (L2.CX P w) 186 f fd ["switches", "text"] (spRf C) := by
  refine F.okX scRf (fun vs H Q E h => ?_) (fun cdv A outer s H vs Q E hr h => ?_)
  · obtain ⟨a, sw, x, rfl, _⟩ := h
    rfl
  obtain ⟨a, sw, x, rfl, hs, h5, hn, hx, q⟩ := h
  have tk := takes_of (X := cxOf (L2.CX P w) P w K mg base ["switches", "text", "signs", "formula", "at"] "read_formula" (defScope sRf) f cdv A outer s H E) (E := E) rfl rfl rfl rfl
  have rC : Raises (cxOf (L2.CX P w) P w K mg base ["switches", "text", "signs", "formula", "at"] "read_formula" (defScope sRf) f cdv A outer s H E) (.ref C) := raises_own B.r1 B.r2
  refine ⟨_, pss_cons (ps_if (pt_cmpR op_gt (pe_callB call_len_str (by rfl) ml PySem.boot_len (pa_cons (pv 1) pa_nil)) (C8.pe_gc (v := .int 60) (by rfl) (by obtain ⟨t, e⟩ := mM; exact ⟨_, e, _, rfl⟩)) (by rfl))
      (pss_one (ps_raise rfl tk (SkE.pmk_own1 excV B.q B.g B.k rC (by rfl) (pe_joined (PJ.cons pe_str (PJ.cons (pe_fmt (C8.pe_gc (v := .int 60) (by rfl) (by obtain ⟨t, e⟩ := mM; exact ⟨_, e, _, rfl⟩))) (PJ.cons pe_str PJ.nil))))))) pss_nil)
    (pss_cons (ps_set (i := 2) scRf.nd rfl (.inl rfl) (pe_call G hr (by rfl) mG kG bG .nil pass0 (pa_cons (pv 1) pa_nil)))
    (pss_cons (ps_asg (pe_callS G1 hr (by rfl) mG1 kG1 bG1 (fun σ => passAt tk σ) (pa_cons (pv 0) (pa_cons (pv 2) (pa_cons pe_int pa_nil)))) (pg_tup rfl (pgs_cons (pg_name (i := 3) scRf.nd rfl (.inl rfl)) (pgs_cons (pg_name (i := 4) scRf.nd rfl (.inl rfl)) pgs_nil))))
    (pss_cons (ps_if (pt_cmpR op_ne (pe_ix ix_list (pv 2) (pv 4) (fun _ _ => rfl)) (C8.pe_gc (v := .str "") (by rfl) (by obtain ⟨t, e⟩ := mE; exact ⟨_, e, _, rfl⟩)) (by rfl))
      (pss_one (ps_raise rfl tk (SkE.pmk_own1 excV B.q B.g B.k rC (by rfl) (pe_joined (PJ.cons (pe_fmt (pe_ix ix_list (pv 2) (pv 4) (fun _ _ => rfl))) (PJ.cons pe_str PJ.nil)))))) pss_nil)
    (pss_one (ps_ret (pv 3)))))), ?_⟩
  have hl : (cl x).length = x.length := cl_len x
  refine ⟨_, rfl, x, rfl, room5 hx, _, _, rfl, rfl, _, rfl, ite2 (fun c1 => ?_) (fun c1 => ?_)⟩
  · have hgt : ¬ x.length ≤ 60 := by
      have := of_decide_eq_true c1
      omega
    have e : rf sw x = none := by unfold rf; rw [if_neg hgt]
    rw [e] at q
    exact ⟨_, rfl, by decide +kernel, .inr ⟨60, rfl, by decide +kernel, _, rfl, by decide +kernel, _, rfl, by decide +kernel, q _ (Same.refl H)⟩⟩
  have hle : x.length ≤ 60 := by
    by_cases z : (60 : Int) < (x.length : Int)
    · exact absurd (decide_eq_true z) c1
    · omega
  obtain ⟨lx1, lx2⟩ := lexA_ok (cl x) []
  have lx3 : (lexA [] (cl x)).length ≤ 60 := by
    have z0 : (flush ([] : List Nat)).length = 0 := rfl
    rw [z0] at lx2
    omega
  refine ⟨_, rfl, x, rfl, hx, fun p H1 ts g1 np hlex hp => ?_⟩
  have hts : ts.length ≤ 60 := by
    rw [← hlex, List.length_map] at lx3
    exact lx3
  have htn : ∀ t ∈ ts, cl t ≠ [] ∧ t.length ≤ 1000 := fun t ht => by
    obtain ⟨z1, z2⟩ := lx1 (cl t) (by rw [← hlex]; exact List.mem_map.mpr ⟨t, ht, rfl⟩)
    refine ⟨z1, ?_⟩
    have z3 : (cl t).length ≤ 0 + (cl x).length := z2
    rw [cl_len, hl] at z3
    omega
  have hz : Rd H1 a sw p ts := ⟨hs.same g1, h5, hp, by omega, fun t ht => (htn t ht).2, hn⟩
  refine ⟨_, rfl, _, rfl, a, sw, p, ts, 0, rfl, hz, Nat.zero_le _, by omega, ?_⟩
  rw [List.drop_zero, hlex]
  cases h3 : rdE sw 61 (lexA [] (cl x)) with
  | none =>
    have e : rf sw x = none := by unfold rf; rw [if_pos hle, h3]
    rw [e] at q
    exact fun H' g => q H' (g1.trans g)
  | some fr =>
    obtain ⟨f3, r3⟩ := fr
    intro v3 H3 b3 j3 hj3 hr3 g3 e3 d3
    have hz3 := hz.same g3
    rw [← hlex] at hr3
    obtain ⟨t3, ht3, hcase3⟩ := sg_at ts hj3
    have lt3 : t3.length ≤ 1000 := by
      rcases hcase3 with ⟨hlt, _⟩ | ⟨_, z, _⟩
      · rw [List.getElem?_append_left hlt, List.getElem?_eq_getElem hlt] at ht3
        cases ht3
        exact (htn _ (List.getElem_mem hlt)).2
      · rw [z]
        decide +kernel
    have atS : atI ((ts ++ [("" : Str)]).map V.str) (j3 : Int) = some (.str t3) := at_of (j := j3) rfl (by rw [List.getElem?_map, ht3]; rfl)
    refine ⟨b3, _, rfl, SqT.of e3, rfl, _, _, rfl, _, _, rfl, rfl, ?_⟩
    refine ⟨_, rfl, _, rfl, p, _, _, _, rfl, rfl, SqL.of hz3.2.2.1, atS, rfl, _, rfl, ite2 (fun c3 => ?_) (fun c3 => ?_)⟩
    · have ne : r3 ≠ [] := by
        rw [← hr3]
        rcases hcase3 with ⟨_, hd⟩ | ⟨_, z, _⟩
        · rw [hd]
          exact fun z => nomatch z
        · rw [z] at c3
          exact absurd c3 (by decide +kernel)
      have e : rf sw x = none := by
        unfold rf
        rw [if_pos hle, h3]
        cases r3 with
        | nil => exact absurd rfl ne
        | cons _ _ => rfl
      rw [e] at q
      refine ⟨_, rfl, _, rfl, p, _, _, _, rfl, rfl, SqL.of hz3.2.2.1, atS, .inl ⟨t3, rfl, room5 lt3, _, rfl, ?_, _, rfl, ?_, q _ (g1.trans g3)⟩⟩
      · rw [len_app]
        exact room5 (by show 0 + t3.length ≤ 1000; omega)
      · have hk : (" continues no formula" : Str).length = 21 := by decide +kernel
        rw [len_app, len_app, hk]
        exact Nat.le_trans (show 0 + t3.length + 21 ≤ 2000 by omega) (by decide)
    · have e0 : t3 = "" := by
        by_cases z : t3 = ""
        · exact z
        · exact absurd (by rw [decide_eq_false fun w => z (V.str.inj w)]; rfl) c3
      have er : r3 = [] := by
        rw [← hr3]
        rcases hcase3 with ⟨hlt, _⟩ | ⟨_, _, hd⟩
        · exfalso
          rw [List.getElem?_append_left hlt, List.getElem?_eq_getElem hlt] at ht3
          cases ht3
          refine (htn _ (List.getElem_mem hlt)).1 ?_
          rw [e0]
          rfl
        · exact hd
      have e : rf sw x = some f3 := by
        unfold rf
        rw [if_pos hle, h3, er]
      rw [e] at q
      exact ⟨_, rfl, q _ _ (g1.trans g3) d3⟩
end
end Ver

/-! ## _law_signs -/
namespace Ver
open PySem PySem.Spec PyProof.Rows L2
abbrev sLs : Stmt := top 33
/-- a sign, as the law's own reader sees it -/
def lawT (sw : List Str) : List Nat → Str
  | [] => "?"
  | c :: r => if lett c = true then (if sw.any (fun y => decide (cl y = c :: r)) then "x" else "?") else if decide (c ∈ cl "01()!&|") = true then ⟨#[c]⟩ else "?"
def spLs : Sp := fun vs H Q _ => ∃ (a : Addr) (sw : List Str) (x : Str), vs = [.ref a, .str x] ∧ SwT H a sw ∧ x.length ≤ 1000 ∧
  ∀ (p : Addr) (H' : Hp), Same H H' → H p = none → H' p = some (.lst (((lexA [] (cl x)).map (lawT sw)).map V.str)) → Q (.ref p) H'
theorem in_l (c : Nat) : (!(Builtin.Str.occurrences ("abcdefghijklmnopqrstuvwxyz" : Str) ⟨#[c]⟩ 0 ("abcdefghijklmnopqrstuvwxyz" : Str).length 1).isEmpty) = lett c := in_letters c
theorem inV_str (x : Str) (sw : List Str) : inV (V.str x) (sw.map V.str) = sw.any fun y => decide (cl y = cl x) := by
  induction sw with
  | nil => rfl
  | cons y r ih =>
    show (eqV (V.str y) (V.str x) || inV (V.str x) (r.map V.str)) = (decide (cl y = cl x) || _)
    rw [ih]
    have e : eqV (V.str y) (V.str x) = decide (cl y = cl x) := by
      by_cases z : y = x
      · subst z
        rw [decide_eq_true rfl]
        simp [eqV]
      · rw [decide_eq_false fun w => z (cl_inj w)]
        simp [eqV, z]
    rw [e]
section
variable {P : Program} {w : World} {K : PySem.W.Frag} {mg : Str → Option Value} {base : Heap} {f g : Addr} {fd gd : FuncData}
theorem scLs : FnScope ["switches", "text", "found", "at", "turn", "word", "sign"] ["switches", "text"] (defScope sLs) := ⟨rfl, rfl, rfl, by decide +kernel, rfl, by decide +kernel, by decide +kernel⟩
theorem ok_ls {n : Nat} (F : Fun K "_law_signs" "_law_signs" sLs f fd) (ml : mg "len" = none) (mr : mg "range" = none) : FnOk P w K mg base CX0 (n + 1) f fd ["switches", "text"] spLs := by
  refine F.ok scLs (fun vs H Q E h => ?_) (fun cdv A outer s H vs Q E hr h => ?_)
  · obtain ⟨a, sw, x, rfl, _⟩ := h
    rfl
  obtain ⟨a, sw, x, rfl, hs, hx, q⟩ := h
  refine ⟨_, pss_cons (ps_set (i := 2) scLs.nd rfl (.inl rfl) (pe_lst pa_nil))
    (pss_cons (ps_set (i := 3) scLs.nd rfl (.inl rfl) pe_int)
    (pss_cons (ps_for PassesOwn.never rfl (pi_range1 (by rfl) mr (pa_cons (pe_callB call_len_str (by rfl) ml PySem.boot_len (pa_cons (pv 1) pa_nil)) pa_nil)) (pg_name (i := 4) scLs.nd rfl (.inl rfl))
      (pss_one (ps_if (PW.pt (pw_and (pt_cmpR op_lt (pv 3) (pe_callB call_len_str (by rfl) ml PySem.boot_len (pa_cons (pv 1) pa_nil)) (nomark _)) (pw_and1 (pt_cmpR op_in_str (pe_ix ix_str (pv 1) (pv 3) (fun _ _ => rfl)) pe_str (by rfl)))))
        (pss_cons (ps_set (i := 5) scLs.nd rfl (.inl rfl) pe_str)
        (C8.pss_cut (ps_for PassesOwn.never rfl (pi_str (pe_slice sl_str (pv 1) (po_some (pv 3)) po_none)) (pg_name (i := 6) scLs.nd rfl (.inl rfl))
          (pss_cons (ps_if (pt_cmpR op_notIn_str (pv 6) pe_str (by rfl)) (pss_one ps_break) pss_nil)
          (pss_one (ps_set (i := 5) scLs.nd rfl (.inl rfl) (pe_op op_add_str (pv 5) (pv 6))))))
        (pss_cons (ps_expr (pe_bm PySem.F.plainAttrs_list PySem.F.slot_list_append PySem.F.type_list_append mt_append (pv 2) (pa_cons (pe_ifExp (pt_cmpR op_in_seq (pv 5) (pv 0) (by rfl)) pe_str pe_str) pa_nil)))
        (pss_one (ps_set (i := 3) scLs.nd rfl (.inl rfl) (pe_op op_add (pv 3) (pe_callB call_len_str (by rfl) ml PySem.boot_len (pa_cons (pv 5) pa_nil))))))))
        (pss_one (ps_if (pt_cmpR op_lt (pv 3) (pe_callB call_len_str (by rfl) ml PySem.boot_len (pa_cons (pv 1) pa_nil)) (nomark _))
          (pss_cons (ps_if (pt_cmpR op_ne (pe_ix ix_str (pv 1) (pv 3) (fun _ _ => rfl)) pe_str (nomark _))
            (pss_one (ps_expr (pe_bm PySem.F.plainAttrs_list PySem.F.slot_list_append PySem.F.type_list_append mt_append (pv 2) (pa_cons (pe_ifExp (pt_cmpR op_in_str (pe_ix ix_str (pv 1) (pv 3) (fun _ _ => rfl)) pe_str (by rfl)) (pe_ix ix_str (pv 1) (pv 3) (fun _ _ => rfl)) pe_str) pa_nil)))) pss_nil)
          (pss_one (ps_set (i := 3) scLs.nd rfl (.inl rfl) (pe_op op_add (pv 3) pe_int)))) pss_nil)))))
    (pss_one (ps_ret (pv 2))))), ?_⟩
  have hz := room5 hx
  have hl : (cl x).length = x.length := cl_len x
  refine ⟨(by show 0 ≤ sizeLine; decide), fun p np => ?_⟩
  refine ⟨_, rfl, x, rfl, hz, _, rfl, by omega, by omega, ?_⟩
  refine for_range (fun i σ' H' => ∃ (b : Nat) (ls : List Str) (c4 c5 c6 : Option V), σ' = [some (.ref a), some (.str x), some (.ref p), some (.int b), c4, c5, c6] ∧ (i ≤ b ∨ b = x.length) ∧ b ≤ x.length ∧ H' p = some (.lst (ls.map V.str)) ∧ ls ++ (lexA [] ((cl x).drop b)).map (lawT sw) = (lexA [] (cl x)).map (lawT sw) ∧ Same H H' ∧ ls.length ≤ b) ?_ ?_ ?_
  · exact ⟨0, [], none, none, none, rfl, .inl (Nat.le_refl _), Nat.zero_le _, upd_same, rfl, same_new np _, Nat.le_refl _⟩
  · rintro i σ' H1 hi ⟨b, ls, c4, c5, c6, rfl, hib, hb, hp, hlex, hs1, hls⟩
    have hin : i < x.length := by omega
    have pvI : ∀ (c4 c5 c6 : Option V) (b' : Nat) (ls' : List Str) (H' : Hp), (i + 1 ≤ b' ∨ b' = x.length) → b' ≤ x.length → H' p = some (.lst (ls'.map V.str)) → ls' ++ (lexA [] ((cl x).drop b')).map (lawT sw) = (lexA [] (cl x)).map (lawT sw) → Same H H' → ls'.length ≤ b' →
        ∃ (b : Nat) (ls : List Str) (d4 d5 d6 : Option V), [some (V.ref a), some (.str x), some (.ref p), some (.int b'), c4, c5, c6] = [some (.ref a), some (.str x), some (.ref p), some (.int b), d4, d5, d6] ∧ (i + 1 ≤ b ∨ b = x.length) ∧ b ≤ x.length ∧ H' p = some (.lst (ls.map V.str)) ∧ ls ++ (lexA [] ((cl x).drop b)).map (lawT sw) = (lexA [] (cl x)).map (lawT sw) ∧ Same H H' ∧ ls.length ≤ b :=
      fun c4 c5 c6 b' ls' H' h1 h2 h3 h4 h5 h6 => ⟨b', ls', c4, c5, c6, rfl, h1, h2, h3, h4, h5, h6⟩
    refine ⟨_, rfl, _, rfl, x, rfl, hz, _, _, rfl, rfl, _, rfl, ite2 (fun c1 => ?_) (fun c1 => ?_)⟩
    · have hb' : b < x.length := by
        have := of_decide_eq_true c1
        omega
      have hbl : b < (cl x).length := by omega
      have hdb : (cl x).drop b = (cl x)[b] :: (cl x).drop (b + 1) := List.drop_eq_getElem_cons hbl
      have hat : atI (cl x) (b : Int) = some (cl x)[b] := atI_nat (List.getElem?_eq_getElem hbl)
      refine ⟨_, rfl, _, rfl, x, _, _, rfl, rfl, hz, hat, _, _, rfl, rfl, _, rfl, ?_⟩
      rw [in_l]
      refine ite2 (fun c2 => ?_) (fun c2 => ?_)
      · refine ⟨fun σ'' H'' => H'' = H1 ∧ ∃ (u v : List Nat) (c6 : Option V), (cl x).drop b = u ++ v ∧ u ≠ [] ∧ (∀ c ∈ u, lett c = true) ∧ (∀ c, v.head? = some c → lett c = false) ∧ σ'' = [some (.ref a), some (.str x), some (.ref p), some (.int b), some (.int (0 + (i : Int))), some (.str ⟨u.toArray⟩), c6], ?_, ?_⟩
        · refine ⟨_, rfl, _, rfl, _, rfl, x, rfl, hz, _, rfl, ?_⟩
          have hcut : cl (cutS x (some (b : Int)) none) = (cl x).drop b := by
            show (((cl x).drop (HT.sIx x.length 0 (some ((b : Nat) : Int)))).take (x.length - HT.sIx x.length 0 (some ((b : Nat) : Int)))).toArray.toList = _
            rw [HT.sIx_nat, Nat.min_eq_left (Nat.le_of_lt hb')]
            rw [List.take_of_length_le (by rw [List.length_drop]; omega)]
          generalize cutS x (some (b : Int)) none = y at hcut ⊢
          have hys : y.cps.size = x.length - b := by
            have z : (cl y).length = y.cps.size := cl_len y
            rw [← z, hcut, List.length_drop, hl]
          refine ⟨fun j m σ'' H'' => m = y.cps.size - j ∧ j ≤ y.cps.size ∧ H'' = H1 ∧ (∀ c ∈ (cl y).take j, lett c = true) ∧ ∃ c6 : Option V, σ'' = [some (.ref a), some (.str x), some (.ref p), some (.int b), some (.int (0 + (i : Int))), some (.str ⟨((cl y).take j).toArray⟩), c6], ⟨_, rfl, Nat.zero_le _, rfl, (fun c hc => by cases hc), _, rfl⟩, ?_⟩
          rintro i2 m σ'' H'' ⟨rfl, hi2, rfl, hall, c6', rfl⟩
          by_cases hlt : i2 < y.cps.size
          · refine .inr ⟨hlt, fun σ' H' => ∃ m', m' < y.cps.size - i2 ∧ m' = y.cps.size - (i2 + 1) ∧ i2 + 1 ≤ y.cps.size ∧ H' = H'' ∧ (∀ c ∈ (cl y).take (i2 + 1), lett c = true) ∧ ∃ c6 : Option V, σ' = [some (.ref a), some (.str x), some (.ref p), some (.int b), some (.int (0 + (i : Int))), some (.str ⟨((cl y).take (i2 + 1)).toArray⟩), c6], fun σ' H' h => h, ?_⟩
            rintro v H3 ⟨rfl, c, hc, rfl⟩
            have hcl : (cl y)[i2]? = some c := by rw [← hc]; exact Array.getElem?_toList
            have hlt2 : i2 < (cl y).length := by rw [cl_len]; exact hlt
            have hce : (cl y)[i2] = c := by
              rw [List.getElem?_eq_getElem hlt2] at hcl
              exact Option.some.inj hcl
            refine ⟨_, rfl, _, _, rfl, rfl, _, rfl, ?_⟩
            rw [in_l]
            refine ite2 (fun c3 => ?_) (fun c3 => ?_)
            · have hcn : lett c = false := by
                cases h : lett c with
                | true => rw [h] at c3; cases c3
                | false => rfl
              refine ⟨rfl, (cl y).take i2, (cl y).drop i2, _, ?_, ?_, hall, ?_, rfl⟩
              · rw [List.take_append_drop, hcut]
              · intro z
                have hi0 : i2 = 0 := by
                  have := congrArg List.length z
                  rw [List.length_take, List.length_nil] at this
                  omega
                subst hi0
                have : (cl y)[0]? = some (cl x)[b] := by rw [hcut, hdb]; rfl
                rw [hcl] at this
                rw [Option.some.inj this] at hcn
                rw [hcn] at c2
                cases c2
              · intro d hd
                rw [List.drop_eq_getElem_cons hlt2, hce] at hd
                cases hd
                exact hcn
            · have hcy : lett c = true := by
                cases h : lett c with
                | true => rfl
                | false => rw [h] at c3; exact absurd rfl c3
              have tk : (cl y).take (i2 + 1) = (cl y).take i2 ++ [c] := by rw [List.take_succ, hcl]; rfl
              refine ⟨_, rfl, _, rfl, _, _, rfl, rfl, ?_, _, ?_, rfl, hlt, rfl, ?_, some (.str ⟨#[c]⟩), ?_⟩
              · show ((cl y).take i2).toArray.size + 1 ≤ sizeLine
                rw [List.size_toArray, List.length_take]
                exact Nat.le_trans (show min i2 (cl y).length + 1 ≤ 2000 by omega) (by decide)
              · omega
              · intro d hd
                rw [tk] at hd
                rcases List.mem_append.mp hd with z | z
                · exact hall d z
                · rw [List.mem_singleton.mp z]
                  exact hcy
              · have e : ((⟨((cl y).take i2).toArray⟩ : Str) ++ (⟨#[c]⟩ : Str)) = ⟨((cl y).take (i2 + 1)).toArray⟩ := by
                  apply cl_inj
                  rw [cl_app, tk]
                show [_, _, _, _, _, some (V.str ((⟨((cl y).take i2).toArray⟩ : Str) ++ (⟨#[c]⟩ : Str))), _] = _
                rw [e]
          · have e : i2 = y.cps.size := by omega
            refine .inl ⟨by show y.cps.size ≤ i2; omega, rfl, (cl y).take i2, [], _, ?_, ?_, hall, (fun c hc => by cases hc), rfl⟩
            · have h9 : (cl y).length = y.cps.size := cl_len y
              rw [List.append_nil, e, ← h9, List.take_length, hcut]
            · intro z
              have := congrArg List.length z
              rw [List.length_take, List.length_nil, cl_len] at this
              have h9 : y.length = y.cps.size := rfl
              omega
        · rintro σ'' H'' ⟨rfl, u, v, c6', hsp, hu0, hul, hvh, rfl⟩
          have hcu : cl (⟨u.toArray⟩ : Str) = u := rfl
          have hulen : u.length + v.length = x.length - b := by
            have := congrArg List.length hsp
            rw [List.length_drop, List.length_append, hl] at this
            omega
          have hu1 : 1 ≤ u.length := List.length_pos_iff.mpr hu0
          have hdu : (cl x).drop (b + u.length) = v := by
            rw [← List.drop_drop, hsp, List.drop_left]
          have hlaw : lawT sw u = if sw.any (fun y => decide (cl y = u)) = true then ("x" : Str) else ("?" : Str) := by
            cases u with
            | nil => exact absurd rfl hu0
            | cons c r =>
              show (if lett c = true then _ else _) = _
              rw [if_pos (hul c List.mem_cons_self)]
          have hnext : ∀ y : Str, y = lawT sw u → (ls ++ [y]) ++ (lexA [] ((cl x).drop (b + u.length))).map (lawT sw) = (lexA [] (cl x)).map (lawT sw) := fun y hy => by
            rw [hdu, ← hlex, hsp, lex_run hu0 hul hvh, hy, List.append_assoc]
            rfl
          refine ⟨_, rfl, .inl ⟨rfl, _, SqL.of hp⟩, _, rfl, _, rfl, a, _, rfl, .inr (hs.same hs1).sq, rfl, ?_, _, rfl, ?_⟩
          · rw [List.all_map]
            exact List.all_eq_true.mpr fun _ _ => rfl
          rw [if_neg (by decide), inV_str, hcu]
          have fin : ∀ y : Str, y = lawT sw u → _ := fun y hy => hnext y hy
          cases hA : sw.any (fun y => decide (cl y = u)) with
          | false =>
            rw [hA] at hlaw
            refine iteF ⟨p, _, _, rfl, rfl, hp, ?_, ?_⟩
            · rw [List.length_map]
              exact Nat.lt_of_le_of_lt (show ls.length ≤ 1000 by omega) (by decide)
            · refine ⟨_, rfl, _, rfl, _, rfl, ?_, _, _, rfl, rfl, pvI _ _ _ (b + u.length) (ls ++ [("?" : Str)]) _ (.inl ?_) ?_ ?_ (hnext _ hlaw.symm) (same_put hs1 np) ?_⟩
              · show u.toArray.size ≤ sizeLine
                rw [List.size_toArray]
                exact room5 (by omega)
              · omega
              · omega
              · rw [upd_same, List.map_append]
                rfl
              · rw [List.length_append]
                show ls.length + 1 ≤ b + u.length
                omega
          | true =>
            rw [hA] at hlaw
            refine iteT ⟨p, _, _, rfl, rfl, hp, ?_, ?_⟩
            · rw [List.length_map]
              exact Nat.lt_of_le_of_lt (show ls.length ≤ 1000 by omega) (by decide)
            · refine ⟨_, rfl, _, rfl, _, rfl, ?_, _, _, rfl, rfl, pvI _ _ _ (b + u.length) (ls ++ [("x" : Str)]) _ (.inl ?_) ?_ ?_ (hnext _ hlaw.symm) (same_put hs1 np) ?_⟩
              · show u.toArray.size ≤ sizeLine
                rw [List.size_toArray]
                exact room5 (by omega)
              · omega
              · omega
              · rw [upd_same, List.map_append]
                rfl
              · rw [List.length_append]
                show ls.length + 1 ≤ b + u.length
                omega
      · have hlb : lett (cl x)[b] = false := by
          cases h : lett (cl x)[b] with
          | true => exact absurd h c2
          | false => rfl
        have hlex1 : (cl x)[b] ≠ 32 → lexA [] ((cl x).drop b) = [(cl x)[b]] :: lexA [] ((cl x).drop (b + 1)) := fun h32 => by
          rw [hdb, lex_one hlb]
          unfold sgn
          rw [if_neg h32]
          rfl
        have hlex0 : (cl x)[b] = 32 → lexA [] ((cl x).drop b) = lexA [] ((cl x).drop (b + 1)) := fun h32 => by
          rw [hdb, lex_one hlb]
          unfold sgn
          rw [if_pos h32]
          rfl
        have hlaw : lawT sw [(cl x)[b]] = if decide ((cl x)[b] ∈ cl "01()!&|") = true then (⟨#[(cl x)[b]]⟩ : Str) else ("?" : Str) := by
          show (if lett (cl x)[b] = true then _ else _) = _
          rw [if_neg c2]
        refine ⟨_, rfl, _, rfl, x, rfl, hz, _, _, rfl, rfl, _, rfl, ite2 (fun _ => ?_) (fun c3 => absurd c1 c3)⟩
        refine ⟨_, rfl, _, rfl, x, _, _, rfl, rfl, hz, hat, rfl, _, rfl, ite2 (fun c5 => ?_) (fun c5 => ?_)⟩
        · have h32 : (cl x)[b] ≠ 32 := fun z => by
            rw [z] at c5
            exact absurd c5 (by decide +kernel)
          have hnext : ∀ y : Str, y = lawT sw [(cl x)[b]] → (ls ++ [y]) ++ (lexA [] ((cl x).drop (b + 1))).map (lawT sw) = (lexA [] (cl x)).map (lawT sw) := fun y hy => by
            rw [← hlex, hlex1 h32, hy, List.append_assoc]
            rfl
          refine ⟨_, rfl, .inl ⟨rfl, _, SqL.of hp⟩, _, rfl, _, rfl, x, _, _, rfl, rfl, hz, hat, _, _, rfl, rfl, _, rfl, ?_⟩
          rw [StrLaws.found_one]
          cases hA : decide ((cl x)[b] ∈ cl "01()!&|") with
          | true =>
            rw [hA] at hlaw
            refine iteT ⟨_, rfl, _, rfl, x, _, _, rfl, rfl, hz, hat, p, _, _, rfl, rfl, hp, ?_, ?_⟩
            · rw [List.length_map]
              exact Nat.lt_of_le_of_lt (show ls.length ≤ 1000 by omega) (by decide)
            · refine ⟨_, rfl, _, _, rfl, rfl, pvI _ _ _ (b + 1) (ls ++ [(⟨#[(cl x)[b]]⟩ : Str)]) _ (.inl ?_) ?_ ?_ (hnext _ hlaw.symm) (same_put hs1 np) ?_⟩
              · omega
              · omega
              · rw [upd_same, List.map_append]
                rfl
              · rw [List.length_append]
                show ls.length + 1 ≤ b + 1
                omega
          | false =>
            rw [hA] at hlaw
            refine iteF ⟨p, _, _, rfl, rfl, hp, ?_, ?_⟩
            · rw [List.length_map]
              exact Nat.lt_of_le_of_lt (show ls.length ≤ 1000 by omega) (by decide)
            · refine ⟨_, rfl, _, _, rfl, rfl, pvI _ _ _ (b + 1) (ls ++ [("?" : Str)]) _ (.inl ?_) ?_ ?_ (hnext _ hlaw.symm) (same_put hs1 np) ?_⟩
              · omega
              · omega
              · rw [upd_same, List.map_append]
                rfl
              · rw [List.length_append]
                show ls.length + 1 ≤ b + 1
                omega
        · have h32 : (cl x)[b] = 32 := by
            have z : (V.str ⟨#[(cl x)[b]]⟩ : V) = V.str " " := by
              by_cases z : (V.str ⟨#[(cl x)[b]]⟩ : V) = V.str " "
              · exact z
              · rw [decide_eq_false z] at c5
                exact absurd rfl c5
            have z2 : cl ⟨#[(cl x)[b]]⟩ = cl " " := congrArg cl (V.str.inj z)
            have z3 : cl " " = [32] := by decide +kernel
            rw [z3] at z2
            exact (List.cons.inj z2).1
          refine ⟨_, rfl, _, _, rfl, rfl, pvI _ _ _ (b + 1) ls _ (.inl ?_) ?_ hp ?_ hs1 ?_⟩
          · omega
          · omega
          · rw [← hlex, hlex0 h32]
          · omega
    · have hbe : b = x.length := by
        by_cases z : b < x.length
        · exact absurd (decide_eq_true (show ((b : Int) < (x.length : Int)) by omega)) c1
        · omega
      refine ⟨_, rfl, _, rfl, x, rfl, hz, _, _, rfl, rfl, _, rfl, ite2 (fun c2 => absurd c2 c1) (fun c2 => ?_)⟩
      exact pvI _ _ _ b ls _ (.inr hbe) hb hp hlex hs1 hls
  · rintro σ' H1 ⟨b, ls, c4, c5, c6, rfl, hib, hb, hp, hlex, hs1, hls⟩
    have hbe : b = x.length := by
      rcases hib with z | z
      · have : ((x.length : Int)).toNat = x.length := by omega
        omega
      · exact z
    rw [hbe, List.drop_eq_nil_of_le (by omega)] at hlex
    have e : ls = (lexA [] (cl x)).map (lawT sw) := by
      rw [← hlex]
      show ls = ls ++ []
      rw [List.append_nil]
    rw [e] at hp
    exact ⟨_, rfl, q p _ hs1 np hp⟩
end
end Ver

/-! ## _law_spoilt -/
namespace Ver
open PySem PySem.Spec PyProof.Rows L2
abbrev sSpo : Stmt := top 35
theorem fold_size (a : Array Nat) : ∀ (n : Nat) (b : Array Nat), ((List.replicate n a).foldl (· ++ ·) b).size = b.size + n * a.size
  | 0, b => by simp
  | n + 1, b => by
    rw [List.replicate_succ, List.foldl_cons, fold_size a n, Array.size_append, Nat.succ_mul]
    omega
theorem mul_len (x : Str) (n : Nat) : (Txt.mul x (n : Int)).length ≤ x.length * n := by
  unfold Txt.mul
  split
  · exact Nat.zero_le _
  · rename_i h1
    have hn : 1 ≤ n := by omega
    split
    · exact Nat.le_mul_of_pos_right _ hn
    · show ((List.replicate (n : Int).toNat x.cps).foldl (· ++ ·) #[]).size ≤ x.cps.size * n
      rw [fold_size, Int.toNat_natCast]
      simp [Nat.mul_comm]
theorem op_mulS {X : Cx} : OpR X (binaryOp .Mult) (fun x y H Q => ∃ (z : Str) (n : Nat), x = .str z ∧ y = .int (n : Int) ∧ z.length ≤ 1000 ∧ n ≤ 1000 ∧ ∀ w : Str, w.length ≤ z.length * n → Q (.str w) H) := by
  intro pins s σ H x y v u Q I rx ry h
  obtain ⟨z, n, rfl, rfl, h1, h2, q⟩ := h
  obtain ⟨t, rfl⟩ := rx
  obtain ⟨t', rfl⟩ := ry
  refine PySem.SB.mul ⟨?_, fun a _ => ?_, fun _ _ => ?_⟩ fun tk k => ⟨.str (Txt.mul z n), H, I.tok k, ⟨tk, rfl⟩, q _ (mul_len z n)⟩
  · simp
    omega
  · intro hgt
    have hn : (1 : Int) ≤ n := by omega
    have l1 := Int.lt_ediv_add_one_mul_self (2 ^ 63 - 1) (show (0 : Int) < n by omega)
    have l2 : ((2 ^ 63 - 1 : Int) / n + 1) ≤ 1000 := by
      have : (z.length : Int) ≤ 1000 := by omega
      omega
    have l3 : ((2 ^ 63 - 1 : Int) / n + 1) * n ≤ 1000 * 1000 := Int.mul_le_mul l2 (by omega) (by omega) (by omega)
    omega
  · have : z.length * (n : Int).toNat ≤ 1000 * 1000 := by
      rw [Int.toNat_natCast]
      exact Nat.mul_le_mul h1 h2
    unfold Builtin.Str.tooLong
    exact decide_eq_false (Nat.not_lt.mpr (Nat.le_trans this (by decide)))
def spSpo : Sp := fun vs H Q _ => ∃ (t l : Addr) (x : Str), vs = [.ref t, .str x] ∧ Tape H t l ∧ x.length ≤ 60 ∧ ∀ (y : Str) (H' : Hp), y.length ≤ 1000 → But t H H' → Tape H' t l → Q (.str y) H'
theorem cut_len (x : Str) (lo hi : Option Int) : (cutS x lo hi).length ≤ x.length := by
  show (((x.cps.toList.drop (HT.sIx x.length 0 lo)).take (HT.sIx x.length x.length hi - HT.sIx x.length 0 lo)).toArray).size ≤ _
  rw [List.size_toArray, List.length_take, List.length_drop]
  have : x.cps.toList.length = x.length := cl_len x
  omega
section
variable {P : Program} {w : World} {K : PySem.W.Frag} {mg : Str → Option Value} {base : Heap} {f g : Addr} {fd gd : FuncData}
theorem scSpo : FnScope ["tape", "text", "at", "sign", "draw"] ["tape", "text"] (defScope sSpo) := ⟨rfl, rfl, rfl, by decide +kernel, rfl, by decide +kernel, by decide +kernel⟩
theorem ok_spo (F : Fun K "_law_spoilt" "_law_spoilt" sSpo f fd) (G : FnOk P w K mg base CX0 2 g gd ["tape", "many"] spTake) (bG : Binds K gd ["tape", "many"] []) (kG : PySem.W.keepIn K (.ref g) = true)
    (mG : mg "_law_take" = some (.ref g)) (ml : mg "len" = none) : FnOk P w K mg base CX0 3 f fd ["tape", "text"] spSpo := by
  refine F.ok scSpo (fun vs H Q E h => ?_) (fun cdv A outer s H vs Q E hr h => ?_)
  · obtain ⟨t, l, x, rfl, _⟩ := h
    rfl
  obtain ⟨t, l, x, rfl, hT, hx, q⟩ := h
  refine ⟨_, pss_cons (ps_set (i := 2) scSpo.nd rfl (.inl rfl) (pe_call G hr rfl mG kG bG .nil pass0 (pa_cons (pv 0) (pa_cons (pe_op op_add (pe_callB call_len_str (by rfl) ml PySem.boot_len (pa_cons (pv 1) pa_nil)) pe_int) pa_nil))))
    (C8.pss_cut (ps_set (i := 3) scSpo.nd rfl (.inl rfl) (pe_ix ix_list (pe_lst (pa_cons pe_str (pa_cons pe_str (pa_cons pe_str (pa_cons pe_str (pa_cons pe_str (pa_cons pe_str (pa_cons pe_str (pa_cons pe_str (pa_cons pe_str (pa_cons pe_str (pa_cons pe_str (pa_cons pe_str pa_nil)))))))))))))
        (pe_call G hr rfl mG kG bG .nil pass0 (pa_cons (pv 0) (pa_cons pe_int pa_nil))) (fun _ _ => rfl)))
    (pss_cons (ps_set (i := 4) scSpo.nd rfl (.inl rfl) (pe_call G hr rfl mG kG bG .nil pass0 (pa_cons (pv 0) (pa_cons pe_int pa_nil))))
    (pss_cons (ps_if (pt_cmpR op_eq (pv 4) pe_int (nomark _)) (pss_one (ps_ret (pe_op op_add_str (pe_op op_add_str (pe_slice sl_str (pv 1) po_none (po_some (pv 2))) (pv 3)) (pe_slice sl_str (pv 1) (po_some (pv 2)) po_none)))) pss_nil)
    (pss_cons (ps_if (pt_cmpR op_eq (pv 4) pe_int (nomark _)) (pss_one (ps_ret (pe_op op_add_str (pe_slice sl_str (pv 1) po_none (po_some (pv 2))) (pe_slice sl_str (pv 1) (po_some (pe_op op_add (pv 2) pe_int)) po_none)))) pss_nil)
    (pss_cons (ps_if (pt_cmpR op_eq (pv 4) pe_int (nomark _)) (pss_one (ps_ret (pe_op op_add_str (pe_op op_add_str (pe_slice sl_str (pv 1) po_none (po_some (pv 2))) (pv 3)) (pe_slice sl_str (pv 1) (po_some (pe_op op_add (pv 2) pe_int)) po_none)))) pss_nil)
    (pss_one (ps_ret (pe_ix ix_list (pe_lst (pa_cons pe_str (pa_cons pe_str (pa_cons (pe_op op_add_str (pv 1) (pe_op op_mulS pe_str pe_int)) (pa_cons (pe_op op_add_str (pv 1) pe_str) (pa_cons (pe_op op_add_str (pe_op op_add_str (pe_op op_mulS pe_str pe_int) (pv 1)) (pe_op op_mulS pe_str pe_int)) pa_nil))))))
        (pe_call G hr rfl mG kG bG .nil pass0 (pa_cons (pv 0) (pa_cons pe_int pa_nil))) (fun _ _ => rfl))))))))), ?_⟩
  have hz := room5 (show x.length ≤ 1000 by omega)
  have big : ∀ m : Nat, m ≤ 5000 → m ≤ sizeLine := fun m h => Nat.le_trans h (by decide)
  refine ⟨_, rfl, _, rfl, x, rfl, hz, _, _, rfl, rfl, t, l, _, rfl, hT, by omega, by omega, fun d1 H1 d10 _ b1 T1 => ?_⟩
  refine ⟨fun σ' H' => ∃ (sg : Str), σ' = [some (.ref t), some (.str x), some (.int d1), some (.str sg), none] ∧ sg.length ≤ 1 ∧ But t H H' ∧ Tape H' t l, ?_, ?_⟩
  · refine ⟨(by show 12 ≤ sizeLine; decide), fun p np => ?_⟩
    have g1 := same_new np (.lst ((["", "&", "|", "!", "(", ")", "0", "A", "-", "q", " ", "1"] : List Str).map V.str))
    refine ⟨_, rfl, t, l, 12, rfl, T1.same g1, by decide, by decide, fun d H2 d0 d2 g2 T2 => ?_⟩
    have e2 := g2 _ _ (T1.nt np) (upd_same (H := H1) (a := p) (o := .lst ((["", "&", "|", "!", "(", ")", "0", "A", "-", "q", " ", "1"] : List Str).map V.str)))
    have hlt : d.toNat < (["", "&", "|", "!", "(", ")", "0", "A", "-", "q", " ", "1"] : List Str).length := by show d.toNat < 12; omega
    have hall : (["", "&", "|", "!", "(", ")", "0", "A", "-", "q", " ", "1"] : List Str).all (fun s => decide (s.length ≤ 1)) = true := by decide +kernel
    generalize (["", "&", "|", "!", "(", ")", "0", "A", "-", "q", " ", "1"] : List Str) = ss at e2 hlt hall
    have h1 := of_decide_eq_true (List.all_eq_true.mp hall _ (List.getElem_mem hlt))
    exact ⟨p, _, _, _, rfl, rfl, SqL.of e2, at_of (j := d.toNat) (by omega) (by rw [List.getElem?_map, List.getElem?_eq_getElem hlt]; rfl), ss[d.toNat], rfl, h1, (b1.trans (But.of g1)).trans g2, T2⟩
  rintro σ' H2 ⟨sg, rfl, hsg, b2, T2⟩
  refine ⟨_, rfl, t, l, 4, rfl, T2, by decide, by decide, fun d2 H3 _ _ b3 T3 => ?_⟩
  have b3' := b2.trans b3
  have cl1 := cut_len x
  refine ⟨_, rfl, rfl, _, rfl, ite2 (fun c1 => ?_) (fun c1 => ?_)⟩
  · refine ⟨_, rfl, _, rfl, _, rfl, x, rfl, hz, _, rfl, _, _, rfl, rfl, ?_, _, rfl, _, rfl, _, rfl, x, rfl, hz, _, _, rfl, rfl, ?_, q _ _ ?_ b3' T3⟩
    · have := cl1 none (some d1)
      exact big _ (by omega)
    · have := cl1 none (some d1)
      have := cl1 (some d1) none
      rw [len_app]
      exact big _ (by omega)
    · have := cl1 none (some d1)
      have := cl1 (some d1) none
      rw [len_app, len_app]
      omega
  refine ⟨_, rfl, rfl, _, rfl, ite2 (fun c2 => ?_) (fun c2 => ?_)⟩
  · refine ⟨_, rfl, _, rfl, _, rfl, x, rfl, hz, _, rfl, _, rfl, _, _, rfl, rfl, _, rfl, x, rfl, hz, _, _, rfl, rfl, ?_, q _ _ ?_ b3' T3⟩
    · have := cl1 none (some d1)
      have := cl1 (some (d1 + 1)) none
      exact big _ (by omega)
    · have := cl1 none (some d1)
      have := cl1 (some (d1 + 1)) none
      rw [len_app]
      omega
  refine ⟨_, rfl, rfl, _, rfl, ite2 (fun c3 => ?_) (fun c3 => ?_)⟩
  · refine ⟨_, rfl, _, rfl, _, rfl, x, rfl, hz, _, rfl, _, _, rfl, rfl, ?_, _, rfl, _, rfl, _, _, rfl, rfl, _, rfl, x, rfl, hz, _, _, rfl, rfl, ?_, q _ _ ?_ b3' T3⟩
    · have := cl1 none (some d1)
      exact big _ (by omega)
    · have := cl1 none (some d1)
      have := cl1 (some (d1 + 1)) none
      rw [len_app]
      exact big _ (by omega)
    · have := cl1 none (some d1)
      have := cl1 (some (d1 + 1)) none
      rw [len_app, len_app]
      omega
  have l1 : (" " : Str).length = 1 := by decide +kernel
  have l2 : ("!" : Str).length = 1 := by decide +kernel
  have l3 : ("&" : Str).length = 1 := by decide +kernel
  refine ⟨_, rfl, (" " : Str), 61, rfl, rfl, by decide +kernel, by decide, fun w1 hw1 => ⟨x, w1, rfl, rfl, ?_, ?_⟩⟩
  · rw [l1] at hw1
    exact big _ (by omega)
  rw [l1] at hw1
  refine ⟨_, rfl, x, _, rfl, rfl, ?_, ("!" : Str), 40, rfl, rfl, by decide +kernel, by decide, fun w2 hw2 => ⟨_, rfl, w2, x, rfl, rfl, ?_, (" " : Str), 9, rfl, rfl, by decide +kernel, by decide, fun w3 hw3 => ⟨_, w3, rfl, rfl, ?_, ?_⟩⟩⟩
  · rw [l3]
    exact big _ (by omega)
  · rw [l2] at hw2
    exact big _ (by omega)
  · rw [l2] at hw2
    rw [l1] at hw3
    rw [len_app]
    exact big _ (by omega)
  rw [l2] at hw2
  rw [l1] at hw3
  refine ⟨(by show 5 ≤ sizeLine; decide), fun p np => ?_⟩
  have g1 := same_new np (.lst (([("" : Str), " ", x ++ w1, x ++ "&", w2 ++ x ++ w3] : List Str).map V.str))
  refine ⟨_, rfl, t, l, 5, rfl, T3.same g1, by decide, by decide, fun d H4 d0 d5 g2 T4 => ?_⟩
  have e2 := g2 _ _ (T3.nt np) (upd_same (H := H3) (a := p) (o := .lst (([("" : Str), " ", x ++ w1, x ++ "&", w2 ++ x ++ w3] : List Str).map V.str)))
  have hlt : d.toNat < ([("" : Str), " ", x ++ w1, x ++ "&", w2 ++ x ++ w3] : List Str).length := by show d.toNat < 5; omega
  have hall : ∀ y ∈ ([("" : Str), " ", x ++ w1, x ++ "&", w2 ++ x ++ w3] : List Str), y.length ≤ 1000 := by
    intro y hy
    simp only [List.mem_cons, List.mem_nil_iff, or_false] at hy
    rcases hy with rfl | rfl | rfl | rfl | rfl
    · decide +kernel
    · decide +kernel
    · rw [len_app]
      omega
    · rw [len_app, l3]
      omega
    · rw [len_app, len_app]
      omega
  generalize ([("" : Str), " ", x ++ w1, x ++ "&", w2 ++ x ++ w3] : List Str) = ss at e2 hlt hall
  exact ⟨p, _, _, _, rfl, rfl, SqL.of e2, at_of (j := d.toNat) (by omega) (by rw [List.getElem?_map, List.getElem?_eq_getElem hlt]; rfl), q _ _ (hall _ (List.getElem_mem hlt)) ((b3'.trans (But.of g1)).trans g2) T4⟩
end
end Ver

/-! ## _law_told -/
namespace Ver
open PySem PySem.Spec PyProof.Rows L2
abbrev sTo : Stmt := top 36
/-- what the classes say -/
structure ToldF (K : PySem.W.Frag) (mg : Str → Option Value) (C CF CS : Addr) : Prop where
  e : ExcC K C
  te : PySem.W.exmOne K (.ref C) (.ref C) = some true
  kF : PySem.W.kitOne K (.ref C) (.ref CF) = some true
  kS : PySem.W.kitOne K (.ref C) (.ref CS) = some false
  gF : mg "FoldError" = some (.ref CF)
  gS : mg "BadShelf" = some (.ref CS)
def spTo : Sp := fun vs H Q _ => ∃ (a : Addr) (sw : List Str) (x : Str), vs = [.ref a, .str x] ∧ SwT H a sw ∧ sw.length ≤ 5 ∧ Named sw ∧ x.length ≤ 1000 ∧ ∀ H', Same H H' → Q (if (rf sw x).isSome = true then .non else .bl true) H'
section
variable {P : Program} {w : World} {K : PySem.W.Frag} {mg : Str → Option Value} {base : Heap} {f g C CF CS : Addr} {fd gd : FuncData}
theorem scTo : FnScope ["switches", "text", "why"] ["switches", "text"] (defScope sTo) := ⟨rfl, rfl, rfl, by decide +kernel, rfl, by decide +kernel, by decide +kernel⟩
def tSuite (C a : Addr) (ts : TS) (cls : Value) (d : Option Addr) : TS := fun D σ H => cls = .ref C ∧ d = none ∧ ts D σ H
theorem ok_to {n : Nat} (F : Fun K "_law_told" "_law_told" sTo f fd) (B : BadF K mg C) (T : ToldF K mg C CF CS) (G : FnOk P w K mg base (L2.CX P w) n g gd ["switches", "text"] (spRf C)) (bG : Binds K gd ["switches", "text"] []) (kG : PySem.W.keepIn K (.ref g) = true) (mG : mg "read_formula" = some (.ref g))
    (mi : mg "isinstance" = none) : FnOk P w K mg base (L2.CX P w) (n + 1) f fd ["switches", "text"] spTo := by
  refine F.okX scTo (fun vs H Q E h => ?_) (fun cdv A outer s H vs Q E hr h => ?_)
  · obtain ⟨a, sw, x, rfl, _⟩ := h
    rfl
  obtain ⟨a, sw, x, rfl, hs, h5, hn, hx, q⟩ := h
  have tk := takes_of (X := cxOf (L2.CX P w) P w K mg base ["switches", "text", "why"] "_law_told" (defScope sTo) f cdv A outer s H E) (E := E) rfl rfl rfl rfl
  refine ⟨_, pss_cons (ps_try_as (c := .ref C) (i := 2) (ts := fun a => tSuite C a (tRet (tAndV (tCB (rIsE K C a) (tCons (tVar 2) (tCons (tC (.ref CF)) tNil))) (tNotV (tCB (rIsE K C a) (tCons (tVar 2) (tCons (tC (.ref CS)) tNil))))))) (tb := fun W => _) rfl rfl scTo.nd rfl rfl ⟨by rfl, by decide, .inl B.g⟩ tk
      (fun W pn xe tkW _ => pss_one (ps_expr (pe_callS G hr (by rfl) mG kG bG (fun σ => passAt tkW σ) (pa_cons (pv 0) (pa_cons (pv 1) pa_nil)))))
      (fun a oe cls d pn hz hf => ?_))
    (pss_one (ps_ret pe_non)), ?_⟩
  · refine ⟨fun pins s σ H D I h => ?_⟩
    obtain ⟨rfl, rfl, h⟩ := h
    exact (pss_one (ps_ret (pe_and (pe_callB (call_isE T.e hz hf) (by rfl) mi (by decide +kernel) (pa_cons (pv 2) (pa_cons (C8.pe_gc (v := .ref CF) (by rfl) ⟨_, T.gF, rfl⟩) pa_nil)))
      (pe_one (pe_not (pe_callB (call_isE T.e hz hf) (by rfl) mi (by decide +kernel) (pa_cons (pv 2) (pa_cons (C8.pe_gc (v := .ref CS) (by rfl) ⟨_, T.gS, rfl⟩) pa_nil)))))))).run pins s σ H D I h
  · refine ⟨_, rfl, _, rfl, a, sw, x, rfl, hs, h5, hn, hx, ?_⟩
    cases hf : rf sw x with
    | some f1 =>
      rw [hf] at q
      exact fun v H' g1 _ => q H' g1
    | none =>
      rw [hf] at q
      refine fun H' g1 => ⟨true, T.te, fun _ a2 n2 => ⟨rfl, rfl, ?_⟩, fun z => nomatch z⟩
      exact ⟨_, rfl, .ref CF, _, true, rfl, (fun u r => r), T.kF, true, rfl, iteT ⟨_, rfl, .ref CS, _, false, rfl, (fun u r => r), T.kS, false, rfl, q H' g1⟩⟩
end
end Ver

/-! ## The law's own reader says what read_formula says -/
namespace Ver
open PySem PySem.Spec PyProof.Rows L2
/-- a sign: a word, or one other character -/
def Tk (t : List Nat) : Prop := (t ≠ [] ∧ ∀ c ∈ t, lett c = true) ∨ ∃ c, t = [c] ∧ lett c = false ∧ c ≠ 32
theorem lexA_tk : ∀ (l acc : List Nat), (∀ c ∈ acc, lett c = true) → ∀ t ∈ lexA acc l, Tk t
  | [], acc, ha, t, ht => by
    cases acc with
    | nil => cases ht
    | cons a r =>
      have e : t = a :: r := List.mem_singleton.mp ht
      subst e
      exact .inl ⟨(fun z => nomatch z), ha⟩
  | c :: l, acc, ha, t, ht => by
    rw [lexA_cons] at ht
    by_cases h : lett c = true
    · rw [if_pos h] at ht
      refine lexA_tk l (acc ++ [c]) (fun d hd => ?_) t ht
      rcases List.mem_append.mp hd with z | z
      · exact ha d z
      · rw [List.mem_singleton.mp z]
        exact h
    · rw [if_neg h] at ht
      rcases List.mem_append.mp ht with z | z
      · cases acc with
        | nil => cases z
        | cons a r =>
          have e : t = a :: r := List.mem_singleton.mp z
          subst e
          exact .inl ⟨(fun z => nomatch z), ha⟩
      · rcases List.mem_append.mp z with z | z
        · unfold sgn at z
          by_cases h32 : c = 32
          · rw [if_pos h32] at z
            cases z
          · rw [if_neg h32] at z
            exact .inr ⟨c, List.mem_singleton.mp z, Bool.eq_false_iff.mpr h, h32⟩
        · exact lexA_tk l [] (fun d hd => by cases hd) t z
/-- a sign in the law's row -/
def rowC (sw : List Str) (t : List Nat) : Str := if decide (cl (lawT sw t) ∈ [[120], [48], [49]]) = true then "x" else lawT sw t
theorem rowC_abs {sw : List Str} (hs : Named sw) {t : List Nat} (ht : Tk t) : cl (rowC sw t) = [absT sw t] := by
  have cx : cl "x" = [120] := by decide +kernel
  have cq : cl "?" = [63] := by decide +kernel
  rcases ht with ⟨h0, hl⟩ | ⟨c, rfl, hc, _⟩
  · have no : ∀ k, lett k = false → t ≠ [k] := fun k hk e => by
      have := hl k (by rw [e]; exact List.mem_singleton.mpr rfl)
      rw [hk] at this
      cases this
    have es : (single sw t).isSome = sw.any fun y => decide (cl y = t) := by
      unfold single
      rw [if_neg (no 48 (by decide)), if_neg (no 49 (by decide)), Option.isSome_map]
      clear hs
      induction sw with
      | nil => rfl
      | cons y r ih =>
        rw [List.find?_cons, List.any_cons]
        cases decide (cl y = t)
        · exact ih
        · rfl
    have el : lawT sw t = if sw.any (fun y => decide (cl y = t)) = true then ("x" : Str) else ("?" : Str) := by
      cases t with
      | nil => exact absurd rfl h0
      | cons c r =>
        show (if lett c = true then _ else _) = _
        rw [if_pos (hl c List.mem_cons_self)]
    unfold rowC absT
    rw [el, es]
    cases sw.any fun y => decide (cl y = t) with
    | true =>
      rw [if_pos rfl, if_pos rfl]
      rw [if_pos (by rw [cx]; decide)]
      exact cx
    | false =>
      simp only [Bool.false_eq_true, if_false]
      rw [if_neg (by rw [cq]; decide)]
      rw [if_neg (no 33 (by decide)), if_neg (no 40 (by decide)), if_neg (no 41 (by decide)), if_neg (no 38 (by decide)), if_neg (no 124 (by decide))]
      exact cq
  · have el : lawT sw [c] = if decide (c ∈ cl "01()!&|") = true then (⟨#[c]⟩ : Str) else ("?" : Str) := by
      show (if lett c = true then _ else _) = _
      rw [if_neg (by rw [hc]; decide)]
    have e7 : cl "01()!&|" = [48, 49, 40, 41, 33, 38, 124] := by decide +kernel
    have c1 : cl (⟨#[c]⟩ : Str) = [c] := rfl
    unfold rowC
    rw [el, e7]
    by_cases h48 : c = 48
    · subst h48
      have : absT sw [48] = 120 := rfl
      rw [this, if_pos (by decide)]
      exact cx
    by_cases h49 : c = 49
    · subst h49
      have : absT sw [49] = 120 := rfl
      rw [this, if_pos (by decide)]
      exact cx
    have hsn := single_not hs hc h48 h49
    have hab : absT sw [c] = if c = 33 then 33 else if c = 40 then 40 else if c = 41 then 41 else if c = 38 then 38 else if c = 124 then 124 else 63 := by
      unfold absT
      rw [hsn]
      simp
    rw [hab]
    have h120 : c ≠ 120 := fun z => by rw [z] at hc; cases hc
    by_cases hin : c ∈ [48, 49, 40, 41, 33, 38, 124]
    · rw [decide_eq_true hin, if_pos rfl, c1, if_neg (by simp [h48, h49, h120])]
      rw [c1]
      simp [h48, h49] at hin
      rcases hin with rfl | rfl | rfl | rfl | rfl <;> rfl
    · rw [decide_eq_false hin]
      simp only [Bool.false_eq_true, if_false]
      rw [if_neg (by rw [cq]; decide)]
      simp at hin
      obtain ⟨_, _, a, b, d, e, f⟩ := hin
      rw [if_neg d, if_neg a, if_neg b, if_neg e, if_neg f]
      exact cq
/-- the law's answer: the row is reduced to x, and the text is not too long -/
theorem rf_law {sw : List Str} (hs : Named sw) (x : Str) : (rf sw x).isSome = (decide (x.length ≤ 60) && decide (rounds 70 ((lexA [] (cl x)).map (absT sw)) = [120])) := by
  unfold rf
  by_cases h : x.length ≤ 60
  · rw [if_pos h, decide_eq_true h, Bool.true_and]
    obtain ⟨_, lx2⟩ := lexA_ok (cl x) []
    have hl : (cl x).length = x.length := cl_len x
    have lx3 : (lexA [] (cl x)).length ≤ 60 := by
      have z0 : (flush ([] : List Nat)).length = 0 := rfl
      rw [z0] at lx2
      omega
    have h1 := whole_iff hs (lexA [] (cl x)) (m := 61) (by omega)
    have h2 := rounds_says (l := (lexA [] (cl x)).map (absT sw)) (by rw [List.length_map]; omega)
    rw [Bool.eq_iff_iff, decide_eq_true_iff, h2, ← h1]
    constructor
    · intro z
      cases q : rdE sw 61 (lexA [] (cl x)) with
      | none => rw [q] at z; cases z
      | some fr =>
        obtain ⟨f, r⟩ := fr
        rw [q] at z
        cases r with
        | nil => exact ⟨f, rfl⟩
        | cons _ _ => cases z
    · rintro ⟨f, z⟩
      rw [z]
      rfl
  · rw [if_neg h, decide_eq_false h, Bool.false_and]
    rfl
end Ver

/-! ## for old, new in written pairs: row = row.replace(old, new) -/
namespace Ver
open PySem PySem.Spec PyProof.Rows L2
section
variable {X : Cx} {pins : List (Addr × Obj)} {σ : L2.St} {H : Hp} {s : Shared}
/-- a local was stored: the value itself is told -/
theorem inv_store {i : Nat} {x : Str} {v : V} {u : Value} {m : Str → Option Value} {h' : Heap} (I : Inv X pins σ H s) (hN : X.N.Nodup) (hi : X.N[i]? = some x) (hk : X.env.kindOf x = some .local) (r : RelV v u) (hn : s.heap.Ns X.env.locals m)
    (hn' : h'.Ns X.env.locals fun y => if y = x then some u else m y) (hs : Heap.SameBut X.env.locals s.heap h') : Inv X pins (σ.set i (some v)) H { s with heap := h' } := by
  obtain ⟨m0, hn0, hlk⟩ := id I.loc
  have em : m0 = m := hn0.eq_nsMap.trans hn.eq_nsMap.symm
  subst em
  have hiσ : i < σ.length := by rw [I.len]; exact (List.getElem?_eq_some_iff.mp hi).1
  have neL : ∀ b o, X.s_0.heap.get? b = some o → b ≠ X.env.locals := fun b o e => Nat.ne_of_lt (Nat.lt_of_lt_of_le (Heap.lt_size e) I.ok.above)
  refine ⟨I.ok, I.os, I.bare, ⟨fun b o e n hb hx => (hs.2 b (neL b o e)).trans (I.base.keep b o e n hb hx), fun b o e n hb hx => ?_, I.base.free, fun b o e hx => ?_, I.base.tups, I.base.frzs, I.base.tbls⟩, ⟨_, hn', fun j y v' e1 e2 e3 => ?_⟩, fun y c e => ?_, I.free, I.freeC, fun p hp => ?_, fun b ob e => ?_, by simpa using I.len⟩
  · obtain ⟨sl, e1⟩ := I.base.slot b o e n hb hx
    exact ⟨sl, (hs.2 b (neL b o e)).trans e1⟩
  · obtain ⟨o', e1⟩ := I.base.there b o e hx
    exact ⟨o', (hs.2 b (neL b o e)).trans e1⟩
  · by_cases hj : j = i
    · subst hj
      rw [hi] at e1
      cases e1
      rw [List.getElem?_set_self hiσ] at e2
      cases e2
      exact ⟨u, r, .inl ⟨hk, by simp⟩⟩
    · rw [List.getElem?_set_ne (Ne.symm hj)] at e2
      obtain ⟨u', r', q⟩ := hlk j y v' e1 e2 e3
      refine ⟨u', r', ?_⟩
      rcases q with ⟨k, e⟩ | ⟨k, c, e, z⟩
      · exact .inl ⟨k, (if_neg fun (w : y = x) => hj (nodup_ix hN e1 (by rw [w]; exact hi))).trans e⟩
      · exact .inr ⟨k, c, e, z.sameBut hs (I.cne y c e)⟩
  · obtain ⟨w', z⟩ := I.cell y c e
    exact ⟨w', z.sameBut hs (I.cne y c e)⟩
  · obtain ⟨e, n, ne, nf, d⟩ := I.pin p hp
    exact ⟨(hs.2 p.1 ne).trans e, n, ne, nf, d⟩
  · refine (I.hok b ob e).stay (fun c w' hc q => (hs.2 c ?_).trans q) (fun _ q => q) fun _ _ q => q
    intro z
    subst z
    rcases hc with hc | hc
    · rw [← hc, I.free] at e; cases e
    · rw [I.free] at hc; cases hc
/-- a pair of two written texts, the objects told -/
def RawT (H : Hp) (a : Addr) (y z : Str) (t u : Tok) : Prop := ∃ o n, H a = some (.frz o (.tup [.str y, .str z])) ∧ o.cls = .type "tuple" ∧ o.data = .seq #[.str y t, .str z u] n ∧ t ≠ 0 ∧ u ≠ 0 ∧ t ≠ u
theorem rep_turn {ir io iw k : Nat} {rn on wn : Str} {p1 p2 p3 q1 q2 q3 q4 apos cpos pos : Pos} {a : Addr} {x y z : Str} {t u : Tok} {Q' : Flow → Shared → Prop} (hN : X.N.Nodup) (hc : X.calm = true) (hir : X.N[ir]? = some rn) (hio : X.N[io]? = some on) (hiw : X.N[iw]? = some wn)
    (kr : X.env.kindOf rn = some .local) (ko : X.env.kindOf on = some .local) (kw : X.env.kindOf wn = some .local) (n1 : rn ≠ on) (n2 : rn ≠ wn) (n3 : on ≠ wn)
    (d1 : (rn == ("__debug__" : Str)) = false) (d2 : (on == ("__debug__" : Str)) = false) (d3 : (wn == ("__debug__" : Str)) = false)
    (he : (assignEach [.Name on p1, .Name wn p2] X.env).map (·.2) = [assign (.Name on p1) X.env, assign (.Name wn p2) X.env]) (hst : (assignEach [.Name on p1, .Name wn p2] X.env).findIdx? (·.1) = none) (hln : (assignEach [.Name on p1, .Name wn p2] X.env).length = 2)
    (hst2 : starEach [.Name on q3, .Name wn q4] X.env = [(false, eval (.Name on q3) X.env), (false, eval (.Name wn q4) X.env)])
    (hbase : attributeBase (.Name rn q2) "replace" X.env (eval (.Name rn q2) X.env) = eval (.Name rn q2) X.env) (hline : (apos.endLine == cpos.line) = true)
    (hsw : swapsWith (.Call (.Attribute (.Name rn q2) "replace" apos) [.Name on q3, .Name wn q4] [] cpos) (some (.Name rn q1)) pos.line X.env = pure false)
    (I : Inv X pins σ H s) (hx : σ[ir]? = some (some (.str x))) (hraw : RawT H a y z t u) (hyz : (y == z) = false) (hb : x.length + (x.length + 1) * z.length ≤ 16777216)
    (hQ : ∀ s', Inv X pins (((σ.set io (some (.str y))).set iw (some (.str z))).set ir (some (.str (Txt.replace x y z)))) H s' → Q' .next s') :
    wpAny (model X.prog X.w) X.A (assign (.Tuple [.Name on p1, .Name wn p2] k p3) X.env (.ref a)) (fun _ s1 => wpAny (model X.prog X.w) X.A (execs [.Assign [.Name rn q1] (.Call (.Attribute (.Name rn q2) "replace" apos) [.Name on q3, .Name wn q4] [] cpos) pos] X.env) Q' X.xe s1) X.xe s := by
  obtain ⟨o, n, h1, h2, h3, ht, hu, htu⟩ := hraw
  have h4 := I.hok a _ h1
  obtain ⟨h5, _⟩ := h4
  have hcls : (X.env.scope.kind == .class || (X.env.scope.kind == .module && X.env.locals != X.env.globals)) = false := by rw [I.ok.kind]; rfl
  refine assign_Tuple_tuple (I.ok.hd hc) (show IsTup s.heap a #[.str y t, .str z u] from ⟨o, h5, h2, n, h3⟩) (by rw [hln]; rfl) hst fun h' hx' => ?_
  have I1 : Inv X pins σ H { s with heap := h' } := I.kept (t' := s.toks) fun b o e => hx' b o (Nat.ne_of_lt (Heap.lt_size e)) e
  rw [he]
  obtain ⟨m, hn, hlk⟩ := id I1.loc
  obtain ⟨ur, rr, lr⟩ := hlk ir rn _ hir hx (.inl kr)
  obtain ⟨tx, rfl⟩ := rr
  have hmr : m rn = some (.str x tx) := by
    rcases lr with ⟨_, e⟩ | ⟨e, _⟩
    · exact e
    · rcases e with e | e <;> rw [kr] at e <;> cases e
  refine assignInOrder_cons (wpAny_assign_Name (wpAny_storeName_local ko hn (fun h2 hn2 hs2 => ?_) hcls))
  have I2 := inv_store (v := .str y) I1 hN hio ko ⟨t, rfl⟩ hn hn2 hs2
  refine assignInOrder_cons (wpAny_assign_Name (wpAny_storeName_local kw hn2 (fun h3 hn3 hs3 => ?_) hcls))
  have I3 := inv_store (v := .str z) I2 hN hiw kw ⟨u, rfl⟩ hn2 hn3 hs3
  refine assignInOrder_nil ?_
  refine wpAny_execs_cons (wpAny_Assign_Name (PySem.Call_method2 hbase hst2 hline (wpAny_Name (wpAny_loadName_local I.ok.kind kr hn3 (v := .str x tx) (by simp [n1, n2, hmr]) ?_) d1)) hsw)
  refine ⟨"str", _, PySem.F.plainAttrs_str, PySem.F.slot_str_replace, PySem.F.type_str_replace, typeIs_str _ _ _, (fun _ e => nomatch e), Calls.callWith_builtin rfl (Calls.evalArgs_plain (Calls.spliced_cons ?_))⟩
  refine wpAny_Name (wpAny_loadName_local I.ok.kind ko hn3 (v := .str y t) (by simp [n3]) ?_) d2
  refine Calls.spliced_cons (wpAny_Name (wpAny_loadName_local I.ok.kind kw hn3 (v := .str z u) (by simp) ?_) d3)
  refine Calls.spliced_nil ?_
  refine PySem.SC.replace ht hu htu hyz hb fun t' kk => ?_
  exact store_ok (v := .str (Txt.replace x y z)) (I3.tok kk) hN hir (.inl kr) ⟨t', rfl⟩ (fun s' I' => wpAny_execs_nil (hQ s' I')) (.inr kr)
/-- (y, z) of two written texts: the object is known -/
def tTPair (y z : Str) : L2.TE := fun _ H Q => ∀ (a : Addr) (t u : Tok) (o : HO), H a = none → RawT (upd H a o) a y z t u → Q (.ref a) (upd H a o)
theorem pet_tpair {y z : Str} {j0 j1 x1 : Nat} {c0 c1 pos : Pos} : PET X (.Tuple [.Constant (.str y) j0 c0, .Constant (.str z) j1 c1] x1 pos) (tTPair y z) := by
  intro pins s σ H Q h0 I h
  refine wpAny_Tuple_spliced ?_
  show wpAny _ _ (spliced ((false, eval (.Constant (.str y) j0 c0) X.env) :: backTo pos (starEach [.Constant (.str z) j1 c1] X.env))) _ _ s
  refine Calls.spliced_cons (Calls.Constant_str ?_)
  show wpAny _ _ (spliced ((false, eval (.Constant (.str z) j1 c1) X.env) :: backTo pos (starEach [] X.env))) _ _ _
  refine Calls.spliced_cons (Calls.Constant_str (Calls.spliced_nil ?_))
  have h2 : (2 : Nat) ≤ sizeLine := by decide
  refine ⟨h2, .ref s.heap.objs.size, upd H s.heap.objs.size (.frz { cls := .type "tuple", data := .seq #[.str y s.toks, .str z (s.toks + 1)] } (.tup [.str y, .str z])), ?_, rfl, ?_⟩
  · exact I.laid (t' := s.toks + 1 + 1) (fun b u e => Heap.get?_push_of_some _ e) (Nat.le_refl _) ⟨Heap.get?_push_size _ rfl, h2, [.str y s.toks, .str z (s.toks + 1)], .cons ⟨_, rfl⟩ (.cons ⟨_, rfl⟩ .nil), ⟨_, Heap.get?_push_size _ rfl, rfl, _, rfl⟩⟩
  · exact h _ s.toks (s.toks + 1) _ (I.hok.fresh (Nat.le_refl _)) ⟨_, _, upd_same, rfl, rfl, (show s.toks ≠ 0 by omega), (show s.toks + 1 ≠ 0 by omega), (show s.toks ≠ s.toks + 1 by omega)⟩
/-- a written tuple, one token out -/
theorem pet_tup {es : List Expr} {ta : TA} {x1 : Nat} {pos : Pos} (h : PAT X es ta) : PET X (.Tuple es x1 pos) (tTup ta) := by
  intro pins s σ H Q h0 I hq
  refine wpAny_Tuple_spliced (thn (h pos pins s σ H _ h0 I hq) fun us s1 ⟨xs, H1, I1, r, z, q⟩ => ⟨by rw [← r.length]; exact z, ?_⟩)
  have hf : H1 s1.heap.objs.size = none := I1.hok.fresh (Nat.le_refl _)
  refine ⟨.ref s1.heap.objs.size, upd H1 s1.heap.objs.size (.tup xs), I1.laid (t' := s1.toks) (fun b u e => Heap.get?_push_of_some _ e) (Nat.le_refl _) ?_, rfl, q _ hf⟩
  exact ⟨z, us, r, ⟨_, Heap.get?_push_size _ rfl, rfl, _, rfl⟩⟩
theorem pit_tup {tg l : Expr} {tl : L2.TE} (hl : PET X l tl) : PIT X tg l (iTup X.K tl) := by
  intro pins s σ H R h0 I h
  refine thn (hl pins s σ H _ h0 I h) fun v s1 ⟨x, H1, I1, r1, q1⟩ => ?_
  obtain ⟨a, e, ⟨xs, hq⟩, q⟩ := q1
  subst e
  cases r1
  obtain ⟨its, rv, p, hz⟩ := I1.tuple hq
  refine wpAny_pyIter_tuple (show s1.heap.IsTuple a its.toArray from p) ?_
  refine ⟨s1.heap.objs.size, [s1.heap.objs.size], _, _, H1, rfl, I1.kept (t' := s1.toks) fun b o e => Heap.get?_push_of_some _ e, turn_tuple a _, ⟨_, Heap.get?_push_size _ rfl, rfl, rfl⟩, fun b hb => ?_, q⟩
  have e : b = s1.heap.objs.size := by simpa using hb
  subst e
  exact I1.fpOk (Nat.le_refl _) (I1.hok.fresh (Nat.le_refl _))
/-- a turn whose target and body are read together -/
def TurnR (X : Cx) (tg : Expr) (body : List Stmt) (t : V → L2.St → Hp → (L2.St → Hp → Prop) → Prop) : Prop :=
  ∀ (pins : List (Addr × Obj)) (s : Shared) (σ : L2.St) (H : Hp) (x : V) (u : Value) (Q : L2.St → Hp → Prop), Inv X pins σ H s → RelV x u → t x σ H Q →
    wpAny (model X.prog X.w) X.A (assign tg X.env u) (fun _ s1 => wpAny (model X.prog X.w) X.A (execs body X.env) (fun f s2 => f = .next ∧ ∃ σ' H', Inv X pins σ' H' s2 ∧ Q σ' H') X.xe s1) X.xe s
def tForR (wi : TI) (t : V → L2.St → Hp → (L2.St → Hp → Prop) → Prop) : TS := fun D σ H => wi σ H fun J H1 => ∃ W : Nat → Nat → L2.St → Hp → Prop, (∃ m, W 0 m σ H1) ∧ ∀ i m σ H, W i m σ H →
  (J.stop i H ∧ D.nx σ H) ∨ (J.go i H ∧ ∃ N : L2.St → Hp → Prop, (∀ σ' H', N σ' H' → ∃ m', m' < m ∧ W (i + 1) m' σ' H') ∧ ∀ x H', J.yld i H x H' → t x σ H' N)
theorem pst_forR {tg iter : Expr} {body : List Stmt} {wi : TI} {t : V → L2.St → Hp → (L2.St → Hp → Prop) → Prop} {pos : Pos} (hp : PassesOwn (model X.prog X.w) X.A X.env X.xe) (hc : X.calm = true) (hi : PIT X tg iter wi) (ht : TurnR X tg body t)
    (hs : ∀ x, foldedSetIterable iter X.env x = pure x := by intro _; rfl) : PST X (.For tg iter body [] pos) (tForR wi t) := by
  intro pins s σ H D h0 I h
  refine wpAny_For (thn (hi pins s σ H _ h0 I h) fun v s1 h1 => thn h1 fun itv s2 h2 => ?_) hs
  obtain ⟨it, fp, tn, J, H2, e, I2, T, st2, f2, W, ⟨m0, w0⟩, turn⟩ := h2
  subst e
  have stat : ∀ {H' : Hp}, (∀ b ∈ fp, H' b = none) → ∀ b ∈ fp, FpOk X pins H' b := fun hn b hb => ⟨hn b hb, (f2 b hb).2⟩
  refine codeAny_forLoop_any (fun n s' => ∃ i σ' H', Inv X pins σ' H' s' ∧ tn i s'.heap ∧ (∀ b ∈ fp, H' b = none) ∧ W i n σ' H') ?_ m0 ⟨0, σ, H2, I2, st2, fun b hb => (f2 b hb).1, w0⟩
  rintro n s3 ⟨i, σ3, H3, I3, st3, fr3, w3⟩
  rcases turn i n σ3 H3 w3 with ⟨stop, qn⟩ | ⟨go, N, hN, step⟩
  · refine wpAny_passesOwn hp (thn (T.done X rfl rfl rfl hc i pins s3 σ3 H3 X.xe I3 (stat fr3) st3 stop) fun r s4 ⟨hr, I4⟩ => ?_)
    subst hr
    exact wpAny_execs_nil ⟨σ3, H3, I4, qn⟩
  · refine wpAny_passesOwn hp (thn (T.item X rfl rfl rfl hc i pins s3 σ3 H3 X.xe I3 (stat fr3) st3 go) fun r s4 ⟨u, hr, h4⟩ => ?_)
    subst hr
    refine wpAny_passesOwn hp (thn h4 fun _ s5 ⟨x, H5, I5, r5, y5, st5, fr5⟩ => ?_)
    have I5' := I5.pinned (stat fr5) (T.obj _ _ st5)
    refine wpAny_passesOwn hp (thn (ht _ s5 σ3 H5 x u N I5' r5 (step x H5 y5)) fun _ s6 h6 => ?_)
    refine wpAny_passesOwn hp (thn h6 fun f s7 ⟨ef, σ7, H7, I7, n7⟩ => ?_)
    subst ef
    obtain ⟨m', hm, w7⟩ := hN σ7 H7 n7
    refine ⟨m', hm, i + 1, σ7, H7, I7.unpinned, T.keep _ _ _ st5 fun b hb o e => (I7.pin (b, o) (List.mem_append_right _ (List.mem_append_right _ (mem_pinsAt hb e)))).1, fun b hb => ?_, w7⟩
    obtain ⟨o, e, d⟩ := T.obj _ _ st5 b hb
    exact (I7.pin (b, o) (List.mem_append_right _ (List.mem_append_right _ (mem_pinsAt hb e)))).2.1
end
end Ver

/-! ## _law_is_formula -/
namespace Ver
open PySem PySem.Spec PyProof.Rows L2
abbrev sLif : Stmt := top 34
section
variable {X : Cx}
/-- for, one token out, the body too -/
theorem pst_forT {tg iter : Expr} {body : List Stmt} {wi : TI} {g : TG} {tb : TS} {pos : Pos} (hp : PassesOwn (model X.prog X.w) X.A X.env X.xe) (hc : X.calm = true) (hi : PI X tg iter wi) (hg : PG X tg g) (hb : PSsT X body tb)
    (hs : ∀ x, foldedSetIterable iter X.env x = pure x := by intro _; rfl) : PST X (.For tg iter body [] pos) (tFor wi g tb) := by
  intro pins s σ H D h0 I h
  refine wpAny_For (wpAny_mono (PySem.wpAny_toks (hi.run pins s σ H _ I h)) (fun v s1 h1 => wpAny_mono (PySem.wpAny_toks h1.2) (fun itv s2 h2 => ?_) fun _ _ z => z.2) fun _ _ z => z.2) hs
  have t1 := h1.1
  obtain ⟨t2, it, fp, tn, J, H2, e, I2, T, st2, f2, W, ⟨m0, w0⟩, turn⟩ := h2
  subst e
  have stat : ∀ {H' : Hp}, (∀ b ∈ fp, H' b = none) → ∀ b ∈ fp, FpOk X pins H' b := fun hn b hb => ⟨hn b hb, (f2 b hb).2⟩
  refine codeAny_forLoop_any (fun n s' => ∃ i σ' H', 1 ≤ s'.toks ∧ Inv X pins σ' H' s' ∧ tn i s'.heap ∧ (∀ b ∈ fp, H' b = none) ∧ W i n σ' H') ?_ m0 ⟨0, σ, H2, Nat.le_trans h0 (Nat.le_trans t1 t2), I2, st2, fun b hb => (f2 b hb).1, w0⟩
  rintro n s3 ⟨i, σ3, H3, k3, I3, st3, fr3, w3⟩
  rcases turn i n σ3 H3 w3 with ⟨stop, qn⟩ | ⟨go, N, hN, step⟩
  · refine wpAny_passesOwn hp (thn (T.done X rfl rfl rfl hc i pins s3 σ3 H3 X.xe I3 (stat fr3) st3 stop) fun r s4 ⟨hr, I4⟩ => ?_)
    subst hr
    exact wpAny_execs_nil ⟨σ3, H3, I4, qn⟩
  · refine wpAny_passesOwn hp (wpAny_mono (PySem.wpAny_toks (T.item X rfl rfl rfl hc i pins s3 σ3 H3 X.xe I3 (stat fr3) st3 go)) (fun r s4 q4 => ?_) fun _ _ z => z.2)
    obtain ⟨k4, u, hr, h4⟩ := q4
    subst hr
    refine wpAny_passesOwn hp (wpAny_mono (PySem.wpAny_toks h4) (fun _ s5 q5 => ?_) fun _ _ z => z.2)
    obtain ⟨k5, x, H5, I5, r5, y5, st5, fr5⟩ := q5
    have I5' := I5.pinned (stat fr5) (T.obj _ _ st5)
    refine wpAny_passesOwn hp (wpAny_mono (PySem.wpAny_toks (hg.run _ s5 σ3 H5 x u _ I5' r5 (step x H5 y5))) (fun _ s6 q6 => ?_) fun _ _ z => z.2)
    obtain ⟨k6, σ6, H6, I6, q6⟩ := q6
    refine wpAny_passesOwn hp (wpAny_mono (PySem.wpAny_toks (hb _ s6 σ6 H6 _ (by omega) I6 q6)) (fun f s7 q7 => ?_) fun _ _ z => z.2)
    obtain ⟨k7, q7⟩ := q7
    have again : ∀ {σ7 : L2.St} {H7 : Hp}, Inv X (pins ++ pinsAt fp s5.heap) σ7 H7 s7 → N σ7 H7 → ∃ m, m < n ∧ ∃ i σ' H', 1 ≤ s7.toks ∧ Inv X pins σ' H' s7 ∧ tn i s7.heap ∧ (∀ b ∈ fp, H' b = none) ∧ W i m σ' H' := fun {σ7 H7} I7 n7 => by
      obtain ⟨m', hm, w7⟩ := hN σ7 H7 n7
      refine ⟨m', hm, i + 1, σ7, H7, by omega, I7.unpinned, T.keep _ _ _ st5 fun b hb o e => (I7.pin (b, o) (List.mem_append_right _ (List.mem_append_right _ (mem_pinsAt hb e)))).1, fun b hb => ?_, w7⟩
      obtain ⟨o, e, d⟩ := T.obj _ _ st5 b hb
      exact (I7.pin (b, o) (List.mem_append_right _ (List.mem_append_right _ (mem_pinsAt hb e)))).2.1
    cases f with
    | next => obtain ⟨σ7, H7, I7, n7⟩ := q7; exact again I7 n7
    | cont => obtain ⟨σ7, H7, I7, n7⟩ := q7; exact again I7 n7
    | brk => obtain ⟨σ7, H7, I7, q7⟩ := q7; exact ⟨σ7, H7, I7.unpinned, q7⟩
    | ret v => obtain ⟨x7, σ7, H7, I7, r7, q7⟩ := q7; exact ⟨x7, σ7, H7, I7.unpinned, r7, q7⟩
/-- x = "".join(e): behind it a token is out -/
def tJoinA (i : Nat) (te : L2.TE) (u : TS) : TS := fun D σ H => te σ H fun y H1 => ∃ p, ∃ ys : List Str, y = .ref p ∧ (SqL X.K H1 p (ys.map V.str) ∨ SqT X.K H1 p (ys.map V.str)) ∧ (ys.map (·.length)).sum ≤ 16777216 ∧ u D (σ.set i (some (.str (Txt.join "" ys)))) H1
theorem pss_join {i j : Nat} {x : Str} {e : Expr} {te : L2.TE} {cp p' apos cpos pos : Pos} {rest : List Stmt} {u : TS} (hN : X.N.Nodup) (hi : X.N[i]? = some x) (hx : Loc X.env.scope x) (he : PE X e te) (h2 : PSsT X rest u)
    (hs : starEach [e] X.env = [(false, eval e X.env)] := by rfl) (hbase : attributeBase (.Constant (.str "") j cp) "join" X.env (eval (.Constant (.str "") j cp) X.env) = eval (.Constant (.str "") j cp) X.env := by rfl) (hline : (apos.endLine == cpos.line) = true := by rfl)
    (hsw : swapsWith (.Call (.Attribute (.Constant (.str "") j cp) "join" apos) [e] [] cpos) (some (.Name x p')) pos.line X.env = pure false := by rfl) (hf : X.fn x = true ∨ X.env.scope.names.lookup x = some .local := by first | exact .inl rfl | exact .inr rfl | assumption) :
    PSs X (.Assign [.Name x p'] (.Call (.Attribute (.Constant (.str "") j cp) "join" apos) [e] [] cpos) pos :: rest) (tJoinA (X := X) i te u) := by
  refine ⟨fun pins s σ H D I h => ?_⟩
  refine wpAny_execs_cons (wpAny_Assign_Name (PySem.Call_method1 hbase hs hline (Calls.Constant_str ?_)) hsw)
  refine ⟨"str", _, F.plainAttrs_str, F.slot_str_join, F.type_str_join, typeIs_str _ _ _, (fun _ e => nomatch e), Calls.callWith_builtin rfl (Calls.evalArgs_plain (Calls.spliced_cons ?_))⟩
  refine wpAny_mono (PySem.wpAny_toks (he.run pins _ σ H _ (I.tok (s.toks + 1)) h)) (fun v s1 q => ?_) fun _ _ z => z.2
  obtain ⟨k1, y, H1, I1, r1, p, ys, rfl, hp, hz, q⟩ := q
  refine Calls.spliced_nil (wpAny_mono (PySem.wpAny_toks (mt_join pins s1 σ H1 (.str "") [.ref p] _ [v] (fun w H2 => w = .str (Txt.join "" ys) ∧ H2 = H1) I1 ⟨s.toks, rfl⟩ (.cons r1 .nil) ⟨"", p, ys, rfl, rfl, hp, ?_, rfl, rfl⟩)) (fun v2 s2 q2 => ?_) fun _ _ z => z.2)
  · have : ("" : Str).length = 0 := rfl
    rw [this]
    omega
  obtain ⟨k2, w2, H2, I2, r2, rfl, rfl⟩ := q2
  have kk : 1 ≤ s2.toks := by
    have : s.toks + 1 ≤ s1.toks := k1
    omega
  refine wpAny_mono (PySem.wpAny_toks (store_ok (v := V.str (Txt.join "" ys)) (u := v2) (Q := fun _ s3 => Inv X pins (σ.set i (some (V.str (Txt.join "" ys)))) H2 s3) I2 hN hi hx r2 (fun _ I3 => I3) hf)) (fun _ s3 q3 => ?_) fun _ _ z => z.2
  exact h2 pins s3 _ H2 D (Nat.le_trans kk q3.1) q3.2 q
end
end Ver

/-! ## _law_is_formula: the def -/
namespace Ver
open PySem PySem.Spec PyProof.Rows L2
def spLif : Sp := fun vs H Q _ => ∃ (a : Addr) (sw : List Str) (x : Str), vs = [.ref a, .str x] ∧ SwT H a sw ∧ Named sw ∧ x.length ≤ 1000 ∧ ∀ H', Same H H' → Q (.bl (rf sw x).isSome) H'
theorem join_fold (z : Str) : ∀ (r : List Str) (acc : Array Nat), (r.foldl (fun acc p => acc ++ ("" : Str).cps ++ p.cps) acc).toList = acc.toList ++ (r.map cl).flatten
  | [], acc => by simp
  | p :: r, acc => by
    rw [List.foldl_cons, join_fold z r]
    have : ("" : Str).cps.toList = [] := by decide +kernel
    rw [Array.toList_append, Array.toList_append, this, List.append_nil, List.append_assoc, List.map_cons, List.flatten_cons]
theorem join_cl : ∀ ys : List Str, cl (Txt.join "" ys) = (ys.map cl).flatten
  | [] => by decide +kernel
  | y :: r => by
    show (Builtin.Str.glued "" (y :: r)).cps.toList = _
    rw [List.map_cons, List.flatten_cons]
    exact join_fold "" r y.cps
theorem in_x01 (c : Nat) : (!(Builtin.Str.occurrences ("x01" : Str) ⟨#[c]⟩ 0 ("x01" : Str).length 1).isEmpty) = decide (([c] : List Nat) ∈ [[120], [48], [49]]) := by
  rw [StrLaws.found_one]
  have e : ("x01" : Str).cps.toList = [120, 48, 49] := by decide +kernel
  rw [e]
  apply decide_eq_decide.mpr
  simp
theorem lawT_one (sw : List Str) (t : List Nat) : ∃ c, lawT sw t = ⟨#[c]⟩ := by
  have hx : ("x" : Str) = ⟨#[120]⟩ := by decide +kernel
  have hq : ("?" : Str) = ⟨#[63]⟩ := by decide +kernel
  cases t with
  | nil => exact ⟨63, hq⟩
  | cons c r =>
    show ∃ d, (if lett c = true then (if sw.any (fun y => decide (cl y = c :: r)) then ("x" : Str) else "?") else if decide (c ∈ cl "01()!&|") = true then (⟨#[c]⟩ : Str) else "?") = ⟨#[d]⟩
    by_cases h1 : lett c = true
    · rw [if_pos h1]
      by_cases h2 : sw.any (fun y => decide (cl y = c :: r)) = true
      · rw [if_pos h2]; exact ⟨120, hx⟩
      · rw [if_neg h2]; exact ⟨63, hq⟩
    · rw [if_neg h1]
      by_cases h2 : decide (c ∈ cl "01()!&|") = true
      · rw [if_pos h2]; exact ⟨c, rfl⟩
      · rw [if_neg h2]; exact ⟨63, hq⟩
theorem repl_le {o : List Nat} (ho : 2 ≤ o.length) (l : List Nat) : (StrLaws.replL o [120] l).length ≤ l.length := by
  rcases repl_len ho l.length l (Nat.le_refl _) with ⟨e, _⟩ | h
  · rw [e]; exact Nat.le_refl _
  · exact Nat.le_of_lt h
theorem round_le (l : List Nat) : (round l).length ≤ l.length := by
  rcases round_len l with ⟨e, _⟩ | h
  · rw [e]; exact Nat.le_refl _
  · exact Nat.le_of_lt h
theorem rounds_le : ∀ (n : Nat) (l : List Nat), (rounds n l).length ≤ l.length
  | 0, l => Nat.le_refl _
  | n + 1, l => Nat.le_trans (rounds_le n (round l)) (round_le l)
/-- the four pairs -/
abbrev prs : List (Str × Str) := [("!x", "x"), ("(x)", "x"), ("x&x", "x"), ("x|x", "x")]
def tPrR : V → L2.St → Hp → (L2.St → Hp → Prop) → Prop := fun x σ H Q => ∃ a y z t u r, x = .ref a ∧ σ[2]? = some (some (.str r)) ∧ RawT H a y z t u ∧ (y == z) = false ∧ r.length + (r.length + 1) * z.length ≤ 16777216 ∧ Q (((σ.set 5 (some (.str y))).set 6 (some (.str z))).set 2 (some (.str (Txt.replace r y z)))) H
section
variable {P : Program} {w : World} {K : PySem.W.Frag} {mg : Str → Option Value} {base : Heap} {f g : Addr} {fd gd : FuncData}
theorem scLif : FnScope ["switches", "text", "row", "sign", "turn", "old", "new"] ["switches", "text"] (defScope sLif) := ⟨rfl, rfl, rfl, by decide +kernel, rfl, by decide +kernel, by decide +kernel⟩
theorem ok_lif {n : Nat} (F : Fun K "_law_is_formula" "_law_is_formula" sLif f fd) (G : FnOk P w K mg base CX0 n g gd ["switches", "text"] spLs) (bG : Binds K gd ["switches", "text"] []) (kG : PySem.W.keepIn K (.ref g) = true) (mG : mg "_law_signs" = some (.ref g))
    (ml : mg "len" = none) (mr : mg "range" = none) : FnOk P w K mg base CX0 (n + 1) f fd ["switches", "text"] spLif := by
  refine F.ok scLif (fun vs H Q E h => ?_) (fun cdv A outer s H vs Q E hr h => ?_)
  · obtain ⟨a, sw, x, rfl, _⟩ := h
    rfl
  obtain ⟨a, sw, x, rfl, hs, hn, hx, q⟩ := h
  refine ⟨_, pss_join (i := 2) scLif.nd rfl (.inl rfl) (pe_lc (own := [("sign", 3)]) (g := gName 3) (by rfl) scLif.nd (pi_list (pe_call G hr (by rfl) mG kG bG .nil pass0 (pa_cons (pv 0) (pa_cons (pv 1) pa_nil))))
        (blkOk_by (own := [("sign", 3)]) (N := ["switches", "text", "row", "sign", "turn", "old", "new"]) (sc := defScope sLif) (by decide +kernel)) (fun _ _ _ _ _ => pg_name (i := 3) scLif.nd rfl (Or.inl rfl)) (fun _ _ _ _ _ => pts_nil)
        (fun _ _ _ _ _ => pe_ifExp (pt_cmpR op_in_str (pv 3) pe_str (by rfl)) pe_str (pv 3)))
    (psst_cons (t := ?t1) ?h1
    (PSsT.of (pss_one (ps_ret (pe_and (pe_cmpR op_eq (pv 2) pe_str (nomark _)) (pe_one (pe_cmpR op_le (pe_callB call_len_str (by rfl) ml PySem.boot_len (pa_cons (pv 1) pa_nil)) pe_int (nomark _)))))))), ?_⟩
  case t1 => exact tFor (iRng1 (tCons (tC (.int 70)) tNil)) (gName 4) (tForR (iTup K (tTup (tCons (tTPair "!x" "x") (tCons (tTPair "(x)" "x") (tCons (tTPair "x&x" "x") (tCons (tTPair "x|x" "x") tNil)))))) tPrR)
  · refine pst_forT PassesOwn.never rfl (pi_range1 (by rfl) mr (pa_cons pe_int pa_nil)) (pg_name (i := 4) scLif.nd rfl (.inl rfl)) ?h2
    refine CwR.psst_one ?h3
    refine @pst_forR _ _ _ _ _ _ _ PassesOwn.never rfl ?hi ?ht ?hs
    case hs => exact fun _ => rfl
    case hi => refine @pit_tup _ _ _ _ (@pet_tup _ _ _ _ _ (@pat_cons _ _ _ _ _ (@pet_tpair _ _ _ _ _ _ _ _ _) (@pat_cons _ _ _ _ _ (@pet_tpair _ _ _ _ _ _ _ _ _) (@pat_cons _ _ _ _ _ (@pet_tpair _ _ _ _ _ _ _ _ _) (@pat_cons _ _ _ _ _ (@pet_tpair _ _ _ _ _ _ _ _ _) pat_nil ?q1) ?q2) ?q3) ?q4)) <;> rfl
    intro pins s σ H x u Q I r h
    obtain ⟨a2, y, z, t, u2, r2, rfl, hr2, hraw, hyz, hb, q2⟩ := h
    cases r
    exact rep_turn (ir := 2) (io := 5) (iw := 6) scLif.nd rfl rfl rfl rfl rfl rfl rfl (by decide) (by decide) (by decide) (by decide) (by decide) (by decide) rfl rfl rfl rfl rfl rfl rfl I hr2 hraw hyz hb (fun s' I' => ⟨rfl, _, _, I', q2⟩)
  refine ⟨_, rfl, _, rfl, a, sw, x, rfl, hs, hx, fun p H1 g1 e0 e1 => ?_⟩
  have lx : (lexA [] (cl x)).length ≤ 1000 := by
    obtain ⟨_, lx2⟩ := lexA_ok (cl x) []
    have h1 : (cl x).length = x.length := cl_len x
    have z0 : (flush ([] : List Nat)).length = 0 := rfl
    rw [z0] at lx2
    omega
  have htk := lexA_tk (cl x) [] (fun d hd => by cases hd)
  generalize hL : lexA [] (cl x) = L at *
  have hlen : (((L.map (lawT sw)).map V.str).length) = L.length := by rw [List.length_map, List.length_map]
  refine ⟨p, rfl, ⟨_, SqL.of e1⟩, fun D hD => ?_⟩
  have nD : D ≠ p := fun z => by rw [z, e1] at hD; cases hD
  refine lc_list (K := K) (a := p) (xs := (L.map (lawT sw)).map V.str) (fun i H' => Same H1 H' ∧ H' D = some (.lst ((L.take i).map fun t => V.str (rowC sw t)))) ⟨same_new hD _, upd_same⟩ (fun i H' _ h => SqL.of (h.1 _ _ e1)) (fun i v H' hv h => ?_) (fun H' h => ?_)
  · rw [List.map_map, List.getElem?_map] at hv
    cases ht : L[i]? with
    | none => rw [ht] at hv; cases hv
    | some t =>
      rw [ht] at hv
      cases hv
      refine ⟨rfl, ?_⟩
      refine ⟨_, rfl, _, _, rfl, rfl, _, rfl, ?_⟩
      have hi : i < L.length := (List.getElem?_eq_some_iff.mp ht).1
      have et : (L.take (i + 1)) = L.take i ++ [t] := by rw [List.take_succ, ht]; rfl
      have fin : ∃ acc, H' D = some (.lst acc) ∧ acc.length < sizeLine ∧ Same H1 (upd H' D (.lst (acc ++ [V.str (rowC sw t)]))) ∧ upd H' D (.lst (acc ++ [V.str (rowC sw t)])) D = some (.lst ((L.take (i + 1)).map fun t => V.str (rowC sw t))) := by
        refine ⟨_, h.2, ?_, fun b o q => ?_, ?_⟩
        · rw [List.length_map, List.length_take]
          exact Nat.lt_of_le_of_lt (Nat.le_trans (Nat.min_le_left _ _) (Nat.le_of_lt hi)) (Nat.lt_of_le_of_lt lx (by decide))
        · rw [upd_ne (ne_of_none q hD)]
          exact h.1 b o q
        · rw [upd_same, et, List.map_append]
          rfl
      obtain ⟨c, ec⟩ := lawT_one sw t
      have hb : (!(Builtin.Str.occurrences ("x01" : Str) (lawT sw t) 0 ("x01" : Str).length 1).isEmpty) = decide (cl (lawT sw t) ∈ [[120], [48], [49]]) := by
        rw [ec]
        exact in_x01 c
      show if (!(Builtin.Str.occurrences ("x01" : Str) (lawT sw t) 0 ("x01" : Str).length 1).isEmpty) = true then _ else _
      rw [hb]
      have er : rowC sw t = if decide (cl (lawT sw t) ∈ [[120], [48], [49]]) = true then ("x" : Str) else lawT sw t := rfl
      cases hc : decide (cl (lawT sw t) ∈ [[120], [48], [49]]) with
      | true =>
        rw [hc, if_pos rfl] at er
        rw [if_pos rfl]
        rw [er] at fin
        exact fin
      | false =>
        rw [hc, if_neg (by decide)] at er
        rw [if_neg (by decide)]
        rw [er] at fin
        exact ⟨_, rfl, fin⟩
  obtain ⟨g2, e2⟩ := h
  rw [hlen, List.take_length] at e2
  have em : (L.map fun t => V.str (rowC sw t)) = (L.map (rowC sw)).map V.str := by rw [List.map_map]; rfl
  rw [em] at e2
  have hcl : ∀ t ∈ L, cl (rowC sw t) = [absT sw t] := fun t ht => rowC_abs hn (htk t ht)
  have hone : (L.map (rowC sw)).map cl = L.map fun t => [absT sw t] := by
    rw [List.map_map]
    exact List.map_congr_left hcl
  have hrow : cl (Txt.join "" (L.map (rowC sw))) = L.map (absT sw) := by
    have z : ∀ l : List (List Nat), (l.map fun t => [absT sw t]).flatten = l.map (absT sw) := fun l => by induction l <;> simp_all
    rw [join_cl, hone, z]
  have hsum : ((L.map (rowC sw)).map (·.length)).sum ≤ 16777216 := by
    have : (L.map (rowC sw)).map (·.length) = L.map fun _ => 1 := by
      rw [List.map_map]
      refine List.map_congr_left fun t ht => ?_
      have := congrArg List.length (hcl t ht)
      exact this
    rw [this, List.map_const', List.sum_replicate_nat]
    omega
  refine ⟨D, _, rfl, .inl (SqL.of e2), hsum, ?_⟩
  generalize hr0 : Txt.join "" (L.map (rowC sw)) = r0 at hrow
  have g3 : Same H H' := g1.trans g2
  refine ⟨70, rfl, by decide, by decide, for_range (n := 70) (fun i σ H2 => Same H H2 ∧ ∃ (r : Str) (c4 c5 c6 : Option V), σ = [some (.ref a), some (.str x), some (.str r), none, c4, c5, c6] ∧ cl r = rounds i (L.map (absT sw))) ⟨g3, r0, none, none, none, rfl, hrow⟩ (fun i σ H2 hi ⟨g4, r, c4, c5, c6, hσ, hr4⟩ => ?_) (fun σ H2 ⟨g4, r, c4, c5, c6, hσ, hr4⟩ => ?_)⟩
  · subst hσ
    have hlr : r.length ≤ 1000 := by
      rw [← cl_len, hr4]
      refine Nat.le_trans (rounds_le i _) ?_
      rw [List.length_map]
      exact lx
    intro a1 t1 u1 o1 n1 R1 a2 t2 u2 o2 n2 R2 a3 t3 u3 o3 n3 R3 a4 t4 u4 o4 n4 R4
    refine ⟨by show 4 ≤ sizeLine; decide, fun p5 n5 => ?_⟩
    have s1 := same_new n1 o1
    have s2 := same_new n2 o2
    have s3 := same_new n3 o3
    have s4 := same_new n4 o4
    have s5 := same_new n5 (.tup [.ref a1, .ref a2, .ref a3, .ref a4])
    have k1 : RawT (upd (upd (upd (upd (upd H2 a1 o1) a2 o2) a3 o3) a4 o4) p5 (.tup [.ref a1, .ref a2, .ref a3, .ref a4])) a1 "!x" "x" t1 u1 := by
      obtain ⟨o, n, q1, q2⟩ := R1
      exact ⟨o, n, s5 _ _ (s4 _ _ (s3 _ _ (s2 _ _ q1))), q2⟩
    have k2 : RawT (upd (upd (upd (upd (upd H2 a1 o1) a2 o2) a3 o3) a4 o4) p5 (.tup [.ref a1, .ref a2, .ref a3, .ref a4])) a2 "(x)" "x" t2 u2 := by
      obtain ⟨o, n, q1, q2⟩ := R2
      exact ⟨o, n, s5 _ _ (s4 _ _ (s3 _ _ q1)), q2⟩
    have k3 : RawT (upd (upd (upd (upd (upd H2 a1 o1) a2 o2) a3 o3) a4 o4) p5 (.tup [.ref a1, .ref a2, .ref a3, .ref a4])) a3 "x&x" "x" t3 u3 := by
      obtain ⟨o, n, q1, q2⟩ := R3
      exact ⟨o, n, s5 _ _ (s4 _ _ q1), q2⟩
    have k4 : RawT (upd (upd (upd (upd (upd H2 a1 o1) a2 o2) a3 o3) a4 o4) p5 (.tup [.ref a1, .ref a2, .ref a3, .ref a4])) a4 "x|x" "x" t4 u4 := by
      obtain ⟨o, n, q1, q2⟩ := R4
      exact ⟨o, n, s5 _ _ q1, q2⟩
    have k5 : (upd (upd (upd (upd (upd H2 a1 o1) a2 o2) a3 o3) a4 o4) p5 (.tup [.ref a1, .ref a2, .ref a3, .ref a4])) p5 = some (.tup [.ref a1, .ref a2, .ref a3, .ref a4]) := upd_same
    have g5 : Same H (upd (upd (upd (upd (upd H2 a1 o1) a2 o2) a3 o3) a4 o4) p5 (.tup [.ref a1, .ref a2, .ref a3, .ref a4])) := g4.trans (s1.trans (s2.trans (s3.trans (s4.trans s5))))
    generalize (upd (upd (upd (upd (upd H2 a1 o1) a2 o2) a3 o3) a4 o4) p5 (.tup [.ref a1, .ref a2, .ref a3, .ref a4])) = H5 at k1 k2 k3 k4 k5 g5
    clear R1 R2 R3 R4 n1 n2 n3 n4 n5 s1 s2 s3 s4 s5
    refine ⟨p5, rfl, ⟨_, SqT.of k5⟩, fun j m σ H6 => m = 4 - j ∧ j ≤ 4 ∧ H6 = H5 ∧ ∃ (rj : Str) (c5 c6 : Option V), σ = [some (.ref a), some (.str x), some (.str rj), none, some (.int (0 + (i : Int))), c5, c6] ∧ cl rj = (olds.take j).foldl (fun l o => StrLaws.replL o [120] l) (cl r) ∧ rj.length ≤ r.length, ⟨4, rfl, by omega, rfl, r, c5, c6, rfl, rfl, Nat.le_refl _⟩, ?_⟩
    rintro j m σ H6 ⟨rfl, hj, rfl, rj, d5, d6, rfl, hrj, hlj⟩
    rcases Nat.lt_or_ge j 4 with hj4 | hj4
    · refine .inr ⟨⟨_, [V.ref a1, V.ref a2, V.ref a3, V.ref a4][j]'hj4, SqT.of k5, List.getElem?_eq_getElem _⟩, fun σ7 H7 => H7 = H6 ∧ ∃ (rj : Str) (c5 c6 : Option V), σ7 = [some (.ref a), some (.str x), some (.str rj), none, some (.int (0 + (i : Int))), c5, c6] ∧ cl rj = (olds.take (j + 1)).foldl (fun l o => StrLaws.replL o [120] l) (cl r) ∧ rj.length ≤ r.length, fun σ7 H7 h7 => ⟨4 - (j + 1), by omega, rfl, by omega, h7⟩, ?_⟩
      intro y H7 ⟨eH, hy⟩
      subst eH
      have hy := hy _ (SqT.of k5)
      have step : ∀ {ad : Addr} {o : Str} {t u : Tok}, RawT H7 ad o "x" t u → 2 ≤ (cl o).length → olds[j]? = some (cl o) → y = .ref ad → (o == ("x" : Str)) = false → tPrR y [some (.ref a), some (.str x), some (.str rj), none, some (.int (0 + (i : Int))), d5, d6] H7 (fun σ7 H8 => H8 = H7 ∧ ∃ (rj : Str) (c5 c6 : Option V), σ7 = [some (.ref a), some (.str x), some (.str rj), none, some (.int (0 + (i : Int))), c5, c6] ∧ cl rj = (olds.take (j + 1)).foldl (fun l o => StrLaws.replL o [120] l) (cl r) ∧ rj.length ≤ r.length) := by
        intro ad o t u R ho hol ey hne
        have hx1 : ("x" : Str).length = 1 := by decide +kernel
        have hxc : cl ("x" : Str) = [120] := by decide +kernel
        have hrep : cl (Txt.replace rj o "x") = StrLaws.replL (cl o) [120] (cl rj) := by
          have := StrLaws.replace_list (x := rj) (y := o) (z := "x") (by rw [← cl_len]; omega)
          rw [← hxc]
          exact this
        refine ⟨ad, o, "x", t, u, rj, ey, rfl, R, hne, ?_, rfl, _, _, _, rfl, ?_, ?_⟩
        · rw [hx1]; omega
        · rw [hrep, hrj, List.take_succ, hol, List.foldl_append]
          rfl
        · rw [← cl_len, hrep]
          exact Nat.le_trans (repl_le ho _) hlj
      have cases4 : j = 0 ∨ j = 1 ∨ j = 2 ∨ j = 3 := by omega
      rcases cases4 with rfl | rfl | rfl | rfl
      · exact step k1 (by decide +kernel) (by decide +kernel) (Option.some.inj hy).symm (by decide +kernel)
      · exact step k2 (by decide +kernel) (by decide +kernel) (Option.some.inj hy).symm (by decide +kernel)
      · exact step k3 (by decide +kernel) (by decide +kernel) (Option.some.inj hy).symm (by decide +kernel)
      · exact step k4 (by decide +kernel) (by decide +kernel) (Option.some.inj hy).symm (by decide +kernel)
    · have ej : j = 4 := by omega
      subst ej
      refine .inl ⟨⟨_, SqT.of k5, by show 4 ≤ 4; omega⟩, g5, rj, _, d5, d6, rfl, ?_⟩
      rw [hrj, hr4, rounds_mono]
      rfl
  · subst hσ
    have er := rf_law hn x
    rw [hL] at er
    have ed : decide (V.str r = V.str "x") = decide (rounds 70 (L.map (absT sw)) = [120]) := by
      have hxc : cl ("x" : Str) = [120] := by decide +kernel
      rw [← hr4, ← hxc]
      exact decide_eq_decide.mpr ⟨fun z => by cases z; rfl, fun z => by rw [cl_inj z]⟩
    refine ⟨_, rfl, rfl, _, rfl, ?_⟩
    show if decide (V.str r = V.str "x") = true then _ else _
    rw [ed]
    cases hd : decide (rounds 70 (L.map (absT sw)) = [120]) with
    | false =>
      rw [hd, Bool.and_false] at er
      rw [if_neg (by decide), ← er]
      exact q _ g4
    | true =>
      rw [hd, Bool.and_true] at er
      rw [if_pos rfl]
      refine ⟨_, rfl, _, rfl, room5 hx, _, _, rfl, rfl, ?_⟩
      have e6 : decide ((x.length : Int) ≤ 60) = decide (x.length ≤ 60) := decide_eq_decide.mpr (by omega)
      show Q (.bl (decide ((x.length : Int) ≤ 60))) H2
      rw [e6, ← er]
      exact q _ g4
end
end Ver

/-! ## Configurations as data -/
namespace Ver
open PySem L2
theorem conf_shape (c : List Int) : (confD c).canLay0 = true ∧ (confD c).depth = 1 := by
  have h1 : ∀ c : List Int, PyData.canLayAll0 (c.map PyData.int) = true := by
    intro c
    induction c with
    | nil => simp [PyData.canLayAll0]
    | cons a c ih => simp [PyData.canLayAll0, PyData.canLay0, ih]
  have h2 : ∀ c : List Int, PyData.depthAll (c.map PyData.int) = 0 := by
    intro c
    induction c with
    | nil => simp [PyData.depthAll]
    | cons a c ih => simp [PyData.depthAll, PyData.depth, ih]
  exact ⟨by simp [confD, PyData.canLay0, h1], by simp [confD, PyData.depth, h2]⟩
theorem confs_shape (l : List (List Int)) : SeqAt.shaped (.list (l.map confD)) = true := by
  have h1 : ∀ l : List (List Int), PyData.canLayAll0 (l.map confD) = true := by
    intro l
    induction l with
    | nil => simp [PyData.canLayAll0]
    | cons a c ih => simp [PyData.canLayAll0, (conf_shape a).1, ih]
  have h2 : ∀ l : List (List Int), PyData.depthAll (l.map confD) ≤ 1 := by
    intro l
    induction l with
    | nil => simp [PyData.depthAll]
    | cons a c ih => simp only [List.map_cons, PyData.depthAll, (conf_shape a).2]; omega
  have h3 := h2 l
  unfold SeqAt.shaped
  rw [show (PyData.list (l.map confD)).canLay0 = true by simp [PyData.canLay0, h1], show (PyData.list (l.map confD)).depth = PyData.depthAll (l.map confD) + 1 by simp [PyData.depth]]
  simp
  omega
theorem confs_eqv (l : List (List Int)) : PyData.eqv (.list (l.map confD)) (.list (l.map confD)) = true := by
  refine SeqAt.eqv_refl _ ?_
  have := confs_shape l
  unfold SeqAt.shaped at this
  exact (Bool.and_eq_true_iff.mp this).1
theorem DvAll.ints {H : Hp} : ∀ {c : List Int} {xs : List V}, DvAll H xs (c.map PyData.int) → xs = c.map V.int
  | [], _, h => by unfold List.map DvAll at h; exact h
  | i :: c, _, h => by
    rw [List.map_cons] at h
    unfold DvAll at h
    obtain ⟨x, r, rfl, h1, h2⟩ := h
    cases h1.of_int
    rw [DvAll.ints h2]
    rfl
theorem Dv.conf {K : PySem.W.Frag} {H : Hp} {v : V} {c : List Int} (h : Dv H v (confD c)) : ∃ b, v = .ref b ∧ SqT K H b (c.map V.int) := by
  obtain ⟨b, xs, rfl, h1, h2⟩ := Dv.of_tup h
  rw [DvAll.ints h2] at h1
  exact ⟨b, rfl, SqT.of h1⟩
end Ver

/-! ## The law k00 -/
namespace Ver
open PySem PySem.Spec PyProof.Rows L2
abbrev sLaw : Stmt := top 37
def spLaw (K : PySem.W.Frag) (Ps Pn : Addr) : Sp := fun vs H Q _ => ∃ (a : Addr) (ns : List Int), vs = [.ref a] ∧ SqL K H a (ns.map V.int) ∧ GxR.TabG H Ps ∧ GxR.TabG H Pn ∧ ∀ H', Q (.bl true) H'
theorem Tabs.at {Ps : List Addr} {H H' : Hp} {a : Addr} {o : HO} (h : Tabs Ps H H') (h0 : ∀ P ∈ Ps, GxR.TabG H P) (e : H a = some o) (n : ∀ ps, o ≠ .tbl ps) : H' a = some o := by
  refine (h.2 a fun z => ?_).trans e
  obtain ⟨ps, h1, _⟩ := h0 a z
  rw [e] at h1
  exact n ps (Option.some.inj h1)
/-- what stands through the whole run -/
structure G0 (H : Hp) (Ps Pn t l s : Addr) (sw : List Str) (v : V) (f : Fm) : Prop where
  ts : GxR.TabG H Ps
  tn : GxR.TabG H Pn
  tp : Tape H t l
  sw : SwT H s sw
  dv : Dv H v f.toD
section
variable {H H' : Hp} {Ps Pn t l s : Addr} {sw : List Str} {v : V} {f : Fm}
theorem tabG_same {P : Addr} (h : GxR.TabG H P) (e : Same H H') : GxR.TabG H' P := by
  obtain ⟨ps, h1, h2⟩ := h
  exact ⟨ps, e _ _ h1, h2⟩
theorem tabG_but {P : Addr} (h : GxR.TabG H P) (e : But t H H') (T : Tape H t l) : GxR.TabG H' P := by
  obtain ⟨ps, h1, h2⟩ := h
  obtain ⟨_, ⟨p, v, x, b, _, k⟩, _⟩ := T
  exact ⟨ps, e _ _ (fun z => by rw [z, k] at h1; cases h1) h1, h2⟩
theorem G0.same (g : G0 H Ps Pn t l s sw v f) (e : Same H H') : G0 H' Ps Pn t l s sw v f := ⟨tabG_same g.ts e, tabG_same g.tn e, g.tp.same e, g.sw.same e, Dv.keep (KeepT.of e) _ _ g.dv⟩
theorem G0.but (g : G0 H Ps Pn t l s sw v f) (e : But t H H') (T : Tape H' t l) : G0 H' Ps Pn t l s sw v f := ⟨tabG_but g.ts e g.tp, tabG_but g.tn e g.tp, T, g.sw.but e g.tp, Dv.keep (e.keepT g.tp) _ _ g.dv⟩
theorem G0.all (g : G0 H Ps Pn t l s sw v f) : ∀ P ∈ [Ps, Pn], GxR.TabG H P := fun P hP => by
  rcases List.mem_cons.mp hP with e | e
  · rw [e]; exact g.ts
  · rw [List.mem_singleton.mp e]; exact g.tn
theorem G0.tabs (g : G0 H Ps Pn t l s sw v f) (e : Tabs [Ps, Pn] H H') : G0 H' Ps Pn t l s sw v f := by
  have ha := g.all
  refine ⟨e.1 Ps (by simp), e.1 Pn (by simp), ?_, ?_, Dv.keep (Tabs.keepT ha e) _ _ g.dv⟩
  · obtain ⟨⟨ns, h1⟩, ⟨p, v, s, b, h2, h3⟩, h4⟩ := g.tp
    exact ⟨⟨ns, e.at ha h1 fun _ z => nomatch z⟩, ⟨p, v, s, b, h2, e.at ha h3 fun _ z => nomatch z⟩, h4⟩
  · obtain ⟨o, h1, h2, h⟩ := g.sw
    exact ⟨o, h1, h2, e.at ha h fun _ z => nomatch z⟩
theorem dvAll_str (H : Hp) : ∀ sw : List Str, DvAll H (sw.map V.str) (sw.map PyData.str)
  | [] => DvAll.nil
  | x :: r => DvAll.cons Dv.str (dvAll_str H r)
theorem G0.swf (g : G0 H Ps Pn t l s sw v f) : DvF H (.ref s) (.tuple (sw.map .str)) := by
  obtain ⟨o, _, _, h⟩ := g.sw
  exact .inr ⟨s, o, _, _, rfl, rfl, h, dvAll_str H sw⟩
theorem sws_sw {sw : List Str} (h : Sws sw) : isSw (.tuple (sw.map .str)) = true := h.all (p := fun l => isSw (.tuple (l.map .str))) (by decide +kernel)
def okD (d : PyData) : Bool := !isSw d && (match d with
  | .tuple ds => decide (ds.length ≤ 1000) && ds.all (fun e => match e with
    | .str x => decide (x.length ≤ 1000)
    | _ => true)
  | _ => true)
theorem okD_spec {d : PyData} (h : okD d = true) : isSw d = false ∧ ∀ ds, d = .tuple ds → ds.length ≤ 1000 ∧ ∀ x, .str x ∈ ds → x.length ≤ 1000 := by
  unfold okD at h
  rw [Bool.and_eq_true] at h
  refine ⟨by simpa using h.1, fun ds e => ?_⟩
  subst e
  have h2 : (decide (ds.length ≤ 1000) && ds.all (fun e => match e with
    | .str x => decide (x.length ≤ 1000)
    | _ => true)) = true := h.2
  rw [Bool.and_eq_true, decide_eq_true_eq, List.all_eq_true] at h2
  exact ⟨h2.1, fun x hx => of_decide_eq_true (h2.2 _ hx)⟩
def twice (sw : List Str) : PyData := .tuple ((sw ++ sw.drop (sw.length - 1)).map .str)
theorem sws_ok {sw : List Str} (h : Sws sw) : okD (twice sw) = true := h.all (p := fun l => okD (twice l)) (by decide +kernel)
theorem sws_twice {sw : List Str} (h : Sws sw) : isSw (.tuple ((sw ++ sw.drop (sw.length - 1)).map .str)) = false := by
  have := h.all (p := fun l => !isSw (.tuple ((l ++ l.drop (l.length - 1)).map .str))) (by decide +kernel)
  cases e : isSw (.tuple ((sw ++ sw.drop (sw.length - 1)).map .str)) with
  | false => rfl
  | true => rw [e] at this; cases this
theorem sws_cut {sw : List Str} (h : Sws sw) : cutV (sw.map V.str) (some (-1)) none = (sw.drop (sw.length - 1)).map V.str := of_decide_eq_true (h.all (p := fun l => decide (cutV (l.map V.str) (some (-1)) none = (l.drop (l.length - 1)).map V.str)) (by decide +kernel))
theorem sws_short {sw : List Str} (h : Sws sw) (k : HT.sIx sw.length 0 (some (-1)) = 0) : sw.drop (sw.length - 1) = sw := by
  have h1 := h.all (p := fun l => !decide (HT.sIx l.length 0 (some (-1)) = 0) || decide (l.drop (l.length - 1) = l)) (by decide +kernel)
  rw [decide_eq_true k] at h1
  exact of_decide_eq_true h1
theorem sl_cat {K : PySem.W.Frag} {J : Hp} {ps : Addr} {sw : List Str} {Q : VK} (hs : SwT J ps sw) (hw : Sws sw) (q : ∀ v H', Same J H' → Dv H' v (twice sw) → Q v H') :
    rSlA K (.ref ps) (some (-1)) none J (fun y H2 => rCatA K (.ref ps) y H2 Q) := by
  obtain ⟨w1, w5⟩ := sws_len hw
  have hne : sw.map V.str ≠ [] := fun e => by
    have := congrArg List.length e
    rw [List.length_map] at this
    have h0 : ([] : List V).length = 0 := rfl
    omega
  have hd : (sw.drop (sw.length - 1)).map V.str ≠ [] := fun e => by
    have := congrArg List.length e
    rw [List.length_map, List.length_drop] at this
    have h0 : ([] : List V).length = 0 := rfl
    omega
  have key : ∀ (b : Addr) (J1 : Hp), Same J J1 → SqT K J1 b ((sw.drop (sw.length - 1)).map V.str) → rCatA K (.ref ps) (.ref b) J1 Q := fun b J1 g hb => by
    refine ⟨ps, b, _, _, rfl, rfl, (hs.same g).sq, hb, ?_, fun e => absurd e hne, fun _ e => absurd e hd, fun _ _ p hp => q _ _ (g.trans (same_new hp _)) (Dv.tup upd_same ?_)⟩
    · rw [List.length_map, List.length_map, List.length_drop]
      exact room5 (by omega)
    · rw [← List.map_append]
      exact dvAll_str _ _
  refine ⟨ps, _, rfl, hs.sq, fun hh => key ps J (Same.refl J) ?_, fun _ p hp => key p _ (same_new hp _) (SqT.of ?_)⟩
  · rw [List.length_map] at hh
    rw [sws_short hw hh.1]
    exact hs.sq
  · rw [sws_cut hw]
    exact upd_same
theorem named_of {sw : List Str} (h : Sws sw) : Named sw := fun x hx => let ⟨a, b, _⟩ := sws_names h x hx; ⟨a, b⟩
end
abbrev NL0 : List Str := ["script", "tape", "switches", "formula", "text", "configuration", "told", "turn", "bad", "wrong"]
section
variable {P : Program} {w : World} {K : PySem.W.Frag} {mg : Str → Option Value} {base : Heap} {f C Ps Pn : Addr} {fd : FuncData}
theorem scLaw : FnScope NL0 ["script"] (defScope sLaw) := ⟨rfl, rfl, rfl, by decide +kernel, rfl, by decide +kernel, by decide +kernel⟩
theorem ok_law {a1 a2 a3 a4 a5 a6 a7 a8 a9 b1 b2 b3 : Addr} {d1 d2 d3 d4 d5 d6 d7 d8 d9 c1 c2 c3 : FuncData} (F : Fun K "law" "law" sLaw f fd)
    (GT : FnOk P w K mg base CX0 1 a1 d1 ["script", "budget"] (spTape K)) (bT : Binds K d1 ["script", "budget"] []) (kT : PySem.W.keepIn K (.ref a1) = true) (mT : mg "_law_tape" = some (.ref a1))
    (GS : FnOk P w K mg base CX0 3 a2 d2 ["tape"] spSws) (bS : Binds K d2 ["tape"] []) (kS : PySem.W.keepIn K (.ref a2) = true) (mS : mg "_law_switches" = some (.ref a2))
    (GF : FnOk P w K mg base CX0 13 a3 d3 ["tape", "switches"] spForm) (bF : Binds K d3 ["tape", "switches"] []) (kF : PySem.W.keepIn K (.ref a3) = true) (mF : mg "_law_formula" = some (.ref a3))
    (GR : FnOk P w K mg base (L2.CX P w) 186 a4 d4 ["switches", "text"] (spRf C)) (bR : Binds K d4 ["switches", "text"] []) (kR : PySem.W.keepIn K (.ref a4) = true) (mR : mg "read_formula" = some (.ref a4))
    (GC : FnOk P w K mg base CX0 1 a5 d5 ["count"] spAll) (bC : Binds K d5 ["count"] []) (kC : PySem.W.keepIn K (.ref a5) = true) (mC : mg "configurations" = some (.ref a5))
    (GA : FnOk P w K mg base CX0 1 a6 d6 ["count"] spAll) (bA : Binds K d6 ["count"] []) (kA : PySem.W.keepIn K (.ref a6) = true) (mA : mg "_law_all" = some (.ref a6))
    (GW : FnOk P w K mg base CX0 8 a7 d7 ["value"] (spSwt Ps Pn)) (bW : Binds K d7 ["value"] []) (kW : PySem.W.keepIn K (.ref a7) = true) (mW : mg "is_switches" = some (.ref a7))
    (GI : FnOk P w K mg base CX0 2 a8 d8 ["switches", "formula", "configuration"] (spIst K)) (bI : Binds K d8 ["switches", "formula", "configuration"] []) (kI : PySem.W.keepIn K (.ref a8) = true) (mI : mg "is_true" = some (.ref a8))
    (GU : FnOk P w K mg base CX0 15 a9 d9 ["switches", "formula", "configuration"] (spTrue K 15)) (bU : Binds K d9 ["switches", "formula", "configuration"] []) (kU : PySem.W.keepIn K (.ref a9) = true) (mU : mg "_law_true" = some (.ref a9))
    (GP : FnOk P w K mg base CX0 3 b1 c1 ["tape", "text"] spSpo) (bP : Binds K c1 ["tape", "text"] []) (kP : PySem.W.keepIn K (.ref b1) = true) (mP : mg "_law_spoilt" = some (.ref b1))
    (GO : FnOk P w K mg base (L2.CX P w) 187 b2 c2 ["switches", "text"] spTo) (bO : Binds K c2 ["switches", "text"] []) (kO : PySem.W.keepIn K (.ref b2) = true) (mO : mg "_law_told" = some (.ref b2))
    (GL : FnOk P w K mg base CX0 2 b3 c3 ["switches", "text"] spLif) (bL : Binds K c3 ["switches", "text"] []) (kL : PySem.W.keepIn K (.ref b3) = true) (mL : mg "_law_is_formula" = some (.ref b3))
    {b4 : Addr} {c4 : FuncData} (GK : FnOk P w K mg base CX0 2 b4 c4 ["tape", "many"] spTake) (bK : Binds K c4 ["tape", "many"] []) (kK : PySem.W.keepIn K (.ref b4) = true) (mK : mg "_law_take" = some (.ref b4))
    (ml : mg "len" = none) (mr : mg "range" = none) (mi : mg "isinstance" = none) (mb : mg "bool" = none) : FnOk P w K mg base (L2.CX P w) 188 f fd ["script"] (spLaw K Ps Pn) := by
  refine F.okX scLaw (fun vs H Q E h => ?_) (fun cdv A outer s H vs Q E hr h => ?_)
  · obtain ⟨a, ns, rfl, _⟩ := h
    rfl
  obtain ⟨a, ns, rfl, hS, hTs, hTn, q⟩ := h
  have r1 := hr.mono (show 1 ≤ 187 by decide)
  have r2 := hr.mono (show 2 ≤ 187 by decide)
  have r3 := hr.mono (show 3 ≤ 187 by decide)
  have r8 := hr.mono (show 8 ≤ 187 by decide)
  have r13 := hr.mono (show 13 ≤ 187 by decide)
  have r15 := hr.mono (show 15 ≤ 187 by decide)
  have r186 := hr.mono (show 186 ≤ 187 by decide)
  have scn := scLaw.nd
  have tk := takes_of (X := cxOf (L2.CX P w) P w K mg base NL0 "law" (defScope sLaw) f cdv A outer s H E) (E := E) rfl rfl rfl rfl
  have own : PassesOwn (model P w) (cxOf (L2.CX P w) P w K mg base NL0 "law" (defScope sLaw) f cdv A outer s H E).A (cxOf (L2.CX P w) P w K mg base NL0 "law" (defScope sLaw) f cdv A outer s H E).env (cxOf (L2.CX P w) P w K mg base NL0 "law" (defScope sLaw) f cdv A outer s H E).xe :=
    passes_of (X := cxOf (L2.CX P w) P w K mg base NL0 "law" (defScope sLaw) f cdv A outer s H E) rfl
  refine ⟨_, pss_cons (ps_set (i := 1) scn rfl (.inl rfl) (pe_call GT r1 (by rfl) mT kT bT .nil pass0 (pa_cons (pv 0) (pa_cons pe_int pa_nil))))
    (pss_cons (ps_set (i := 2) scn rfl (.inl rfl) (pe_call GS r3 (by rfl) mS kS bS .nil pass0 (pa_cons (pv 1) pa_nil)))
    (pss_cons (ps_asg (pe_call GF r13 (by rfl) mF kF bF .nil pass0 (pa_cons (pv 1) (pa_cons (pv 2) pa_nil))) (pg_tup rfl (pgs_cons (pg_name (i := 3) scn rfl (.inl rfl)) (pgs_cons (pg_name (i := 4) scn rfl (.inl rfl)) pgs_nil))))
    (C8.pss_cut (ps_if (PW.pt (pw_or (pt_cmpR (op_neD hr.units) (pe_callS GR r186 (by rfl) mR kR bR (fun σ => passAt tk σ) (pa_cons (pv 2) (pa_cons (pv 4) pa_nil))) (pv 3) (nomark _))
      (pw_or1 (PW.pt (pw_and (pt_cmpR op_lt (pe_callB call_len_str (by rfl) ml PySem.boot_len (pa_cons (pv 4) pa_nil)) pe_int (nomark _)) (pw_and1 (pt_cmpR (op_neD hr.units) (pe_callS GR r186 (by rfl) mR kR bR (fun σ => passAt tk σ) (pa_cons (pv 2) (pa_cons (pe_op op_add_str pe_str (pv 4)) pa_nil))) (pv 3) (nomark _)))))))) (pss_one (ps_ret pe_bl)) pss_nil)
    (C8.pss_cut (ps_if (PW.pt (pw_or (pt_cmpR (op_neD hr.units) (pe_call GC r1 (by rfl) mC kC bC .nil pass0 (pa_cons (pe_callB call_len_seq (by rfl) ml PySem.boot_len (pa_cons (pv 2) pa_nil)) pa_nil)) (pe_call GA r1 (by rfl) mA kA bA .nil pass0 (pa_cons (pe_callB call_len_seq (by rfl) ml PySem.boot_len (pa_cons (pv 2) pa_nil)) pa_nil)) (nomark _))
      (pw_or1 (pt_cmpR op_notBl (pe_call GW r8 (by rfl) mW kW bW .nil pass0 (pa_cons (pv 2) pa_nil)) pe_bl (nomark _))))) (pss_one (ps_ret pe_bl)) pss_nil)
    (pss_cons (ps_for own rfl (pi_list (pe_call GA r1 (by rfl) mA kA bA .nil pass0 (pa_cons (pe_callB call_len_seq (by rfl) ml PySem.boot_len (pa_cons (pv 2) pa_nil)) pa_nil))) (pg_name (i := 5) scn rfl (.inl rfl))
      (pss_cons (ps_set (i := 6) scn rfl (.inl rfl) (pe_call GI r2 (by rfl) mI kI bI .nil pass0 (pa_cons (pv 2) (pa_cons (pv 3) (pa_cons (pv 5) pa_nil)))))
      (pss_one (ps_if (PW.pt (pw_or (pt_not (pt_val (pe_callB call_isi (by rfl) mi (by decide +kernel) (pa_cons (pv 6) (pa_cons (pe_bltn (v := .ty "bool") (by rfl) mb (by decide +kernel) rfl) pa_nil)))))
        (pw_or1 (pt_cmpR op_ne (pv 6) (pe_call GU r15 (by rfl) mU kU bU .nil pass0 (pa_cons (pv 2) (pa_cons (pv 3) (pa_cons (pv 5) pa_nil)))) (nomark _))))) (pss_one (ps_ret pe_bl)) pss_nil))))
    (pss_cons (ps_for own rfl (pi_range1 (by rfl) mr (pa_cons pe_int pa_nil)) (pg_name (i := 7) scn rfl (.inl rfl))
      (pss_cons (ps_set (i := 8) scn rfl (.inl rfl) (pe_call GP r3 (by rfl) mP kP bP .nil pass0 (pa_cons (pv 1) (pa_cons (pv 4) pa_nil))))
      (pss_one (ps_if (pt_cmpR op_ne (pe_callS GO hr (by rfl) mO kO bO (fun σ => passAt tk σ) (pa_cons (pv 2) (pa_cons (pv 8) pa_nil))) (pe_ifExp (pt_val (pe_call GL r2 (by rfl) mL kL bL .nil pass0 (pa_cons (pv 2) (pa_cons (pv 8) pa_nil)))) pe_non pe_bl) (nomark _)) (pss_one (ps_ret pe_bl)) pss_nil))))
    (pss_cons (ps_set (i := 9) scn rfl (.inl rfl) (pe_lst (pa_cons (pd_tup (env := []) pds_nil (by decide)).pe (pa_cons (pe_op op_catA (pv 2) (pe_slice sl_tupA (pv 2) (po_some (pe_un un_neg pe_int)) po_none))
      (pa_cons (pd_tup (env := []) (pds_cons pd_str (pds_cons pd_str pds_nil)) (by decide)).pe (pa_cons (pd_tup (env := []) (pds_cons pd_str pds_nil) (by decide)).pe (pa_cons (pd_tup (env := []) (pds_cons pd_str pds_nil) (by decide)).pe (pa_cons (pd_tup (env := []) (pds_cons pd_str pds_nil) (by decide)).pe
      (pa_cons (pd_tup (env := []) (pds_cons pd_str (pds_cons pd_str (pds_cons pd_str (pds_cons pd_str (pds_cons pd_str (pds_cons pd_str pds_nil)))))) (by decide)).pe (pa_cons (pd_str (env := [])).pe (pa_cons (pd_int (env := [])).pe (pa_cons (pd_tup (env := []) (pds_cons pd_int pds_nil) (by decide)).pe pa_nil))))))))))))
    (pss_one (ps_ret (pe_cmpR op_isBl (pe_call GW r8 (by rfl) mW kW bW .nil pass0 (pa_cons (pe_ix ix_list (pv 9) (pe_call GK r2 (by rfl) mK kK bK .nil pass0 (pa_cons (pv 1) (pa_cons pe_int pa_nil))) (fun _ _ => rfl)) pa_nil)) pe_bl (nomark _))))))))))), ?_⟩
  refine ⟨_, rfl, a, ns, 0, rfl, hS, fun t l H1 _ _ g1 hT1 => ?_⟩
  refine ⟨_, rfl, t, l, rfl, hT1, fun ps H2 sw hw hs2 g2 hT2 => ?_⟩
  obtain ⟨w1, w5⟩ := sws_len hw
  have names := sws_names hw
  have hn := named_of hw
  refine ⟨_, rfl, _, rfl, t, l, ps, sw, rfl, hT2, hs2, hw, fun v3 H3 hv3 g3 hT3 => ?_⟩
  obtain ⟨p3, vf, fm, txt, rfl, e3, df, dr⟩ := hv3
  have G3 : G0 H3 Ps Pn t l ps sw vf fm := ⟨tabG_but (tabG_but (tabG_same hTs g1) g2 hT1) g3 hT2, tabG_but (tabG_but (tabG_same hTn g1) g2 hT1) g3 hT2, hT3, hs2.but g3 hT2, df⟩
  refine ⟨p3, _, rfl, SqT.of e3, rfl, _, _, rfl, _, _, rfl, rfl, ?_⟩
  have hsh : SeqAt.shaped fm.toD = true := Fm.shaped (fun x hx => (names x hx).2.2.2) dr.over (Nat.le_trans dr.dep (by decide))
  have heq : PyData.eqv fm.toD fm.toD = true := SeqAt.eqv_refl _ (by
    unfold SeqAt.shaped at hsh
    exact (Bool.and_eq_true_iff.mp hsh).1)
  have hlen := dr.len
  have lexlen : ∀ y : Str, y.length ≤ 60 → (lexA [] (cl y)).length ≤ 61 := fun y hy => by
    obtain ⟨_, lx2⟩ := lexA_ok (cl y) []
    have h1 : (cl y).length = y.length := cl_len y
    have z0 : (flush ([] : List Nat)).length = 0 := rfl
    rw [z0] at lx2
    omega
  have rf1 : rf sw txt = some fm := by
    unfold rf
    rw [if_pos hlen, drawn_reads hn dr.rel (lexlen txt hlen)]
  have rf2 : (txt.length : Int) < 60 → rf sw (" " ++ txt) = some fm := fun h => by
    have hl : ((" " : Str) ++ txt).length ≤ 60 := by
      have : (" " : Str).length = 1 := by decide +kernel
      rw [len_app, this]
      omega
    have hc : cl ((" " : Str) ++ txt) = 32 :: cl txt := by
      rw [cl_app]
      have : cl (" " : Str) = [32] := by decide +kernel
      rw [this]
      rfl
    have hx : lexA [] (cl ((" " : Str) ++ txt)) = lexA [] (cl txt) := by
      rw [hc]
      rfl
    unfold rf
    rw [if_pos hl, hx, drawn_reads hn dr.rel (lexlen txt hlen)]
  refine ⟨fun σ H' => σ = [some (.ref a), some (.ref t), some (.ref ps), some vf, some (.str txt), none, none, none, none, none] ∧ G0 H' Ps Pn t l ps sw vf fm, ?_, ?_⟩
  · refine ⟨_, rfl, _, rfl, ps, sw, txt, rfl, hs2.but g3 hT2, w5, hn, Nat.le_trans hlen (by decide), ?_⟩
    rw [rf1]
    intro v4 H4 g4 d4
    have G4 := G3.same g4
    refine ⟨_, rfl, _, _, d4.dp, G4.dv.dp, hsh, hsh, _, rfl, ?_⟩
    rw [heq]
    show if false = true then _ else _
    rw [if_neg (by decide)]
    refine ⟨_, rfl, txt, rfl, room5 (Nat.le_trans hlen (by decide)), _, _, rfl, rfl, _, rfl, ite2 (fun c => ?_) (fun c => ⟨rfl, G4⟩)⟩
    have c' := of_decide_eq_true c
    have hl1 : (" " : Str).length = 1 := by decide +kernel
    refine ⟨_, rfl, _, rfl, _, _, rfl, rfl, by rw [hl1]; exact room5 (by omega), ps, sw, " " ++ txt, rfl, G4.sw, w5, hn, by rw [len_app, hl1]; omega, ?_⟩
    rw [rf2 c']
    intro v5 H5 g5 d5
    have G5 := G4.same g5
    refine ⟨_, rfl, _, _, d5.dp, G5.dv.dp, hsh, hsh, _, rfl, ?_⟩
    rw [heq]
    show if false = true then _ else _
    rw [if_neg (by decide)]
    exact ⟨rfl, G5⟩
  rintro σ H4 ⟨rfl, G4⟩
  refine ⟨fun σ H' => σ = [some (.ref a), some (.ref t), some (.ref ps), some vf, some (.str txt), none, none, none, none, none] ∧ G0 H' Ps Pn t l ps sw vf fm, ?_, ?_⟩
  · refine ⟨_, rfl, ps, _, rfl, .inr G4.sw.sq, ?_⟩
    rw [List.length_map]
    refine ⟨sw.length, rfl, w5, fun p5 xs5 H5 n5 g5 e5 d5 => ?_⟩
    have G5 := G4.same g5
    refine ⟨_, rfl, ps, _, rfl, .inr G5.sw.sq, ?_⟩
    rw [List.length_map]
    refine ⟨sw.length, rfl, w5, fun p6 xs6 H6 n6 g6 e6 d6 => ?_⟩
    have G6 := G5.same g6
    refine ⟨.list _, .list _, .lst (SqL.of (g6 _ _ e5)) (DvAll.dp _ _ (DvAll.keep (KeepT.of g6) _ _ d5)), .lst (SqL.of e6) (DvAll.dp _ _ d6), confs_shape _, confs_shape _, _, rfl, ?_⟩
    rw [confs_eqv]
    show if false = true then _ else _
    rw [if_neg (by decide)]
    refine ⟨_, rfl, _, _, rfl, G6.swf, fun ds e => ?_, G6.ts, G6.tn, fun H7 g7 => ?_⟩
    · cases e
      rw [List.length_map]
      refine ⟨by omega, fun x hx => ?_⟩
      obtain ⟨y, hy, ey⟩ := List.mem_map.mp hx
      cases ey
      have := (names x hy).2.2.1
      omega
    · have G7 := G6.tabs g7
      rw [sws_sw hw]
      exact ⟨_, _, rfl, rfl, _, rfl, rfl, G7⟩
  rintro σ H5 ⟨rfl, G5⟩
  refine ⟨_, rfl, ps, _, rfl, .inr G5.sw.sq, ?_⟩
  rw [List.length_map]
  refine ⟨sw.length, rfl, w5, fun p6 xs6 H6 n6 g6 e6 d6 => ?_⟩
  have G6 := G5.same g6
  have hl6 : xs6.length = (confs sw.length).length := by rw [d6.length, List.length_map]
  refine ⟨p6, rfl, ⟨_, SqL.of e6⟩, for_list (xs := xs6) (fun i σ H' => Same H6 H' ∧ ∃ c5 c6 : Option V, σ = [some (.ref a), some (.ref t), some (.ref ps), some vf, some (.str txt), c5, c6, none, none, none]) ⟨Same.refl _, _, _, rfl⟩ (fun i σ H' _ h => SqL.of (h.1 _ _ e6)) (fun i x σ H' hx ⟨g, c5, c6, hσ⟩ => ?_) (fun σ H' ⟨g, c5, c6, hσ⟩ => ?_)⟩
  · subst hσ
    have hi : i < (confs sw.length).length := by rw [← hl6]; exact (List.getElem?_eq_some_iff.mp hx).1
    have e1 : (confs sw.length)[i]? = some (confs sw.length)[i] := List.getElem?_eq_getElem hi
    obtain ⟨x', e2, d2⟩ := DvAll.get d6 (show ((confs sw.length).map confD)[i]? = some (confD (confs sw.length)[i]) by rw [List.getElem?_map, e1]; rfl)
    rw [hx] at e2
    cases e2
    obtain ⟨b, rfl, hb⟩ := Dv.conf (K := K) d2
    have G7 := G6.same g
    have hrow := (confs_row sw.length _ (List.getElem_mem hi)).1
    generalize (confs sw.length)[i] = c at hb hrow
    have hb7 : SqT K H' b (c.map V.int) := same_tup g hb
    have ok : TrOk K H' ps sw vf fm b c := ⟨G7.sw, G7.dv, dr.over, hb7, hrow⟩
    refine ⟨_, rfl, _, rfl, _, rfl, ps, sw, vf, fm, b, c, rfl, ok, Nat.le_trans dr.size (by decide), fun H8 g8 => ?_⟩
    have G8 := G7.same g8
    have ok8 : TrOk K H8 ps sw vf fm b c := ⟨G8.sw, G8.dv, dr.over, same_tup g8 hb7, hrow⟩
    refine ⟨_, rfl, _, _, _, _, _, rfl, .ty _, .base (.bl _), kit_bool (.bool true), _, rfl, ?_⟩
    show if false = true then _ else _
    rw [if_neg (by decide)]
    refine ⟨_, rfl, _, rfl, _, rfl, _, rfl, ps, sw, vf, fm, b, c, rfl, ok8, dr.dep, rfl, _, rfl, ?_⟩
    rw [decide_eq_true (rfl : V.bl (ev sw c fm) = V.bl (ev sw c fm))]
    show if false = true then _ else _
    rw [if_neg (by decide)]
    exact ⟨g.trans g8, _, _, rfl⟩
  subst hσ
  have G7 := G6.same g
  refine ⟨4, rfl, by decide, by decide, for_range (n := 4) (fun i σ H2 => G0 H2 Ps Pn t l ps sw vf fm ∧ ∃ c7 c8 : Option V, σ = [some (.ref a), some (.ref t), some (.ref ps), some vf, some (.str txt), c5, c6, c7, c8, none]) ⟨G7, _, _, rfl⟩ (fun i σ H8 hi ⟨G8, c7, c8, hσ⟩ => ?_) (fun σ H8 ⟨G8, c7, c8, hσ⟩ => ?_)⟩
  · subst hσ
    refine ⟨_, rfl, _, rfl, t, l, txt, rfl, G8.tp, hlen, fun y H9 hy g9 hT9 => ?_⟩
    have G9 := G8.but g9 hT9
    refine ⟨_, rfl, _, rfl, ps, sw, y, rfl, G9.sw, w5, hn, hy, fun H10 g10 => ?_⟩
    have G10 := G9.same g10
    refine ⟨_, rfl, _, rfl, ps, sw, y, rfl, G10.sw, hn, hy, fun H11 g11 => ⟨_, rfl, ?_⟩⟩
    have G11 := G10.same g11
    cases (rf sw y).isSome with
    | true =>
      rw [if_pos rfl]
      refine ⟨rfl, _, rfl, ?_⟩
      show if false = true then _ else _
      rw [if_neg (by decide)]
      exact ⟨G11, _, _, rfl⟩
    | false =>
      rw [if_neg (by decide)]
      refine ⟨rfl, _, rfl, ?_⟩
      show if false = true then _ else _
      rw [if_neg (by decide)]
      exact ⟨G11, _, _, rfl⟩
  subst hσ
  refine ⟨(fun _ _ z => nomatch z), fun v0 J0 k0 m0 => ?_⟩
  have A0 := G8.same k0
  refine ⟨_, rfl, _, rfl, _, rfl, _, rfl, sl_cat A0.sw hw fun v1 J1 k1 m1 => ?_⟩
  refine ⟨(fun _ _ z => nomatch z), fun v2 J2 k2 m2 => ⟨(fun _ _ z => nomatch z), fun v3 J3 k3 m3 => ⟨(fun _ _ z => nomatch z), fun v4 J4 k4 m4 => ⟨(fun _ _ z => nomatch z), fun v5 J5 k5 m5 => ⟨(fun _ _ z => nomatch z), fun v6 J6 k6 m6 => ⟨(fun _ _ z => nomatch z), fun v7 J7 k7 m7 => ⟨(fun _ _ z => nomatch z), fun v8 J8 k8 m8 => ⟨(fun _ _ z => nomatch z), fun v9 J9 k9 m9 => ?_⟩⟩⟩⟩⟩⟩⟩⟩
  have m9' : Dv J9 v9 (.tuple [.int 4]) := m9
  have x8 := DvAll.cons m9' DvAll.nil
  have x7 := DvAll.cons (Dv.keep (KeepT.of k9) _ _ m8) x8
  have x6 := DvAll.cons (Dv.keep (KeepT.of (k8.trans k9)) _ _ m7) x7
  have x5 := DvAll.cons (Dv.keep (KeepT.of (k7.trans (k8.trans k9))) _ _ m6) x6
  have x4 := DvAll.cons (Dv.keep (KeepT.of (k6.trans (k7.trans (k8.trans k9)))) _ _ m5) x5
  have x3 := DvAll.cons (Dv.keep (KeepT.of (k5.trans (k6.trans (k7.trans (k8.trans k9))))) _ _ m4) x4
  have x2 := DvAll.cons (Dv.keep (KeepT.of (k4.trans (k5.trans (k6.trans (k7.trans (k8.trans k9)))))) _ _ m3) x3
  have x1 := DvAll.cons (Dv.keep (KeepT.of (k3.trans (k4.trans (k5.trans (k6.trans (k7.trans (k8.trans k9))))))) _ _ m2) x2
  have x0 := DvAll.cons (Dv.keep (KeepT.of (k2.trans (k3.trans (k4.trans (k5.trans (k6.trans (k7.trans (k8.trans k9)))))))) _ _ m1) x1
  have xx := DvAll.cons (Dv.keep (KeepT.of (k1.trans (k2.trans (k3.trans (k4.trans (k5.trans (k6.trans (k7.trans (k8.trans k9))))))))) _ _ m0) x0
  have A9 := A0.same (k1.trans (k2.trans (k3.trans (k4.trans (k5.trans (k6.trans (k7.trans (k8.trans k9))))))))
  refine ⟨(by show 10 ≤ sizeLine; decide), fun p hp => ?_⟩
  have kp := same_new hp (.lst [v0, v1, v2, v3, v4, v5, v6, v7, v8, v9])
  have Ap := A9.same kp
  have xp := DvAll.keep (KeepT.of kp) _ _ xx
  have ep : upd J9 p (.lst [v0, v1, v2, v3, v4, v5, v6, v7, v8, v9]) p = some (.lst [v0, v1, v2, v3, v4, v5, v6, v7, v8, v9]) := upd_same
  have hll := xp.length
  generalize upd J9 p (.lst [v0, v1, v2, v3, v4, v5, v6, v7, v8, v9]) = Jp at kp Ap xp ep
  have hok : ∀ d ∈ ([.tuple [], twice sw, .tuple [.str "b", .str "a"], .tuple [.str "A"], .tuple [.str "toolong"], .tuple [.str ""], .tuple [.str "a", .str "b", .str "c", .str "d", .str "e", .str "f"], .str "a", .int 3, .tuple [.int 4]] : List PyData), okD d = true := by
    have h2 : ∀ d ∈ ([.tuple [], .tuple [.str "b", .str "a"], .tuple [.str "A"], .tuple [.str "toolong"], .tuple [.str ""], .tuple [.str "a", .str "b", .str "c", .str "d", .str "e", .str "f"], .str "a", .int 3, .tuple [.int 4]] : List PyData), okD d = true := List.all_eq_true.mp (by decide +kernel)
    intro d hd
    rcases List.mem_cons.mp hd with e | hd
    · exact h2 d (by rw [e]; exact List.mem_cons_self)
    · rcases List.mem_cons.mp hd with e | hd
      · rw [e]
        exact sws_ok hw
      · exact h2 d (List.mem_cons_of_mem _ hd)
  generalize [v0, v1, v2, v3, v4, v5, v6, v7, v8, v9] = xs at *
  refine ⟨_, rfl, _, rfl, t, l, 10, rfl, Ap.tp, by decide, by decide, fun d H12 q0 q1 g12 hT12 => ?_⟩
  have G12 := Ap.but g12 hT12
  have npt : p ≠ t := A9.tp.nt hp
  have hlen10 : xs.length = 10 := hll
  have hdl : d.toNat < xs.length := by omega
  have ex : xs[d.toNat]? = some xs[d.toNat] := List.getElem?_eq_getElem hdl
  refine ⟨p, _, _, _, rfl, rfl, SqL.of (g12 _ _ npt ep), at_of (j := d.toNat) (by omega) ex, ?_⟩
  have hdl2 : d.toNat < ([.tuple [], twice sw, .tuple [.str "b", .str "a"], .tuple [.str "A"], .tuple [.str "toolong"], .tuple [.str ""], .tuple [.str "a", .str "b", .str "c", .str "d", .str "e", .str "f"], .str "a", .int 3, .tuple [.int 4]] : List PyData).length := by rw [← xp.length]; exact hdl
  obtain ⟨x, ex2, dx⟩ := DvAll.get xp (List.getElem?_eq_getElem hdl2)
  rw [ex] at ex2
  cases ex2
  obtain ⟨o1, o2⟩ := okD_spec (hok _ (List.getElem_mem hdl2))
  refine ⟨_, _, rfl, .inl (Dv.keep (g12.keepT Ap.tp) _ _ dx), o2, G12.ts, G12.tn, fun H13 g13 => ?_⟩
  rw [o1]
  exact ⟨_, _, rfl, rfl, q H13⟩
end
end Ver

/-! ## The end: where the defs stand, and the law -/
namespace Ver
open PySem PySem.Spec PyProof.Rows L2
def dD (st : Stmt) (x : Str) : He.DefD := ⟨(x, none), x, x, defArgs st, defBody st, defScope st, [], []⟩
theorem funD_to {K : PySem.W.Frag} {x : Str} {st : Stmt} {f : Addr} {fd : FuncData} (F : FunD K x x (defArgs st) (defBody st) (defScope st) [] [] f fd) : Fun K x x st f fd := by
  obtain ⟨oc, od, dV, kV, doc, pm, an, cdv, ct, osl, rfl, lk, hc, hd, _⟩ := F.ex
  rcases hd with ⟨_, rfl⟩ | ⟨h, _⟩
  · exact ⟨⟨oc, od, kV, doc, pm, an, cdv, ct, osl, rfl, lk, hc⟩, F.kp⟩
  · exact absurd rfl h
theorem funD_toC {K : PySem.W.Frag} {x : Str} {st : Stmt} {fd : FuncData} (F : FunD K x x (defArgs st) (defBody st) (defScope st) [] [] (He.fAd K (x, none)) fd) : FunC K x x st (He.fAd K (x, none)) fd (.ref (He.cT K (x, none)).1) := by
  obtain ⟨oc, od, dV, kV, doc, pm, an, cdv, ct, osl, rfl, lk, hc, hd, _⟩ := F.ex
  rcases hd with ⟨_, rfl⟩ | ⟨h, _⟩
  · obtain ⟨c, rfl⟩ := He.codeIn_ref hc
    have e : (He.cT K (x, none)).1 = c := He.codeOf_eq lk rfl
    rw [e]
    exact ⟨⟨oc, od, kV, doc, pm, an, ct, osl, rfl, lk, hc⟩, F.kp⟩
  · exact absurd rfl h
def fnL : List He.DefD := [dD sSwt "is_switches", dD sNm "_is_name", dD sConf "configurations", dD sRf "read_formula", dD sSig "_signs_of", dD sRe "_read_either", dD sRb "_read_both", dD sRp "_read_part", dD sRs "_read_single", dD sIst "is_true", dD sFin "_formulas_in", dD sMix "_law_mix", dD sTape "_law_tape", dD sTake "_law_take", dD sSws "_law_switches", dD sGap "_law_gap", dD sPart "_law_part", dD sBoth "_law_both", dD sEither "_law_either", dD sForm "_law_formula", dD sAll "_law_all", dD sTrue "_law_true", dD sLs "_law_signs", dD sLif "_law_is_formula", dD sSpo "_law_spoilt", dD sTo "_law_told", dD sLaw "law"]
def faL : List He.Fa := [.glo "is_switches", .glo "_is_name", .glo "configurations", .glo "read_formula", .glo "_signs_of", .glo "_read_either", .glo "_read_both", .glo "_read_part", .glo "_read_single", .glo "is_true", .glo "_formulas_in", .glo "_law_mix", .glo "_law_tape", .glo "_law_take", .glo "_law_switches", .glo "_law_gap", .glo "_law_part", .glo "_law_both", .glo "_law_either", .glo "_law_formula", .glo "_law_all", .glo "_law_true", .glo "_law_signs", .glo "_law_is_formula", .glo "_law_spoilt", .glo "_law_told", .glo "law", .free "isinstance", .free "tuple", .free "str", .free "len", .free "all", .free "range", .free "list", .free "int", .free "reversed", .free "bool", .int "MAX_SWITCHES" 5, .int "MAX_NAME" 6, .int "MAX_TEXT" 60, .str "SMALL_LETTERS" letters, .str "_END" "", .exc "BadFormula", .glo "BadFormula", .exm "BadFormula" "BadFormula" true]
def tfL : List He.Defn := [("is_switches", none), ("_is_name", none)]
def exL (K : PySem.W.Frag) : Bool := (decide (PySem.W.kitOne K (.ref (He.ga K "BadFormula")) (.ref (He.ga K "FoldError")) = some true)) && (decide (PySem.W.kitOne K (.ref (He.ga K "BadFormula")) (.ref (He.ga K "BadShelf")) = some false)) && (He.eqO (PySem.W.findIn K (.ref (He.ga K "BadFormula")) "__getattribute__") (some (some (.builtin "BaseException.__getattribute__")))) && (He.eqO (PySem.W.findIn K (.ref (He.ga K "BadFormula")) "__getattr__") (some none)) && (PySem.W.hasDictIn K (He.ga K "BadFormula")) && (He.eqO (PySem.W.findIn K (.ref (He.ga K "BadFormula")) "__class__") (some (some (.builtin "object.__class__")))) && (He.eqO (PySem.W.specialIn K (.builtin "object.__class__") "__get__") (some (some (.builtin "getset_descriptor.__get__")))) && (decide (PySem.W.takesIn K (.builtin "object.__class__") = some true)) && (decide (PySem.W.mroIn K (He.ga K "BadFormula") (.type "object") = some true)) && ((He.Fa.ok K (.glo "FoldError"))) && ((He.Fa.ok K (.glo "BadShelf")))
abbrev RL : PySem.W.OpenRow := PySem.W.OpenLaw.row PySem.Challenge.rw_oncefolded_k00_formulas
abbrev hkL : PySem.W.Hook := He.hookX 6 faL fnL [] tfL exL
def obL (s : PySem.W.SharedT) : He.AlX := He.obsX 6 faL fnL [] tfL exL (HandSHeadRun.getT s)
theorem obL_eq (s : PySem.W.SharedT) : obL s = hkL.obs s.abs := He.obsX_eq (HandSHeadRun.getT_eq s)
def lo0 : List Str := ["FoldError", "BadFormula", "BadShelf", "MAX_SWITCHES", "MAX_NAME", "MAX_TEXT", "SMALL_LETTERS", "_END", "is_switches", "_is_name", "configurations", "read_formula", "_signs_of", "_read_either", "_read_both", "_read_part", "_read_single", "is_true", "_formulas_in", "_law_mix", "_law_tape", "_law_take", "_law_switches", "_law_gap", "_law_part", "_law_both", "_law_either", "_law_formula", "_law_all", "_law_true"]
def lo1 : List Str := ["_law_signs", "_law_is_formula", "_law_spoilt", "_law_told"]
abbrev loL : List Str := lo0 ++ lo1
theorem runL (w : World) : HandSHeadRun.RunEq RL (PySem.W.view RL.prog [37]) hkL obL 20000 loL w := by
  intro os
  kernel_rfl
section
variable {P : Program} {w : World} {K : PySem.W.Frag} {h : Heap} {mg : Str → Option Value} {fa : Addr}
theorem factsL (X : K.In h) (G : h.Ns mainGlobals mg) (hfa : mg ("law" : Str) = some (.ref fa)) (c : He.SaysX faL fnL [] tfL exL w h K) :
    ∃ fd : FuncData, (∀ (s : Shared) (v : Value), BindsTo s fd ⟨[v], []⟩ [("script", v)]) ∧ ∀ base : Heap, K.In base → base.Ns mainGlobals mg → (∀ p ∈ tfL.map (He.cT K), LamX.TabB base mg p.1 p.2) → FnOk P w K mg base (CX P w) 188 fa fd ["script"] (spLaw K (He.cT K ("is_switches", none)).2 (He.cT K ("_is_name", none)).2) := by
  obtain ⟨fd_sw0, D_sw0⟩ := c.t.d.def_ 0 (d := dD sSwt "is_switches") rfl
  have C_sw0 := funD_toC (x := "is_switches") (st := sSwt) D_sw0
  have F_sw0 := C_sw0.fn
  obtain ⟨fd_nm, D_nm⟩ := c.t.d.def_ 1 (d := dD sNm "_is_name") rfl
  have C_nm := funD_toC (x := "_is_name") (st := sNm) D_nm
  have F_nm := C_nm.fn
  obtain ⟨fd_cf, D_cf⟩ := c.t.d.def_ 2 (d := dD sConf "configurations") rfl
  have F_cf := funD_to (x := "configurations") (st := sConf) D_cf
  obtain ⟨fd_rf, D_rf⟩ := c.t.d.def_ 3 (d := dD sRf "read_formula") rfl
  have F_rf := funD_to (x := "read_formula") (st := sRf) D_rf
  obtain ⟨fd_sg, D_sg⟩ := c.t.d.def_ 4 (d := dD sSig "_signs_of") rfl
  have F_sg := funD_to (x := "_signs_of") (st := sSig) D_sg
  obtain ⟨fd_re, D_re⟩ := c.t.d.def_ 5 (d := dD sRe "_read_either") rfl
  have F_re := funD_to (x := "_read_either") (st := sRe) D_re
  obtain ⟨fd_rb, D_rb⟩ := c.t.d.def_ 6 (d := dD sRb "_read_both") rfl
  have F_rb := funD_to (x := "_read_both") (st := sRb) D_rb
  obtain ⟨fd_rp, D_rp⟩ := c.t.d.def_ 7 (d := dD sRp "_read_part") rfl
  have F_rp := funD_to (x := "_read_part") (st := sRp) D_rp
  obtain ⟨fd_rs, D_rs⟩ := c.t.d.def_ 8 (d := dD sRs "_read_single") rfl
  have F_rs := funD_to (x := "_read_single") (st := sRs) D_rs
  obtain ⟨fd_it, D_it⟩ := c.t.d.def_ 9 (d := dD sIst "is_true") rfl
  have F_it := funD_to (x := "is_true") (st := sIst) D_it
  obtain ⟨fd_fi, D_fi⟩ := c.t.d.def_ 10 (d := dD sFin "_formulas_in") rfl
  have F_fi := funD_to (x := "_formulas_in") (st := sFin) D_fi
  obtain ⟨fd_mx, D_mx⟩ := c.t.d.def_ 11 (d := dD sMix "_law_mix") rfl
  have F_mx := funD_to (x := "_law_mix") (st := sMix) D_mx
  obtain ⟨fd_tp, D_tp⟩ := c.t.d.def_ 12 (d := dD sTape "_law_tape") rfl
  have F_tp := funD_to (x := "_law_tape") (st := sTape) D_tp
  obtain ⟨fd_tk, D_tk⟩ := c.t.d.def_ 13 (d := dD sTake "_law_take") rfl
  have F_tk := funD_to (x := "_law_take") (st := sTake) D_tk
  obtain ⟨fd_sw, D_sw⟩ := c.t.d.def_ 14 (d := dD sSws "_law_switches") rfl
  have F_sw := funD_to (x := "_law_switches") (st := sSws) D_sw
  obtain ⟨fd_gp, D_gp⟩ := c.t.d.def_ 15 (d := dD sGap "_law_gap") rfl
  have F_gp := funD_to (x := "_law_gap") (st := sGap) D_gp
  obtain ⟨fd_pa, D_pa⟩ := c.t.d.def_ 16 (d := dD sPart "_law_part") rfl
  have F_pa := funD_to (x := "_law_part") (st := sPart) D_pa
  obtain ⟨fd_lb, D_lb⟩ := c.t.d.def_ 17 (d := dD sBoth "_law_both") rfl
  have F_lb := funD_to (x := "_law_both") (st := sBoth) D_lb
  obtain ⟨fd_lx, D_lx⟩ := c.t.d.def_ 18 (d := dD sEither "_law_either") rfl
  have F_lx := funD_to (x := "_law_either") (st := sEither) D_lx
  obtain ⟨fd_fm, D_fm⟩ := c.t.d.def_ 19 (d := dD sForm "_law_formula") rfl
  have F_fm := funD_to (x := "_law_formula") (st := sForm) D_fm
  obtain ⟨fd_al, D_al⟩ := c.t.d.def_ 20 (d := dD sAll "_law_all") rfl
  have F_al := funD_to (x := "_law_all") (st := sAll) D_al
  obtain ⟨fd_tr, D_tr⟩ := c.t.d.def_ 21 (d := dD sTrue "_law_true") rfl
  have F_tr := funD_to (x := "_law_true") (st := sTrue) D_tr
  obtain ⟨fd_ls, D_ls⟩ := c.t.d.def_ 22 (d := dD sLs "_law_signs") rfl
  have F_ls := funD_to (x := "_law_signs") (st := sLs) D_ls
  obtain ⟨fd_lf, D_lf⟩ := c.t.d.def_ 23 (d := dD sLif "_law_is_formula") rfl
  have F_lf := funD_to (x := "_law_is_formula") (st := sLif) D_lf
  obtain ⟨fd_sp, D_sp⟩ := c.t.d.def_ 24 (d := dD sSpo "_law_spoilt") rfl
  have F_sp := funD_to (x := "_law_spoilt") (st := sSpo) D_sp
  obtain ⟨fd_to, D_to⟩ := c.t.d.def_ 25 (d := dD sTo "_law_told") rfl
  have F_to := funD_to (x := "_law_told") (st := sTo) D_to
  obtain ⟨fd_la, D_la⟩ := c.t.d.def_ 26 (d := dD sLaw "law") rfl
  have F_la := funD_to (x := "law") (st := sLaw) D_la
  have e := hfa.symm.trans (He.glo_ok X G (c.t.d.fact 26 (f := .glo "law") rfl))
  cases e
  have b_sw0 := F_sw0.binds (ps := ["value"]) fun _ _ _ _ _ _ us hl => match us, hl with | [_], _ => rfl
  have k_sw0 := F_sw0.kp
  have m_sw0 : mg ("is_switches" : Str) = some (.ref (He.fAd K ("is_switches", none))) := He.glo_ok X G (c.t.d.fact 0 (f := .glo "is_switches") rfl)
  have b_nm := F_nm.binds (ps := ["value"]) fun _ _ _ _ _ _ us hl => match us, hl with | [_], _ => rfl
  have k_nm := F_nm.kp
  have m_nm : mg ("_is_name" : Str) = some (.ref (He.fAd K ("_is_name", none))) := He.glo_ok X G (c.t.d.fact 1 (f := .glo "_is_name") rfl)
  have b_cf := F_cf.binds (ps := ["count"]) fun _ _ _ _ _ _ us hl => match us, hl with | [_], _ => rfl
  have k_cf := F_cf.kp
  have m_cf : mg ("configurations" : Str) = some (.ref (He.fAd K ("configurations", none))) := He.glo_ok X G (c.t.d.fact 2 (f := .glo "configurations") rfl)
  have b_rf := F_rf.binds (ps := ["switches", "text"]) fun _ _ _ _ _ _ us hl => match us, hl with | [_, _], _ => rfl
  have k_rf := F_rf.kp
  have m_rf : mg ("read_formula" : Str) = some (.ref (He.fAd K ("read_formula", none))) := He.glo_ok X G (c.t.d.fact 3 (f := .glo "read_formula") rfl)
  have b_sg := F_sg.binds (ps := ["text"]) fun _ _ _ _ _ _ us hl => match us, hl with | [_], _ => rfl
  have k_sg := F_sg.kp
  have m_sg : mg ("_signs_of" : Str) = some (.ref (He.fAd K ("_signs_of", none))) := He.glo_ok X G (c.t.d.fact 4 (f := .glo "_signs_of") rfl)
  have b_re := F_re.binds (ps := ["switches", "signs", "at"]) fun _ _ _ _ _ _ us hl => match us, hl with | [_, _, _], _ => rfl
  have k_re := F_re.kp
  have m_re : mg ("_read_either" : Str) = some (.ref (He.fAd K ("_read_either", none))) := He.glo_ok X G (c.t.d.fact 5 (f := .glo "_read_either") rfl)
  have b_rb := F_rb.binds (ps := ["switches", "signs", "at"]) fun _ _ _ _ _ _ us hl => match us, hl with | [_, _, _], _ => rfl
  have k_rb := F_rb.kp
  have m_rb : mg ("_read_both" : Str) = some (.ref (He.fAd K ("_read_both", none))) := He.glo_ok X G (c.t.d.fact 6 (f := .glo "_read_both") rfl)
  have b_rp := F_rp.binds (ps := ["switches", "signs", "at"]) fun _ _ _ _ _ _ us hl => match us, hl with | [_, _, _], _ => rfl
  have k_rp := F_rp.kp
  have m_rp : mg ("_read_part" : Str) = some (.ref (He.fAd K ("_read_part", none))) := He.glo_ok X G (c.t.d.fact 7 (f := .glo "_read_part") rfl)
  have b_rs := F_rs.binds (ps := ["switches", "sign"]) fun _ _ _ _ _ _ us hl => match us, hl with | [_, _], _ => rfl
  have k_rs := F_rs.kp
  have m_rs : mg ("_read_single" : Str) = some (.ref (He.fAd K ("_read_single", none))) := He.glo_ok X G (c.t.d.fact 8 (f := .glo "_read_single") rfl)
  have b_it := F_it.binds (ps := ["switches", "formula", "configuration"]) fun _ _ _ _ _ _ us hl => match us, hl with | [_, _, _], _ => rfl
  have k_it := F_it.kp
  have m_it : mg ("is_true" : Str) = some (.ref (He.fAd K ("is_true", none))) := He.glo_ok X G (c.t.d.fact 9 (f := .glo "is_true") rfl)
  have b_fi := F_fi.binds (ps := ["formula"]) fun _ _ _ _ _ _ us hl => match us, hl with | [_], _ => rfl
  have k_fi := F_fi.kp
  have m_fi : mg ("_formulas_in" : Str) = some (.ref (He.fAd K ("_formulas_in", none))) := He.glo_ok X G (c.t.d.fact 10 (f := .glo "_formulas_in") rfl)
  have b_mx := F_mx.binds (ps := ["number"]) fun _ _ _ _ _ _ us hl => match us, hl with | [_], _ => rfl
  have k_mx := F_mx.kp
  have m_mx : mg ("_law_mix" : Str) = some (.ref (He.fAd K ("_law_mix", none))) := He.glo_ok X G (c.t.d.fact 11 (f := .glo "_law_mix") rfl)
  have b_tp := F_tp.binds (ps := ["script", "budget"]) fun _ _ _ _ _ _ us hl => match us, hl with | [_, _], _ => rfl
  have k_tp := F_tp.kp
  have m_tp : mg ("_law_tape" : Str) = some (.ref (He.fAd K ("_law_tape", none))) := He.glo_ok X G (c.t.d.fact 12 (f := .glo "_law_tape") rfl)
  have b_tk := F_tk.binds (ps := ["tape", "many"]) fun _ _ _ _ _ _ us hl => match us, hl with | [_, _], _ => rfl
  have k_tk := F_tk.kp
  have m_tk : mg ("_law_take" : Str) = some (.ref (He.fAd K ("_law_take", none))) := He.glo_ok X G (c.t.d.fact 13 (f := .glo "_law_take") rfl)
  have b_sw := F_sw.binds (ps := ["tape"]) fun _ _ _ _ _ _ us hl => match us, hl with | [_], _ => rfl
  have k_sw := F_sw.kp
  have m_sw : mg ("_law_switches" : Str) = some (.ref (He.fAd K ("_law_switches", none))) := He.glo_ok X G (c.t.d.fact 14 (f := .glo "_law_switches") rfl)
  have b_gp := F_gp.binds (ps := ["tape"]) fun _ _ _ _ _ _ us hl => match us, hl with | [_], _ => rfl
  have k_gp := F_gp.kp
  have m_gp : mg ("_law_gap" : Str) = some (.ref (He.fAd K ("_law_gap", none))) := He.glo_ok X G (c.t.d.fact 15 (f := .glo "_law_gap") rfl)
  have b_pa := F_pa.binds (ps := ["tape", "switches", "deep"]) fun _ _ _ _ _ _ us hl => match us, hl with | [_, _, _], _ => rfl
  have k_pa := F_pa.kp
  have m_pa : mg ("_law_part" : Str) = some (.ref (He.fAd K ("_law_part", none))) := He.glo_ok X G (c.t.d.fact 16 (f := .glo "_law_part") rfl)
  have b_lb := F_lb.binds (ps := ["tape", "switches", "deep"]) fun _ _ _ _ _ _ us hl => match us, hl with | [_, _, _], _ => rfl
  have k_lb := F_lb.kp
  have m_lb : mg ("_law_both" : Str) = some (.ref (He.fAd K ("_law_both", none))) := He.glo_ok X G (c.t.d.fact 17 (f := .glo "_law_both") rfl)
  have b_lx := F_lx.binds (ps := ["tape", "switches", "deep"]) fun _ _ _ _ _ _ us hl => match us, hl with | [_, _, _], _ => rfl
  have k_lx := F_lx.kp
  have m_lx : mg ("_law_either" : Str) = some (.ref (He.fAd K ("_law_either", none))) := He.glo_ok X G (c.t.d.fact 18 (f := .glo "_law_either") rfl)
  have b_fm := F_fm.binds (ps := ["tape", "switches"]) fun _ _ _ _ _ _ us hl => match us, hl with | [_, _], _ => rfl
  have k_fm := F_fm.kp
  have m_fm : mg ("_law_formula" : Str) = some (.ref (He.fAd K ("_law_formula", none))) := He.glo_ok X G (c.t.d.fact 19 (f := .glo "_law_formula") rfl)
  have b_al := F_al.binds (ps := ["count"]) fun _ _ _ _ _ _ us hl => match us, hl with | [_], _ => rfl
  have k_al := F_al.kp
  have m_al : mg ("_law_all" : Str) = some (.ref (He.fAd K ("_law_all", none))) := He.glo_ok X G (c.t.d.fact 20 (f := .glo "_law_all") rfl)
  have b_tr := F_tr.binds (ps := ["switches", "formula", "configuration"]) fun _ _ _ _ _ _ us hl => match us, hl with | [_, _, _], _ => rfl
  have k_tr := F_tr.kp
  have m_tr : mg ("_law_true" : Str) = some (.ref (He.fAd K ("_law_true", none))) := He.glo_ok X G (c.t.d.fact 21 (f := .glo "_law_true") rfl)
  have b_ls := F_ls.binds (ps := ["switches", "text"]) fun _ _ _ _ _ _ us hl => match us, hl with | [_, _], _ => rfl
  have k_ls := F_ls.kp
  have m_ls : mg ("_law_signs" : Str) = some (.ref (He.fAd K ("_law_signs", none))) := He.glo_ok X G (c.t.d.fact 22 (f := .glo "_law_signs") rfl)
  have b_lf := F_lf.binds (ps := ["switches", "text"]) fun _ _ _ _ _ _ us hl => match us, hl with | [_, _], _ => rfl
  have k_lf := F_lf.kp
  have m_lf : mg ("_law_is_formula" : Str) = some (.ref (He.fAd K ("_law_is_formula", none))) := He.glo_ok X G (c.t.d.fact 23 (f := .glo "_law_is_formula") rfl)
  have b_sp := F_sp.binds (ps := ["tape", "text"]) fun _ _ _ _ _ _ us hl => match us, hl with | [_, _], _ => rfl
  have k_sp := F_sp.kp
  have m_sp : mg ("_law_spoilt" : Str) = some (.ref (He.fAd K ("_law_spoilt", none))) := He.glo_ok X G (c.t.d.fact 24 (f := .glo "_law_spoilt") rfl)
  have b_to := F_to.binds (ps := ["switches", "text"]) fun _ _ _ _ _ _ us hl => match us, hl with | [_, _], _ => rfl
  have k_to := F_to.kp
  have m_to : mg ("_law_told" : Str) = some (.ref (He.fAd K ("_law_told", none))) := He.glo_ok X G (c.t.d.fact 25 (f := .glo "_law_told") rfl)
  have b_la := F_la.binds (ps := ["script"]) fun _ _ _ _ _ _ us hl => match us, hl with | [_], _ => rfl
  have n_isinstance := He.free_ok X G (c.t.d.fact 27 (f := .free "isinstance") rfl)
  have n_tuple := He.free_ok X G (c.t.d.fact 28 (f := .free "tuple") rfl)
  have n_str := He.free_ok X G (c.t.d.fact 29 (f := .free "str") rfl)
  have n_len := He.free_ok X G (c.t.d.fact 30 (f := .free "len") rfl)
  have n_all := He.free_ok X G (c.t.d.fact 31 (f := .free "all") rfl)
  have n_range := He.free_ok X G (c.t.d.fact 32 (f := .free "range") rfl)
  have n_list := He.free_ok X G (c.t.d.fact 33 (f := .free "list") rfl)
  have n_int := He.free_ok X G (c.t.d.fact 34 (f := .free "int") rfl)
  have n_reversed := He.free_ok X G (c.t.d.fact 35 (f := .free "reversed") rfl)
  have n_bool := He.free_ok X G (c.t.d.fact 36 (f := .free "bool") rfl)
  have i_MAX_SWITCHES := He.int_ok X G (c.t.d.fact 37 (f := .int "MAX_SWITCHES" 5) rfl)
  have i_MAX_NAME := He.int_ok X G (c.t.d.fact 38 (f := .int "MAX_NAME" 6) rfl)
  have i_MAX_TEXT := He.int_ok X G (c.t.d.fact 39 (f := .int "MAX_TEXT" 60) rfl)
  have s_SMALL_LETTERS := He.str_ok X G (c.t.d.fact 40 (f := .str "SMALL_LETTERS" letters) rfl)
  have s__END := He.str_ok X G (c.t.d.fact 41 (f := .str "_END" "") rfl)
  have e_BadFormula := He.exc_ok (c.t.d.fact 42 (f := .exc "BadFormula") rfl)
  have g_BadFormula := He.glo_ok X G (c.t.d.fact 43 (f := .glo "BadFormula") rfl)
  have x_BadFormula_BadFormula := He.exm_ok (c.t.d.fact 44 (f := .exm "BadFormula" "BadFormula" true) rfl)
  have xx : exL K = true := c.more
  unfold exL at xx
  simp only [Bool.and_eq_true] at xx
  obtain ⟨⟨⟨⟨⟨⟨⟨⟨⟨⟨x0, x1⟩, x2⟩, x3⟩, x4⟩, x5⟩, x6⟩, x7⟩, x8⟩, x9⟩, x10⟩ := xx
  refine ⟨fd_la, fun s v => ?_, fun base _ _ TB => ?_⟩
  · obtain ⟨oc, od, kV, doc, pm, an, cdv, ct, osl, rfl, _, _⟩ := F_la.ex
    exact .of_eq rfl
  have TB_sw0 : GxR.TabB base mg (He.cT K ("is_switches", none)).1 (He.cT K ("is_switches", none)).2 := by
    obtain ⟨z1, z2, z3⟩ := TB _ (List.mem_map.mpr ⟨("is_switches", none), by simp [tfL], rfl⟩)
    exact ⟨z1, z2, z3⟩
  have TB_nm : GxR.TabB base mg (He.cT K ("_is_name", none)).1 (He.cT K ("_is_name", none)).2 := by
    obtain ⟨z1, z2, z3⟩ := TB _ (List.mem_map.mpr ⟨("_is_name", none), by simp [tfL], rfl⟩)
    exact ⟨z1, z2, z3⟩
  have BF : BadF K mg (He.ga K "BadFormula") := ⟨e_BadFormula.1, g_BadFormula, e_BadFormula.2.1, e_BadFormula.2.2.1, e_BadFormula.2.2.2⟩
  have TF : ToldF K mg (He.ga K "BadFormula") (He.ga K "FoldError") (He.ga K "BadShelf") := ⟨⟨He.eqO_ok x2, He.eqO_ok x3, e_BadFormula.2.2.1, x4, He.eqO_ok x5, He.eqO_ok x6, of_decide_eq_true x7, of_decide_eq_true x8⟩, x_BadFormula_BadFormula, of_decide_eq_true x0, of_decide_eq_true x1, He.glo_ok X G x9, He.glo_ok X G x10⟩
  have T_mx := ok_mix (P := P) (w := w) (base := base) F_mx n_int
  have T_tp := ok_tape (P := P) (w := w) (mg := mg) (base := base) F_tp n_list
  have T_tk := ok_take F_tk T_mx b_mx k_mx m_mx n_int n_len
  have T_sw := ok_sws F_sw T_tk b_tk k_tk m_tk n_tuple n_len
  have T_gp := ok_gap F_gp T_tk b_tk k_tk m_tk
  have T_gn := (ok_gens F_pa b_pa m_pa F_lb b_lb m_lb F_lx b_lx m_lx T_tk b_tk k_tk m_tk T_gp b_gp k_gp m_gp n_len n_range 2 (by decide)).2
  have T_fm := ok_form F_fm T_gn b_lx k_lx m_lx n_len
  have T_al := ok_all (P := P) (w := w) (mg := mg) (base := base) F_al n_range
  have T_cf := ok_conf (P := P) (w := w) (mg := mg) (base := base) F_cf n_range
  have T_tr := ok_true (P := P) (w := w) (base := base) F_tr b_tr m_tr 15
  have T_fi := ok_fin (P := P) (w := w) (mg := mg) (base := base) F_fi
  have T_it := ok_ist F_it T_fi b_fi k_fi m_fi n_reversed
  have T_nm := ok_nm (P := P) (w := w) (n := 0) C_nm TB_nm n_isinstance n_str n_len n_all s_SMALL_LETTERS i_MAX_NAME
  have T_s0 := ok_swt (P := P) (w := w) (n := 4) C_sw0 TB_sw0 n_isinstance n_tuple n_len n_all n_range i_MAX_SWITCHES T_nm b_nm k_nm m_nm
  have T_sg := ok_sig (P := P) (w := w) (mg := mg) (base := base) (n := 184) F_sg n_len s_SMALL_LETTERS s__END
  have T_rd := (ok_rd (P := P) (w := w) (base := base) F_rp BF b_rp m_rp F_rb b_rb m_rb F_re b_re m_re F_rs b_rs m_rs s__END 61).2
  have T_rf := ok_rf F_rf BF T_sg b_sg k_sg m_sg T_rd b_re k_re m_re n_len s__END i_MAX_TEXT
  have T_to := ok_to F_to BF TF T_rf b_rf k_rf m_rf n_isinstance
  have T_sp := ok_spo F_sp T_tk b_tk k_tk m_tk n_len
  have T_ls := ok_ls (P := P) (w := w) (mg := mg) (base := base) (n := 0) F_ls n_len n_range
  have T_lf := ok_lif F_lf T_ls b_ls k_ls m_ls n_len n_range
  exact ok_law F_la T_tp b_tp k_tp m_tp T_sw b_sw k_sw m_sw T_fm b_fm k_fm m_fm T_rf b_rf k_rf m_rf T_cf b_cf k_cf m_cf T_al b_al k_al m_al T_s0 b_sw0 k_sw0 m_sw0 T_it b_it k_it m_it T_tr b_tr k_tr m_tr T_sp b_sp k_sp m_sp T_to b_to k_to m_to T_lf b_lf k_lf m_lf T_tk b_tk k_tk m_tk n_len n_range n_isinstance n_bool
end
end Ver
open PySem PySem.W PySem.Calls PyProof.Rows
set_option maxRecDepth 100000 in
set_option maxHeartbeats 0 in
theorem PySem.Challenge.cw_oncefolded_k00_formulas_holds : PySem.Challenge.rw_oncefolded_k00_formulas.Holds := by
  w_on; o_law
  refine HandSHeadRun.head_any (r := OpenLaw.row PySem.Challenge.rw_oncefolded_k00_formulas) (q := view (OpenLaw.row PySem.Challenge.rw_oncefolded_k00_formulas).prog [37]) (H := Ver.hkL) (ob := Ver.obL) (M := 20000) (loose := Ver.loL) (d := HandSHeadRun.topDef (OpenLaw.row PySem.Challenge.rw_oncefolded_k00_formulas).prog 37) (kwd := []) Ver.obL_eq
    (by kernel_rfl) (fun s => by kernel_rfl) Ver.runL (by kernel_rfl) (by kernel_rfl) (by kernel_rfl) (by rfl) (by first | assumption | decide +kernel) (by decide +kernel) ⟨rfl, rfl, rfl, rfl, rfl, by decide +kernel⟩ ?hw ?hc
  case hw => w_witness2
  case hc =>
    refine LamX.walk_ofTsE (l := PySem.Challenge.rw_oncefolded_k00_formulas) (n := 63) (k := 188) (x := "script") (CX := fun w => L2.CX (PySem.Challenge.rw_oncefolded_k00_formulas).prog w) rfl (by decide) (by kernel_rfl) ⟨rfl, by decide, by decide⟩ ?F ?hCX
    case F =>
      intro w mg fa h Y G hmg0
      obtain ⟨K, KX, c⟩ := Y
      have hmg : mg ("law" : PySem.Str) = some (.ref fa) := by
        have e : (HandSHeadRun.topDef (OpenLaw.row PySem.Challenge.rw_oncefolded_k00_formulas).prog 37).name = ("law" : PySem.Str) := by kernel_rfl
        rw [← e]
        exact hmg0
      obtain ⟨fd, hb, hF⟩ := Ver.factsL (P := (PySem.Challenge.rw_oncefolded_k00_formulas).prog) (w := w) KX G hmg c
      refine ⟨K, KX, fd, Ver.tfL.map (He.cT K), Ver.spLaw K (He.cT K ("is_switches", none)).2 (He.cT K ("_is_name", none)).2, fun p hp => ?_, fun p hp => ?_, fun p hp => ?_, hb, fun H a ns hl hbits hT hS => ?_, hF⟩
      · obtain ⟨q, hq, rfl⟩ := List.mem_map.mp hp
        exact c.empty q hq
      · obtain ⟨q, hq, rfl⟩ := List.mem_map.mp hp
        exact c.out q hq
      · obtain ⟨q, hq, rfl⟩ := List.mem_map.mp hp
        exact codeHd_of_K KX (c.hd q hq)
      · refine ⟨a, ns, rfl, hS, ⟨#[], hT _ (List.mem_map.mpr ⟨("is_switches", none), by simp [Ver.tfL], rfl⟩), trivial⟩, ⟨#[], hT _ (List.mem_map.mpr ⟨("_is_name", none), by simp [Ver.tfL], rfl⟩), trivial⟩, fun _ => rfl⟩
    case hCX => exact fun w H s e s1 hh => (let ⟨_, _, _, _, _, _, _, _, _, _, _, _, z⟩ := hh; z)

