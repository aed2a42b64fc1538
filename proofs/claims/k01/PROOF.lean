import PyProof.Rows.All
import Wide.All
import OpenK.AllK
import Wide.FinOn
import HandS.Base
import HandS.Call
import HandS.List
import HandS.Comp
import HandS.Ends
import HandS.Words
import HandS.WordsList
import HandS.Wide
import HandS.Codes
import HandS.Strs
import HandS.Rev
import HandS.RevRange
import HandS.Walk
import HandS.Conv
import HandS.IsInst
import HandS.FStr
import HandS.TupLe
import HandS.TupAny
import PyProof.StrLaws
import KE.KStateDown
import KE.KNestM
import HandS.More
import HandS.WordsExc
import HandS.Defaults
import HandS.Head0
import HandS.Head1
import HandS.Head2
import HandS.HeadEnd
import HandS.HeadHook1
import HandS.HeadHook2
import HandS.HeadHook3
import HandS.HeadHook4
import HandS.HeadWalk
import HandS.EndTab
import PySem.Challenge.RW_oncefolded_k01_whole_diagrams
set_option Elab.async false
set_option linter.all false
set_option maxRecDepth 100000
set_option maxHeartbeats 1500000
/-! ## What is the same in every program: heaps that keep, data -/
namespace Ver
open PySem L2
/-- all that was tracked is as it was, but for the list at t -/
def But (t : Addr) (H H' : Hp) : Prop := ∀ b o, b ≠ t → H b = some o → H' b = some o
theorem But.refl {t : Addr} (H : Hp) : But t H H := fun _ _ _ h => h
theorem But.trans {t : Addr} {H H1 H2 : Hp} (a : But t H H1) (b : But t H1 H2) : But t H H2 := fun c o n h => b c o n (a c o n h)
theorem But.of {t : Addr} {H H' : Hp} (a : Same H H') : But t H H' := fun c o _ h => a c o h
theorem But.wr {t : Addr} {H : Hp} {o : HO} : But t H (upd H t o) := fun b u n h => by rw [upd_ne n]; exact h
theorem same_new {H : Hp} {p : Addr} (h : H p = none) (o : HO) : Same H (upd H p o) := fun b u q => by rw [upd_ne (ne_of_none q h)]; exact q
theorem But.seq {K : PySem.W.Frag} {t : Addr} {H H' : Hp} {a : Addr} {xs : List V} (e : But t H H') (n : a ≠ t) (h : SqL K H a xs) : SqL K H' a xs := by
  rcases h with (h | ⟨o, h⟩) | h
  · exact .inl (.inl (e _ _ n h))
  · exact .inl (.inr ⟨o, e _ _ n h⟩)
  · exact .inr h
theorem But.free {t : Addr} {H H' : Hp} (e : But t H H') {l : Addr} (n : l ≠ t) (h : H' l = none) : H l = none := by
  cases q : H l with
  | none => rfl
  | some o =>
    rw [e l o n q] at h
    cases h
theorem room5 {n : Nat} (h : n ≤ 1000) : n ≤ sizeLine := Nat.le_of_lt (small1000 h)
theorem But.put {t D : Addr} {H H' : Hp} {o : HO} (e : But t H H') (h : H D = none) : But t H (upd H' D o) := fun b u n q => by
  rw [upd_ne (ne_of_none q h)]
  exact e b u n q
theorem same_put {D : Addr} {H H' : Hp} {o : HO} (e : Same H H') (h : H D = none) : Same H (upd H' D o) := fun b u q => by
  rw [upd_ne (ne_of_none q h)]
  exact e b u q
/-- the tape of a law: a list at t that holds the script's own copy, at l, and four numbers -/
structure Tape (H : Hp) (t l : Addr) : Prop where
  cells : ∃ ns : List Int, H l = some (.lst (ns.map V.int))
  head : ∃ p v s b : Int, 0 ≤ p ∧ H t = some (.lst [.ref l, .int p, .int v, .int s, .int b])
  ne : l ≠ t
theorem Tape.same {H H' : Hp} {t l : Addr} (h : Tape H t l) (e : Same H H') : Tape H' t l := by
  obtain ⟨⟨ns, h1⟩, ⟨p, v, s, b, h2, h3⟩, h4⟩ := h
  exact ⟨⟨ns, e _ _ h1⟩, ⟨p, v, s, b, h2, e _ _ h3⟩, h4⟩
theorem Tape.nt {H : Hp} {t l a : Addr} (h : Tape H t l) (q : H a = none) : a ≠ t := by
  obtain ⟨_, ⟨p, v, s, b, _, h1⟩, _⟩ := h
  exact fun e => ne_of_none h1 q e.symm
theorem Tape.nl {H : Hp} {t l a : Addr} (h : Tape H t l) (q : H a = none) : a ≠ l := by
  obtain ⟨⟨ns, h1⟩, _, _⟩ := h
  exact fun e => ne_of_none h1 q e.symm
theorem Tape.put {H : Hp} {t l a : Addr} {o : HO} (h : Tape H t l) (q1 : a ≠ t) (q2 : a ≠ l) : Tape (upd H a o) t l := by
  obtain ⟨⟨ns, h1⟩, ⟨p, v, s, b, h2, h3⟩, h4⟩ := h
  exact ⟨⟨ns, by rw [upd_ne fun e => q2 e.symm]; exact h1⟩, ⟨p, v, s, b, h2, by rw [upd_ne fun e => q1 e.symm]; exact h3⟩, h4⟩
end Ver

/-! ## Data: bools, ints, texts, tuples of data, as they stand in a heap -/
namespace Ver
open PySem L2
mutual
def Dv (H : Hp) : V → PyData → Prop
  | v, .none => v = .non
  | v, .bool b => v = .bl b
  | v, .int i => v = .int i
  | v, .str x => v = .str x
  | v, .tuple ds => ∃ a xs, v = .ref a ∧ H a = some (.tup xs) ∧ DvAll H xs ds
  | _, .list _ => False
  | _, .dict _ => False
def DvAll (H : Hp) : List V → List PyData → Prop
  | xs, [] => xs = []
  | xs, d :: ds => ∃ x r, xs = x :: r ∧ Dv H x d ∧ DvAll H r ds
end
/-- the tuples are as they were -/
def KeepT (H H' : Hp) : Prop := ∀ a xs, H a = some (.tup xs) → H' a = some (.tup xs)
theorem KeepT.of {H H' : Hp} (e : Same H H') : KeepT H H' := fun a _ h => e a _ h
theorem But.keepT {t l : Addr} {H H' : Hp} (e : But t H H') (h : Tape H t l) : KeepT H H' := fun a xs q => e a _ (fun z => by
  obtain ⟨_, ⟨p, v, s, b, _, h1⟩, _⟩ := h
  rw [z, h1] at q
  cases q) q
mutual
theorem Dv.keep {H H' : Hp} (e : KeepT H H') : ∀ (d : PyData) (v : V), Dv H v d → Dv H' v d
  | .none, _, h => h
  | .bool _, _, h => h
  | .int _, _, h => h
  | .str _, _, h => h
  | .tuple ds, _, h => by
    unfold Dv at h ⊢
    obtain ⟨a, xs, h1, h2, h3⟩ := h
    exact ⟨a, xs, h1, e _ _ h2, DvAll.keep e ds xs h3⟩
  | .list _, _, h => by unfold Dv at h; exact h.elim
  | .dict _, _, h => by unfold Dv at h; exact h.elim
theorem DvAll.keep {H H' : Hp} (e : KeepT H H') : ∀ (ds : List PyData) (xs : List V), DvAll H xs ds → DvAll H' xs ds
  | [], _, h => h
  | d :: ds, _, h => by
    unfold DvAll at h ⊢
    obtain ⟨x, r, h1, h2, h3⟩ := h
    exact ⟨x, r, h1, Dv.keep e d x h2, DvAll.keep e ds r h3⟩
end
mutual
theorem Dv.dp {K : PySem.W.Frag} {H : Hp} : ∀ (d : PyData) (v : V), Dv H v d → Dp K H v d
  | .none, _, h => by unfold Dv at h; subst h; exact .non
  | .bool _, _, h => by unfold Dv at h; subst h; exact .bl _
  | .int _, _, h => by unfold Dv at h; subst h; exact .int _
  | .str _, _, h => by unfold Dv at h; subst h; exact .str _
  | .tuple ds, _, h => by
    unfold Dv at h
    obtain ⟨a, xs, rfl, h2, h3⟩ := h
    exact .tup (SqT.of h2) (DvAll.dp ds xs h3)
  | .list _, _, h => by unfold Dv at h; exact h.elim
  | .dict _, _, h => by unfold Dv at h; exact h.elim
theorem DvAll.dp {K : PySem.W.Frag} {H : Hp} : ∀ (ds : List PyData) (xs : List V), DvAll H xs ds → DpAll K H xs ds
  | [], _, h => by unfold DvAll at h; subst h; exact .nil
  | d :: ds, _, h => by
    unfold DvAll at h
    obtain ⟨x, r, rfl, h2, h3⟩ := h
    exact .cons (Dv.dp d x h2) (DvAll.dp ds r h3)
end
theorem DvAll.get {H : Hp} : ∀ {ds : List PyData} {xs : List V} {j : Nat} {d : PyData}, DvAll H xs ds → ds[j]? = some d → ∃ x, xs[j]? = some x ∧ Dv H x d
  | [], _, _, _, _, e => by simp at e
  | d0 :: ds, _, 0, d, h, e => by
    unfold DvAll at h
    obtain ⟨x, r, rfl, h2, _⟩ := h
    have : d0 = d := by simpa using e
    subst this
    exact ⟨x, rfl, h2⟩
  | d0 :: ds, _, j + 1, d, h, e => by
    unfold DvAll at h
    obtain ⟨x, r, rfl, _, h3⟩ := h
    obtain ⟨y, e1, e2⟩ := DvAll.get (j := j) (d := d) h3 (by simpa using e)
    exact ⟨y, by simpa using e1, e2⟩
theorem DvAll.length {H : Hp} : ∀ {ds : List PyData} {xs : List V}, DvAll H xs ds → xs.length = ds.length
  | [], _, h => by unfold DvAll at h; subst h; rfl
  | _ :: ds, _, h => by
    unfold DvAll at h
    obtain ⟨x, r, rfl, _, h3⟩ := h
    rw [List.length_cons, List.length_cons, DvAll.length h3]
theorem DvAll.append {H : Hp} : ∀ {ds es : List PyData} {xs ys : List V}, DvAll H xs ds → DvAll H ys es → DvAll H (xs ++ ys) (ds ++ es)
  | [], _, _, _, h, k => by unfold DvAll at h; subst h; exact k
  | _ :: ds, _, _, _, h, k => by
    unfold DvAll at h
    obtain ⟨x, r, rfl, h2, h3⟩ := h
    show DvAll H (x :: (r ++ _)) (_ :: (ds ++ _))
    unfold DvAll
    exact ⟨x, _, rfl, h2, DvAll.append h3 k⟩
theorem DvAll.take {H : Hp} : ∀ {ds : List PyData} {xs : List V} (n : Nat), DvAll H xs ds → DvAll H (xs.take n) (ds.take n)
  | _, _, 0, _ => by rw [List.take_zero, List.take_zero]; unfold DvAll; rfl
  | [], _, n + 1, h => by unfold DvAll at h; subst h; rw [List.take_nil, List.take_nil]; unfold DvAll; rfl
  | _ :: ds, _, n + 1, h => by
    unfold DvAll at h
    obtain ⟨x, r, rfl, h2, h3⟩ := h
    rw [List.take_succ_cons, List.take_succ_cons]
    unfold DvAll
    exact ⟨x, _, rfl, h2, DvAll.take n h3⟩
theorem DvAll.nil {H : Hp} : DvAll H [] [] := by unfold DvAll; rfl
theorem DvAll.cons {H : Hp} {x : V} {xs : List V} {d : PyData} {ds : List PyData} (a : Dv H x d) (b : DvAll H xs ds) : DvAll H (x :: xs) (d :: ds) := by
  unfold DvAll
  exact ⟨x, xs, rfl, a, b⟩
theorem Dv.tup {H : Hp} {a : Addr} {xs : List V} {ds : List PyData} (h : H a = some (.tup xs)) (k : DvAll H xs ds) : Dv H (.ref a) (.tuple ds) := by
  unfold Dv
  exact ⟨a, xs, rfl, h, k⟩
theorem Dv.of_tup {H : Hp} {v : V} {ds : List PyData} (h : Dv H v (.tuple ds)) : ∃ a xs, v = .ref a ∧ H a = some (.tup xs) ∧ DvAll H xs ds := by
  unfold Dv at h
  exact h
theorem Dv.of_bool {H : Hp} {v : V} {b : Bool} (h : Dv H v (.bool b)) : v = .bl b := by unfold Dv at h; exact h
theorem Dv.of_int {H : Hp} {v : V} {b : Int} (h : Dv H v (.int b)) : v = .int b := by unfold Dv at h; exact h
theorem Dv.of_str {H : Hp} {v : V} {b : Str} (h : Dv H v (.str b)) : v = .str b := by unfold Dv at h; exact h
theorem Dv.bool {H : Hp} {b : Bool} : Dv H (.bl b) (.bool b) := by unfold Dv; rfl
theorem Dv.int {H : Hp} {b : Int} : Dv H (.int b) (.int b) := by unfold Dv; rfl
theorem Dv.str {H : Hp} {b : Str} : Dv H (.str b) (.str b) := by unfold Dv; rfl
theorem Dv.non {H : Hp} : Dv H .non .none := by unfold Dv; rfl
/-- the class of a datum -/
def dTy : PyData → String
  | .none => "NoneType" | .bool _ => "bool" | .int _ => "int" | .str _ => "str" | .tuple _ => "tuple" | .list _ => "list" | .dict _ => "dict"
theorem Dv.ty {K : PySem.W.Frag} {H : Hp} : ∀ {d : PyData} {v : V}, Dv H v d → TyX K H v (.type (dTy d))
  | .none, _, h => by unfold Dv at h; subst h; exact .base .non
  | .bool _, _, h => by unfold Dv at h; subst h; exact .base (.bl _)
  | .int _, _, h => by unfold Dv at h; subst h; exact .base (.int _)
  | .str _, _, h => by unfold Dv at h; subst h; exact .base (.str _)
  | .tuple ds, _, h => by
    unfold Dv at h
    obtain ⟨a, xs, rfl, h2, h3⟩ := h
    exact .base (.tup h2)
  | .list _, _, h => by unfold Dv at h; exact h.elim
  | .dict _, _, h => by unfold Dv at h; exact h.elim
def isTup : PyData → Bool
  | .tuple _ => true
  | _ => false
def isBool : PyData → Bool
  | .bool _ => true
  | _ => false
def isInt : PyData → Bool
  | .int _ => true
  | .bool _ => true
  | _ => false
def isStr : PyData → Bool
  | .str _ => true
  | _ => false
theorem kit_tup {K : PySem.W.Frag} (d : PyData) : PySem.W.kitOne K (.type (dTy d)) (.type "tuple") = some (isTup d) := by cases d <;> simp only [dTy, isTup] <;> exact kit_ty (by decide +kernel)
theorem kit_bool {K : PySem.W.Frag} (d : PyData) : PySem.W.kitOne K (.type (dTy d)) (.type "bool") = some (isBool d) := by cases d <;> simp only [dTy, isBool] <;> exact kit_ty (by decide +kernel)
theorem kit_int {K : PySem.W.Frag} (d : PyData) : PySem.W.kitOne K (.type (dTy d)) (.type "int") = some (isInt d) := by cases d <;> simp only [dTy, isInt] <;> exact kit_ty (by decide +kernel)
theorem kit_str {K : PySem.W.Frag} (d : PyData) : PySem.W.kitOne K (.type (dTy d)) (.type "str") = some (isStr d) := by cases d <;> simp only [dTy, isStr] <;> exact kit_ty (by decide +kernel)
/-- what the slots of a def hold, as data -/
def EnvOk (σ : St) (H : Hp) (env : List (Nat × PyData)) : Prop := ∀ i d, (i, d) ∈ env → ∃ v, σ[i]? = some (some v) ∧ Dv H v d
theorem EnvOk.same {σ : St} {H H' : Hp} {env : List (Nat × PyData)} (h : EnvOk σ H env) (e : Same H H') : EnvOk σ H' env := fun i d m => by
  obtain ⟨v, h1, h2⟩ := h i d m
  exact ⟨v, h1, Dv.keep (KeepT.of e) d v h2⟩
/-- an expression that gives a datum, and lays new tuples alone -/
structure PD (X : Cx) (e : Expr) (env : List (Nat × PyData)) (d : PyData) : Prop where
  pe : PE X e (fun σ H Q => EnvOk σ H env ∧ ∀ v H', Same H H' → Dv H' v d → Q v H')
structure PDs (X : Cx) (es : List Expr) (env : List (Nat × PyData)) (ds : List PyData) : Prop where
  pa : PA X es (fun σ H Q => EnvOk σ H env ∧ ∀ xs H', Same H H' → DvAll H' xs ds → Q xs H')
/-- one reading given by another -/
theorem PE.weak {X : Cx} {e : Expr} {t u : TE} (h : PE X e t) (k : ∀ σ H Q, u σ H Q → t σ H Q) : PE X e u := ⟨fun pins s σ H Q I q => h.run pins s σ H Q I (k σ H Q q)⟩
theorem PT.weak {X : Cx} {e : Expr} {t u : TT} (h : PT X e t) (k : ∀ σ H Q, u σ H Q → t σ H Q) : PT X e u := ⟨fun pins s σ H Q I q => h.run pins s σ H Q I (k σ H Q q)⟩
theorem PA.weak {X : Cx} {es : List Expr} {t u : TA} (h : PA X es t) (k : ∀ σ H Q, u σ H Q → t σ H Q) : PA X es u := ⟨fun pos pins s σ H Q I q => h.run pos pins s σ H Q I (k σ H Q q)⟩
section
variable {X : Cx} {env : List (Nat × PyData)}
theorem pd_int {i j pos} : PD X (.Constant (.int i) j pos) env (.int i) := ⟨PE.weak pe_int fun _ H _ q => q.2 _ H (Same.refl H) Dv.int⟩
theorem pd_bl {b j pos} : PD X (.Constant (.bool b) j pos) env (.bool b) := ⟨PE.weak pe_bl fun _ H _ q => q.2 _ H (Same.refl H) Dv.bool⟩
theorem pd_str {x j pos} : PD X (.Constant (.str x) j pos) env (.str x) := ⟨PE.weak pe_str fun _ H _ q => q.2 _ H (Same.refl H) Dv.str⟩
theorem pd_non {j pos} : PD X (.Constant .none j pos) env .none := ⟨PE.weak pe_non fun _ H _ q => q.2 _ H (Same.refl H) Dv.non⟩
theorem pd_neg {i : Int} {j pos pos2} : PD X (.UnaryOp .USub (.Constant (.int i) j pos) pos2) env (.int (-i)) := ⟨PE.weak (pe_un un_neg pe_int) fun _ H _ q => ⟨_, rfl, q.2 _ H (Same.refl H) Dv.int⟩⟩
theorem pd_v (i : Nat) {d : PyData} {x : Str} {pos : Pos} (h : PE X (.Name x pos) (tVar i)) (m : (i, d) ∈ env) : PD X (.Name x pos) env d := ⟨PE.weak h fun σ H Q q => by
  obtain ⟨v, h1, h2⟩ := q.1 i d m
  exact ⟨v, h1, q.2 v H (Same.refl H) h2⟩⟩
theorem pds_nil : PDs X [] env [] := ⟨PA.weak pa_nil fun _ H _ q => q.2 [] H (Same.refl H) DvAll.nil⟩
theorem pds_cons {e : Expr} {es : List Expr} {d : PyData} {ds : List PyData} (a : PD X e env d) (b : PDs X es env ds) (hs : starEach (e :: es) X.env = (false, eval e X.env) :: starEach es X.env := by rfl) : PDs X (e :: es) env (d :: ds) :=
  ⟨PA.weak (pa_cons a.pe b.pa hs) fun σ H Q q => ⟨q.1, fun v H1 g1 h1 => ⟨q.1.same g1, fun xs H2 g2 h2 => q.2 _ H2 (g1.trans g2) (DvAll.cons (Dv.keep (KeepT.of g2) d v h1) h2)⟩⟩⟩
theorem pd_tup {es : List Expr} {ds : List PyData} {x1 pos} (h : PDs X es env ds) (hl : ds.length ≤ 1000) : PD X (.Tuple es x1 pos) env (.tuple ds) :=
  ⟨PE.weak (pe_tup h.pa) fun σ H Q q => ⟨q.1, fun xs H1 g1 h1 => ⟨by rw [h1.length]; exact room5 hl, fun p hp => q.2 _ _ (g1.trans (same_new hp _)) (Dv.tup upd_same (DvAll.keep (KeepT.of (same_new hp _)) _ _ h1))⟩⟩⟩
theorem pd_ix {a : Expr} {ds : List PyData} {d : PyData} {i j : Nat} {p1 pos} (h : PD X a env (.tuple ds)) (e : ds[i]? = some d) (hs : PlainIx (Expr.Constant (.int i) j p1) := by exact fun _ _ => rfl) : PD X (.Subscript a (.Constant (.int i) j p1) pos) env d :=
  ⟨PE.weak (pe_ix ix_tup h.pe pe_int hs) fun σ H Q q => ⟨q.1, fun v H1 g1 h1 => by
    obtain ⟨b, xs, rfl, h2, h3⟩ := Dv.of_tup h1
    obtain ⟨x, e1, e2⟩ := DvAll.get h3 e
    exact ⟨b, xs, _, x, rfl, rfl, SqT.of h2, at_of rfl e1, q.2 x H1 g1 e2⟩⟩⟩
/-- a list of data -/
theorem pe_lstD {es : List Expr} {ds : List PyData} {pos} (h : PDs X es env ds) (hl : ds.length ≤ 1000) : PE X (.List es pos) (fun σ H Q => EnvOk σ H env ∧ ∀ p xs H', H p = none → Same H H' → H' p = some (.lst xs) → DvAll H' xs ds → Q (.ref p) H') :=
  PE.weak (pe_lst h.pa) fun σ H Q q => ⟨q.1, fun xs H1 g1 h1 => ⟨by rw [h1.length]; exact room5 hl, fun p hp => q.2 p xs _ (g1.free hp) (g1.trans (same_new hp _)) upd_same (DvAll.keep (KeepT.of (same_new hp _)) _ _ h1)⟩⟩
/-- d + (..) -/
theorem pd_cat {a b : Expr} {ds es : List PyData} {pos} (h : PD X a env (.tuple ds)) (k : PD X b env (.tuple es)) (h0 : ds ≠ []) (k0 : es ≠ []) (hl : ds.length + es.length ≤ 1000) : PD X (.BinOp a .Add b pos) env (.tuple (ds ++ es)) :=
  ⟨PE.weak (pe_op op_catT h.pe k.pe) fun σ H Q q => ⟨q.1, fun v H1 g1 h1 => ⟨q.1.same g1, fun u H2 g2 h2 => by
    obtain ⟨a1, xs, rfl, e1, e2⟩ := Dv.of_tup h1
    obtain ⟨a2, ys, rfl, e3, e4⟩ := Dv.of_tup h2
    refine ⟨a1, a2, xs, ys, rfl, rfl, SqT.of (g2 _ _ e1), SqT.of e3, ?_, ?_, ?_, fun _ p hp => ?_⟩
    · rintro rfl
      have := e2.length
      cases ds with
      | nil => exact h0 rfl
      | cons _ _ => cases this
    · rw [e2.length, e4.length]
      exact room5 hl
    · rintro rfl
      have := e4.length
      cases es with
      | nil => exact absurd rfl k0
      | cons _ _ => cases this
    · exact q.2 _ _ ((g1.trans g2).trans (same_new hp _)) (Dv.tup upd_same (DvAll.keep (KeepT.of (same_new hp _)) _ _ (DvAll.append (DvAll.keep (KeepT.of g2) _ _ e2) e4)))⟩⟩⟩
end
end Ver
namespace Ver
open PySem L2
section
variable {X : Cx} {env : List (Nat × PyData)}
/-- d[:n], n below the length -/
theorem pd_take {a : Expr} {ds : List PyData} {n j : Nat} {p1 p2 pos} (h : PD X a env (.tuple ds)) (hl : n < ds.length) : PD X (.Subscript a (.Slice none (some (.Constant (.int n) j p1)) none p2) pos) env (.tuple (ds.take n)) :=
  ⟨PE.weak (pe_slice sl_tup h.pe po_none (po_some pe_int)) fun σ H Q q => ⟨q.1, fun v H1 g1 h1 => by
    obtain ⟨b, xs, rfl, h2, h3⟩ := Dv.of_tup h1
    have e := h3.length
    refine ⟨_, rfl, b, xs, rfl, SqT.of h2, ?_, fun p hp => ?_⟩
    · rw [HT.sIx_nat]
      omega
    · refine q.2 _ _ (g1.trans (same_new hp _)) (Dv.tup upd_same (DvAll.keep (KeepT.of (same_new hp _)) _ _ ?_))
      have ec : cutV xs none (some (n : Int)) = xs.take n := by
        show (xs.drop 0).take (HT.sIx xs.length xs.length (some (n : Int)) - 0) = xs.take n
        rw [HT.sIx_nat, List.drop_zero, Nat.min_eq_left (by omega)]
        rfl
      rw [ec]
      exact DvAll.take n h3⟩⟩
/-- a + b, any two tuples -/
theorem pd_catA {a b : Expr} {ds es : List PyData} {pos} (h : PD X a env (.tuple ds)) (k : PD X b env (.tuple es)) (hl : ds.length + es.length ≤ 1000) : PD X (.BinOp a .Add b pos) env (.tuple (ds ++ es)) :=
  ⟨PE.weak (pe_op op_catA h.pe k.pe) fun σ H Q q => ⟨q.1, fun v H1 g1 h1 => ⟨q.1.same g1, fun u H2 g2 h2 => by
    obtain ⟨a1, xs, rfl, e1, e2⟩ := Dv.of_tup h1
    obtain ⟨a2, ys, rfl, e3, e4⟩ := Dv.of_tup h2
    have l1 := e2.length
    have l2 := e4.length
    have e2' := DvAll.keep (KeepT.of g2) _ _ e2
    refine ⟨a1, a2, xs, ys, rfl, rfl, SqT.of (g2 _ _ e1), SqT.of e3, room5 (by omega), ?_, ?_, fun _ _ p hp => ?_⟩
    · rintro rfl
      have : ds = [] := List.length_eq_zero_iff.mp l1.symm
      subst this
      exact q.2 _ _ (g1.trans g2) (Dv.tup e3 e4)
    · rintro _ rfl
      have : es = [] := List.length_eq_zero_iff.mp l2.symm
      subst this
      rw [List.append_nil] at q
      exact q.2 _ _ (g1.trans g2) (Dv.tup (g2 _ _ e1) e2')
    · exact q.2 _ _ ((g1.trans g2).trans (same_new hp _)) (Dv.tup upd_same (DvAll.keep (KeepT.of (same_new hp _)) _ _ (DvAll.append e2' e4)))⟩⟩⟩
/-- a reading that holds for each of many, and is wanted for one -/
theorem PE.ex {ι : Type} {e : Expr} {t : ι → TE} (h : ∀ i, PE X e (t i)) : PE X e (fun σ H Q => ∃ i, t i σ H Q) := ⟨fun pins s σ H Q I ⟨i, q⟩ => (h i).run pins s σ H Q I q⟩
end
end Ver

/-! ## Rules of our own: xs.extend(a tuple), x is True of anything -/
namespace Ver
open PySem PySem.Spec PyProof.Rows L2
theorem meets_extend_tup (l b : Addr) (items : Array Value) (n : Nat) (its2 : Array Value) (hlong : ¬ (!items.isEmpty && Builtin.List.listTooLong (items.size + its2.size)) = true) (hs1 : items.size ≤ sizeLine) (hs2 : items.size + its2.size ≤ sizeLine + 1) :
    Meets (Builtin.«list.extend» ⟨[.ref l, .ref b], []⟩) (fun _ R s => s.heap.get? l = some { cls := .type "list", dict := none, data := .seq items n, slots := #[] } ∧ IsTup s.heap b its2 ∧ R (.ok (.ret Value.none)) { s with heap := s.heap.update l (Obj.mapSeq fun x => x ++ its2), toks := s.toks }) := by
  intro prog w A R s ⟨hl, ⟨o, ho, hc, n2, hd⟩, h⟩
  show wpAny _ A.in1 (Builtin.List.listExtendWith (.ref l) (.ref b) .none) _ _ s
  unfold Builtin.List.listExtendWith
  refine wpAny_bind (wpAny_typeOf ⟨o, ho, hc⟩ ?_)
  have h1 : (Builtin.List.listSameRef (.ref l) (.ref b) || Value.type "tuple" == Value.type "list" || Value.type "tuple" == Value.type "tuple") = true := by simp
  simp only [h1, if_true]
  refine wpAny_bind ?_
  unfold Builtin.List.listItems
  refine wpAny_bind (wpAny_seqItems ho hd (wpAny_pure ?_))
  refine wpAny_bind ?_
  refine wpAny_bind (wpAny_seqItems hl rfl (wpAny_pure ?_))
  rw [if_neg hlong]
  show wpAny _ A.in1 (updateSeq l (· ++ its2) >>= fun _ => ret .none) _ _ s
  refine wpAny_bind (wpAny_updateSeq hl rfl ?_ hs1 (by rw [Array.size_append]; exact hs2))
  exact wpAny_pure h
section
variable {X : Cx}
def rExtT (K : PySem.W.Frag) : V → List V → Hp → VK → Prop := fun x vs H Q => ∃ l b xs zs, x = .ref l ∧ vs = [.ref b] ∧ H l = some (.lst xs) ∧ SqT K H b zs ∧ xs.length + zs.length ≤ sizeLine ∧ Q .non (upd H l (.lst (xs ++ zs)))
theorem mt_extT : MtM X "list.extend" (rExtT X.K) := by
  intro pins s σ H x vs v us Q I rx rv h
  obtain ⟨l, b, xs, zs, rfl, rfl, hH, hB, hz, q⟩ := h
  cases rx
  obtain ⟨u, rfl, ru⟩ := rv.one
  cases ru
  obtain ⟨z, its, n, r, hl, e⟩ := I.lstM hH
  obtain ⟨its2, r2, e2, z2⟩ := I.tuple hB
  have hl2 := r2.length
  have hsz : its.toArray.size + its2.toArray.size ≤ sizeLine := by rw [List.size_toArray, List.size_toArray]; omega
  have hno : ¬ (!its.toArray.isEmpty && Builtin.List.listTooLong (its.toArray.size + its2.toArray.size)) = true := by
    rw [notLongL hsz, Bool.and_false]
    exact Bool.false_ne_true
  refine call_meets F.slot_list_extend ⟨_, e, rfl⟩ F.entry_list_extend (F.args_list_extend_2 _ _) (meets_extend_tup l b its.toArray n its2.toArray hno (by rw [List.size_toArray]; omega) (by omega)) ⟨e, e2, ?_⟩
  refine ⟨.non, _, I.lset (its' := its ++ its2) hH e (by simp) (r.append r2) ?_, rfl, q⟩
  rw [List.length_append]
  omega
/-- x is True, x is False: x a bool or any object -/
def isB (b : Bool) : V → Bool
  | .bl a => decide (a = b)
  | _ => false
theorem op_isAny : OpR X (compareOp .Is) (fun x y H Q => ∃ b, y = .bl b ∧ ((∃ a, x = .bl a) ∨ ∃ a, x = .ref a) ∧ Q (.bl (isB b x)) H) := by
  intro pins s σ H x y v u Q I rx ry h
  obtain ⟨b, rfl, hx, q⟩ := h
  cases (show u = Value.bool b from ry)
  rcases hx with ⟨a, rfl⟩ | ⟨a, rfl⟩
  · cases (show v = Value.bool a from rx)
    by_cases e : a = b
    · subst e
      refine wpAny_is_self rfl ⟨.bl true, H, I, rfl, ?_⟩
      have z : isB a (.bl a) = true := decide_eq_true rfl
      rwa [z] at q
    · refine wpAny_is_other rfl (fun z => e (Value.bool.inj z)) ⟨.bl false, H, I, rfl, ?_⟩
      have z : isB b (.bl a) = false := decide_eq_false e
      rwa [z] at q
  · cases (show v = Value.ref a from rx)
    exact wpAny_is_other rfl (fun z => nomatch z) ⟨.bl false, H, I, rfl, q⟩
end
end Ver
/-! ## Tuples whose object is known to have no dict: t.index(x) -/
namespace Ver
open PySem PySem.Spec PyProof.Rows L2
theorem same_tup {K : PySem.W.Frag} {H H' : Hp} {a : Addr} {xs : List V} (e : Same H H') (h : SqT K H a xs) : SqT K H' a xs := by
  rcases h with (h | ⟨o, h⟩) | h
  · exact .inl (.inl (e _ _ h))
  · exact .inl (.inr ⟨o, e _ _ h⟩)
  · exact .inr h
/-- the tuple of the switches: texts, an exact object without a dict -/
def SwT (H : Hp) (s : Addr) (sw : List Str) : Prop := ∃ o : Obj, o.cls = .type "tuple" ∧ o.dict = none ∧ H s = some (.frz o (.tup (sw.map V.str)))
theorem SwT.sq {K : PySem.W.Frag} {H : Hp} {s : Addr} {sw : List Str} (h : SwT H s sw) : SqT K H s (sw.map V.str) := by
  obtain ⟨o, _, _, h⟩ := h
  exact .inl (.inr ⟨o, h⟩)
theorem SwT.same {H H' : Hp} {s : Addr} {sw : List Str} (h : SwT H s sw) (e : Same H H') : SwT H' s sw := by
  obtain ⟨o, h1, h2, h⟩ := h
  exact ⟨o, h1, h2, e _ _ h⟩
theorem SwT.but {H H' : Hp} {s t l : Addr} {sw : List Str} (h : SwT H s sw) (e : But t H H') (T : Tape H t l) : SwT H' s sw := by
  obtain ⟨o, h1, h2, h⟩ := h
  refine ⟨o, h1, h2, e _ _ (fun z => ?_) h⟩
  obtain ⟨_, ⟨p, v, x, b, _, k⟩, _⟩ := T
  rw [z, k] at h
  cases h
section
variable {X : Cx}
theorem call_tuple_fz : CallR X (.type "tuple") (fun xs H Q => ∃ p ys, xs = [.ref p] ∧ SqL X.K H p ys ∧ ∀ (l : Addr) (o : Obj), o.cls = .type "tuple" → o.dict = none → H l = none → Q (.ref l) (upd H l (.frz o (.tup ys)))) := by
  intro pins s σ H xs us Q I r h
  obtain ⟨p, ys, rfl, hq, q⟩ := h
  obtain ⟨u, rfl, rx⟩ := vals1 r
  cases rx
  obtain ⟨its, r', pl, hz⟩ := I.list hq
  have hlen := r'.length
  refine call_tuple_list pl.isList (fun h' kp => ?_) (by simp only [List.size_toArray] <;> omega)
  have I1 : Inv X pins σ H { s with heap := h' } := I.kept (t' := s.toks) kp
  have I2 : Inv X pins σ (upd H h'.objs.size (.frz { cls := .type "tuple", data := .seq its.toArray } (.tup ys))) { s with heap := h'.push { cls := .type "tuple", data := .seq its.toArray } } :=
    I1.laid (t' := s.toks) (fun b o e => Heap.get?_push_of_some _ e) (Nat.le_refl _) ⟨Heap.get?_push_size _ rfl, hz, its, r', IsTup.new _ _⟩
  exact ⟨.ref h'.objs.size, _, I2, rfl, q _ _ rfl rfl (I1.hok.fresh (Nat.le_refl _))⟩
variable {e : Expr} {es : List Expr} {t : TA} {pos : Pos}
theorem pe_tup_fz {x1} (h : PA X es t) : PE X (.Tuple es x1 pos) (fun σ H Q => t σ H fun xs H1 => xs.length ≤ sizeLine ∧ ∀ (p : Addr) (o : Obj), o.cls = .type "tuple" → o.dict = none → H1 p = none → Q (.ref p) (upd H1 p (.frz o (.tup xs)))) := by
  refine ⟨fun pins s σ H Q I hw => wpAny_Tuple_spliced (thn (h.run pos pins s σ H _ I hw) fun us s1 ⟨xs, H1, I1, r, z, q⟩ => ⟨by rw [← r.length]; exact z, ?_⟩)⟩
  have nf : H1 s1.heap.objs.size = none := I1.hok.fresh (Nat.le_refl _)
  refine ⟨.ref s1.heap.objs.size, upd H1 s1.heap.objs.size (.frz { cls := .type "tuple", data := .seq us.toArray } (.tup xs)), I1.laid (t' := s1.toks) (fun b u e => Heap.get?_push_of_some _ e) (Nat.le_refl _) ?_, rfl, q _ _ rfl rfl nf⟩
  exact ⟨Heap.get?_push_size _ rfl, z, us, r, ⟨_, Heap.get?_push_size _ rfl, rfl, _, rfl⟩⟩
variable {o : Expr} {to : TE} {name : Str} {apos cpos : Pos} {id : String} {r : V → List V → Hp → VK → Prop}
theorem pe_bmT (slot : Slot "tuple" name id) (hty : typeOf (.builtin id) = pure (.type "method_descriptor")) (hm : MtR X id r) (ho : PE X o to) (ha : PA X (e :: es) t)
    (hbase : attributeBase o name X.env (eval o X.env) = eval o X.env := by rfl)
    (hfew : ((backTo cpos (starEach (e :: es) X.env)).all (fun x => !x.1) && (backToKw cpos (keywordEach [] X.env)).all (fun x => x.1.isSome)
      && decide ((e :: es).length + ([] : List Keyword).length + (if ([] : List Keyword).isEmpty then 0 else 1) < 30)) = true := by rfl)
    (hline : (apos.endLine == cpos.line) = true := by rfl) (hs : starEach (e :: es) X.env = (false, eval e X.env) :: starEach es X.env := by rfl) (hplain : (backTo cpos (starEach es X.env)).any (·.1) = false := by rfl) :
    PE X (.Call (.Attribute o name apos) (e :: es) [] cpos) (fun σ H Q => to σ H fun x H1 => (∃ (p : Addr) (ob : Obj) (ys : List V), x = .ref p ∧ H1 p = some (.frz ob (.tup ys)) ∧ ob.cls = .type "tuple" ∧ ob.dict = none) ∧ t σ H1 fun xs H2 => r x xs H2 Q) := by
  refine ⟨fun pins s σ H Q I h => ?_⟩
  refine wpAny_Call_method_late hbase hfew hline rfl (thn (ho.run pins s σ H _ I h) fun v s1 ⟨x, H1, I1, r1, ⟨p, ob, ys, hx, hp, hc, hd⟩, q1⟩ => ?_)
  subst hx
  cases (show v = Value.ref p from r1)
  obtain ⟨e1, _⟩ := (show ObjOk X.prog X.w H1 s1.heap p (.frz ob (.tup ys)) from I1.hok p _ hp)
  refine ⟨"tuple", id, PySem.F.plainAttrs_tuple, slot, hty, ⟨ob, e1, hc⟩, (fun a z => by cases z; exact ⟨ob, e1, hd⟩), ?_⟩
  have hA := ha.run cpos pins s1 σ H1 _ I1 q1
  rw [hs] at hA ⊢
  refine Calls.callWith_builtin (by show (false || (backTo cpos (starEach es X.env)).any (·.1)) = false; rw [hplain] <;> rfl) (Calls.evalArgs_plain ?_)
  exact thn hA fun us s2 ⟨vs, H2, I2, r2, q2⟩ => hm pins s2 σ H2 (.ref p) vs (.ref p) us Q I2 rfl r2 q2
end
end Ver

/-! ## Diagrams: the mathematics -/
namespace Ver
open PySem L2
inductive Dg where
  | leaf (b : Bool)
  | node (i : Nat) (lo hi : Dg)
  deriving DecidableEq
namespace Dg
def toD : Dg → PyData
  | leaf b => .bool b
  | node i lo hi => .tuple [.int (i : Int), toD lo, toD hi]
theorem eqv_toD : ∀ a b : Dg, PyData.eqv (toD a) (toD b) = decide (a = b)
  | leaf a, leaf b => by cases a <;> cases b <;> decide
  | leaf a, node i lo hi => by simp [toD, PyData.eqv]
  | node i lo hi, leaf b => by simp [toD, PyData.eqv]
  | node i a b, node j c d => by
    have h1 := eqv_toD a c
    have h2 := eqv_toD b d
    simp only [toD, PyData.eqv, PyData.eqvAll, h1, h2, Bool.and_true]
    by_cases e1 : i = j <;> by_cases e2 : a = c <;> by_cases e3 : b = d <;> simp [e1, e2, e3, Int.natCast_inj]
/-- indexes from l on, below n, ascending; parts that differ -/
def Fit (n : Nat) : Nat → Dg → Prop
  | _, leaf _ => True
  | l, node i lo hi => l ≤ i ∧ i < n ∧ lo ≠ hi ∧ Fit n (i + 1) lo ∧ Fit n (i + 1) hi
theorem Fit.mono {n m : Nat} (hn : n ≤ m) : ∀ {d : Dg} {l k : Nat}, k ≤ l → Fit n l d → Fit m k d
  | leaf _, _, _, _, _ => True.intro
  | node i lo hi, l, k, hl, h => ⟨by have := h.1; omega, by have := h.2.1; omega, h.2.2.1, Fit.mono hn (Nat.le_refl _) h.2.2.2.1, Fit.mono hn (Nat.le_refl _) h.2.2.2.2⟩
def ht : Dg → Nat
  | leaf _ => 0
  | node _ lo hi => max (ht lo) (ht hi) + 1
theorem Fit.ht {n : Nat} : ∀ {d : Dg} {l : Nat}, Fit n l d → ht d + l ≤ max n l
  | leaf _, l, _ => by show 0 + l ≤ _; omega
  | node i lo hi, l, h => by
    have h1 := Fit.ht h.2.2.2.1
    have h2 := Fit.ht h.2.2.2.2
    have h3 := h.1
    have h4 := h.2.1
    show max (Dg.ht lo) (Dg.ht hi) + 1 + l ≤ _
    omega
theorem shaped {d : Dg} (h : ht d ≤ 30) : SeqAt.shaped (toD d) = true := by
  have h1 : ∀ d : Dg, (toD d).canLay0 = true := by
    intro d
    induction d with
    | leaf b => simp [toD, PyData.canLay0]
    | node i lo hi a b => simp [toD, PyData.canLay0, PyData.canLayAll0, a, b]
  have h2 : ∀ d : Dg, (toD d).depth = ht d := by
    intro d
    induction d with
    | leaf b => simp [toD, PyData.depth, ht]
    | node i lo hi a b => simp [toD, PyData.depth, PyData.depthAll, ht, a, b]
  unfold SeqAt.shaped
  rw [h1, h2]
  simp
  omega
theorem isTup_toD (d : Dg) : isTup (toD d) = match d with | leaf _ => false | node .. => true := by cases d <;> rfl
theorem isBool_toD (d : Dg) : isBool (toD d) = match d with | leaf _ => true | node .. => false := by cases d <;> rfl
def fork (i : Nat) (lo hi : Dg) : Dg := if lo = hi then lo else node i lo hi
theorem fork_fit {n l i : Nat} {lo hi : Dg} (h0 : l ≤ i) (h1 : i < n) (h2 : Fit n (i + 1) lo) (h3 : Fit n (i + 1) hi) : Fit n l (fork i lo hi) := by
  unfold fork
  split
  · exact Fit.mono (Nat.le_refl n) (by omega) h2
  · exact ⟨h0, h1, by assumption, h2, h3⟩
/-- the diagram of a list of 2 ^ k truths, by the switches from i on -/
def mk : Nat → List Bool → Nat → Dg
  | 0, bits, _ => leaf (bits.headD false)
  | k + 1, bits, i => fork i (mk k (bits.take (2 ^ k)) (i + 1)) (mk k (bits.drop (2 ^ k)) (i + 1))
theorem mk_fit : ∀ (k : Nat) (bits : List Bool) (i : Nat), Fit (i + k) i (mk k bits i)
  | 0, _, _ => True.intro
  | k + 1, bits, i => fork_fit (Nat.le_refl _) (by omega) (by have := mk_fit k (bits.take (2 ^ k)) (i + 1); rwa [show i + 1 + k = i + (k + 1) by omega] at this)
      (by have := mk_fit k (bits.drop (2 ^ k)) (i + 1); rwa [show i + 1 + k = i + (k + 1) by omega] at this)
/-- the written form -/
def wr (sw : List Str) : Dg → Str
  | leaf b => if b then "1" else "0"
  | node i lo hi =>
    sw.getD i "" ++ "?" ++ (match hi with | leaf _ => wr sw hi | node .. => "(" ++ wr sw hi ++ ")") ++ ":" ++ (match lo with | leaf _ => wr sw lo | node .. => "(" ++ wr sw lo ++ ")")
def wi (sw : List Str) : Dg → Str
  | leaf b => wr sw (leaf b)
  | node i lo hi => "(" ++ wr sw (node i lo hi) ++ ")"
theorem wr_node (sw : List Str) (i : Nat) (lo hi : Dg) : wr sw (node i lo hi) = sw.getD i "" ++ "?" ++ wi sw hi ++ ":" ++ wi sw lo := by
  cases lo <;> cases hi <;> rfl
theorem wi_len (sw : List Str) : ∀ d : Dg, (wi sw d).length ≤ (wr sw d).length + 2
  | leaf b => Nat.le_add_right _ _
  | node i lo hi => by
    show ("(" ++ wr sw (node i lo hi) ++ ")" : Str).length ≤ _
    rw [Str.length_append, Str.length_append]
    show 1 + _ + 1 ≤ _
    omega
theorem wr_len {sw : List Str} (h : ∀ x ∈ sw, x.length ≤ 6) : ∀ d : Dg, (wr sw d).length + 12 ≤ 13 * 2 ^ ht d
  | leaf b => by
    show (if b then "1" else "0" : Str).length + 12 ≤ 13 * 2 ^ 0
    cases b <;> decide
  | node i lo hi => by
    have h1 := wr_len h lo
    have h2 := wr_len h hi
    have h3 := wi_len sw lo
    have h4 := wi_len sw hi
    have h5 : (sw.getD i "").length ≤ 6 := by
      by_cases e : i < sw.length
      · rw [List.getD_eq_getElem?_getD, List.getElem?_eq_getElem e]
        exact h _ (List.getElem_mem e)
      · rw [List.getD_eq_getElem?_getD, List.getElem?_eq_none (by omega)]
        decide
    rw [wr_node]
    simp only [Str.length_append]
    have e1 : ("?" : Str).length = 1 := rfl
    have e2 : (":" : Str).length = 1 := rfl
    rw [e1, e2]
    have p1 : 2 ^ ht lo ≤ 2 ^ max (ht lo) (ht hi) := Nat.pow_le_pow_right (by omega) (Nat.le_max_left _ _)
    have p2 : 2 ^ ht hi ≤ 2 ^ max (ht lo) (ht hi) := Nat.pow_le_pow_right (by omega) (Nat.le_max_right _ _)
    show _ ≤ 13 * 2 ^ (max (ht lo) (ht hi) + 1)
    rw [Nat.pow_succ]
    omega
end Dg
/-- is_diagram, from an index on, with a number of calls -/
def isDg : Nat → PyData → Int → Int → Bool
  | 0, _, _, _ => false
  | n + 1, d, l, c => match d with
    | .bool _ => true
    | .tuple [.int i, lo, hi] => decide (l ≤ i) && decide (i < c) && isDg n lo (i + 1) c && isDg n hi (i + 1) c && !PyData.eqv lo hi
    | _ => false
theorem isDg_fit {c : Nat} : ∀ (n : Nat) {d : Dg} {l : Nat}, d.Fit c l → c < n + l → l ≤ c → isDg n d.toD l c = true
  | 0, d, l, h, hn, hl => by omega
  | n + 1, .leaf b, l, h, hn, hl => rfl
  | n + 1, .node i lo hi, l, h, hn, hl => by
    have h1 := isDg_fit n (d := lo) (l := i + 1) h.2.2.2.1 (by have := h.1; omega) h.2.1
    have h2 := isDg_fit n (d := hi) (l := i + 1) h.2.2.2.2 (by have := h.1; omega) h.2.1
    show (decide ((l : Int) ≤ (i : Int)) && decide ((i : Int) < (c : Int)) && isDg n lo.toD ((i : Int) + 1) c && isDg n hi.toD ((i : Int) + 1) c && !PyData.eqv lo.toD hi.toD) = true
    rw [Dg.eqv_toD, decide_eq_true (show (l : Int) ≤ (i : Int) by have := h.1; omega), decide_eq_true (show (i : Int) < (c : Int) by have := h.2.1; omega), decide_eq_false h.2.2.1]
    rw [show ((i : Int) + 1) = ((i + 1 : Nat) : Int) by omega, h1, h2]
    rfl
/-- what is_diagram takes is a diagram (so its data may be compared) -/
theorem isDg_dg {c : Int} : ∀ (n : Nat) {d : PyData} {l : Int}, isDg n d l c = true → 0 ≤ l → ∃ g : Dg, d = g.toD ∧ g.ht ≤ n
  | 0, d, l, h, _ => by cases h
  | n + 1, .bool b, l, h, _ => ⟨.leaf b, rfl, Nat.zero_le _⟩
  | n + 1, .tuple [.int i, lo, hi], l, h, h0 => by
    have h' : (decide (l ≤ i) && decide (i < c) && isDg n lo (i + 1) c && isDg n hi (i + 1) c && !PyData.eqv lo hi) = true := h
    simp only [Bool.and_eq_true, decide_eq_true_eq] at h'
    obtain ⟨⟨⟨⟨h1, h2⟩, h3⟩, h4⟩, h5⟩ := h'
    obtain ⟨a, rfl, ha⟩ := isDg_dg n h3 (by omega)
    obtain ⟨b, rfl, hb⟩ := isDg_dg n h4 (by omega)
    refine ⟨.node i.toNat a b, ?_, ?_⟩
    · show _ = PyData.tuple [.int ((i.toNat : Nat) : Int), a.toD, b.toD]
      rw [show ((i.toNat : Nat) : Int) = i by omega]
    · show max a.ht b.ht + 1 ≤ n + 1
      omega
  | n + 1, .none, l, h, _ => by cases h
  | n + 1, .int _, l, h, _ => by cases h
  | n + 1, .str _, l, h, _ => by cases h
  | n + 1, .list _, l, h, _ => by cases h
  | n + 1, .dict _, l, h, _ => by cases h
  | n + 1, .tuple [], l, h, _ => by cases h
  | n + 1, .tuple [_], l, h, _ => by simp [isDg] at h
  | n + 1, .tuple [_, _], l, h, _ => by simp [isDg] at h
  | n + 1, .tuple (_ :: _ :: _ :: _ :: _), l, h, _ => by simp [isDg] at h
  | n + 1, .tuple [.none, _, _], l, h, _ => by cases h
  | n + 1, .tuple [.bool _, _, _], l, h, _ => by cases h
  | n + 1, .tuple [.str _, _, _], l, h, _ => by cases h
  | n + 1, .tuple [.list _, _, _], l, h, _ => by cases h
  | n + 1, .tuple [.dict _, _, _], l, h, _ => by cases h
  | n + 1, .tuple [.tuple _, _, _], l, h, _ => by cases h
theorem isDg_len {n : Nat} {ds : List PyData} {l c : Int} (h : ds.length ≠ 3) : isDg (n + 1) (.tuple ds) l c = false := by
  match ds, h with
  | [], _ => rfl
  | [_], _ => simp [isDg]
  | [_, _], _ => simp [isDg]
  | [_, _, _], h => exact absurd rfl h
  | _ :: _ :: _ :: _ :: r, _ => simp [isDg]
theorem isDg_head {n : Nat} {i lo hi : PyData} {l c : Int} (h : ∀ k, i ≠ .int k) : isDg (n + 1) (.tuple [i, lo, hi]) l c = false := by
  match i, h with
  | .none, _ => rfl
  | .str _, _ => rfl
  | .list _, _ => rfl
  | .dict _, _ => rfl
  | .tuple _, _ => rfl
  | .bool _, _ => rfl
  | .int k, h => exact absurd rfl (h k)
theorem isInt_cases {i : PyData} (h : isInt i = true) (k : isBool i = false) : ∃ z, i = .int z := by
  match i, h, k with
  | .int z, _, _ => exact ⟨z, rfl⟩
theorem not_int_of {i : PyData} (h : isInt i = false) : ∀ k, i ≠ .int k := fun k e => by rw [e] at h; cases h
theorem not_int_of' {i : PyData} (h : isBool i = true) : ∀ k, i ≠ .int k := fun k e => by rw [e] at h; cases h
theorem b_of {b : Bool} (h : ¬ (!b) = true) : b = true := by
  cases b with
  | true => rfl
  | false => exact absurd rfl h
theorem b_of' {b : Bool} (h : (!b) = true) : b = false := by
  cases b with
  | true => cases h
  | false => rfl
theorem Dv.node {H : Hp} {v : V} {i : Nat} {lo hi : Dg} (h : Dv H v (Dg.node i lo hi).toD) : ∃ a x y, v = .ref a ∧ H a = some (.tup [.int i, x, y]) ∧ Dv H x lo.toD ∧ Dv H y hi.toD := by
  obtain ⟨a, xs, rfl, e1, e2⟩ := Dv.of_tup h
  unfold DvAll DvAll DvAll DvAll at e2
  obtain ⟨vi, _, rfl, h1, vlo, _, rfl, h2, vhi, _, rfl, h3, rfl⟩ := e2
  cases h1.of_int
  exact ⟨a, vlo, vhi, rfl, e1, h2, h3⟩
theorem Dg.mk_ht (k : Nat) (bits : List Bool) (i : Nat) : (Dg.mk k bits i).ht ≤ k := by
  have := (Dg.mk_fit k bits i).ht
  omega
end Ver

/-! ## Configurations: the mathematics -/
namespace Ver
open PySem L2
def confs : Nat → List (List Int)
  | 0 => [[]]
  | n + 1 => (confs n).flatMap fun r => [r ++ [0], r ++ [1]]
def confD (r : List Int) : PyData := .tuple (r.map PyData.int)
theorem confs_len : ∀ n, (confs n).length = 2 ^ n
  | 0 => rfl
  | n + 1 => by
    show ((confs n).flatMap fun r => [r ++ [0], r ++ [1]]).length = _
    have : ∀ l : List (List Int), (l.flatMap fun r => [r ++ [0], r ++ [1]]).length = 2 * l.length := by
      intro l
      induction l with
      | nil => rfl
      | cons a l ih => rw [List.flatMap_cons, List.length_append, ih, List.length_cons, List.length_cons, List.length_cons, List.length_nil]; omega
    rw [this, confs_len n, Nat.pow_succ]
    omega
theorem confs_row : ∀ n, ∀ r ∈ confs n, r.length = n ∧ ∀ b ∈ r, b = 0 ∨ b = 1
  | 0, r, h => by
    rw [List.mem_singleton.mp h]
    exact ⟨rfl, fun _ h => by cases h⟩
  | n + 1, r, h => by
    obtain ⟨q, hq, hr⟩ := List.mem_flatMap.mp h
    obtain ⟨k1, k2⟩ := confs_row n q hq
    have : ∃ b : Int, (b = 0 ∨ b = 1) ∧ r = q ++ [b] := by
      rcases List.mem_cons.mp hr with e | e
      · exact ⟨0, .inl rfl, e⟩
      · exact ⟨1, .inr rfl, List.mem_singleton.mp e⟩
    obtain ⟨b, hb, rfl⟩ := this
    refine ⟨by rw [List.length_append, k1]; rfl, fun c hc => ?_⟩
    rcases List.mem_append.mp hc with z | z
    · exact k2 c z
    · rw [List.mem_singleton.mp z]
      exact hb
theorem flatMap_take {α β : Type} (f : α → List β) (l : List α) {i : Nat} {x : α} (h : l[i]? = some x) : (l.take (i + 1)).flatMap f = (l.take i).flatMap f ++ f x := by
  rw [List.take_succ, h, List.flatMap_append]
  show _ ++ (f x ++ []) = _
  rw [List.append_nil]
theorem confs_take_len (n i : Nat) : (((confs n).take i).flatMap fun r => [r ++ [0], r ++ [1]]).length ≤ 2 * 2 ^ n := by
  have : ∀ l : List (List Int), (l.flatMap fun r => [r ++ [0], r ++ [1]]).length = 2 * l.length := by
    intro l
    induction l with
    | nil => rfl
    | cons a l ih => rw [List.flatMap_cons, List.length_append, ih, List.length_cons, List.length_cons, List.length_cons, List.length_nil]; omega
  rw [this, List.length_take, confs_len]
  have := Nat.min_le_right i (2 ^ n)
  omega
theorem pow32 {n : Nat} (h : n ≤ 5) : 2 ^ n ≤ 32 := by
  have : 2 ^ n ≤ 2 ^ 5 := Nat.pow_le_pow_right (by omega) h
  omega
end Ver

/-! ## Diagrams: where they hold, and that each set has one -/
namespace Ver
open PySem L2
theorem confs_two : ∀ n, confs (n + 1) = (confs n).map (fun r => (0 : Int) :: r) ++ (confs n).map (fun r => (1 : Int) :: r)
  | 0 => rfl
  | n + 1 => by
    show (confs (n + 1)).flatMap (fun r => [r ++ [0], r ++ [1]]) = _
    rw [confs_two n, List.flatMap_append]
    have e : ∀ (b : Int) (l : List (List Int)), (l.map fun r => b :: r).flatMap (fun r => [r ++ [0], r ++ [1]]) = (l.flatMap fun r => [r ++ [0], r ++ [1]]).map fun r => b :: r := by
      intro b l
      induction l with
      | nil => rfl
      | cons a l ih => rw [List.map_cons, List.flatMap_cons, ih, List.flatMap_cons, List.map_append]; rfl
    rw [e, e]
    have z : ((confs n).flatMap fun r => [r ++ [0], r ++ [1]]) = (confs n).map (fun r => (0 : Int) :: r) ++ (confs n).map (fun r => (1 : Int) :: r) := confs_two n
    rw [z]
theorem confs_nodup : ∀ n, (confs n).Nodup
  | 0 => by simp [confs]
  | n + 1 => by
    rw [confs_two]
    refine List.nodup_append.mpr ⟨?_, ?_, ?_⟩
    · exact List.Pairwise.map _ (fun a b h e => h (List.cons.inj e).2) (confs_nodup n)
    · exact List.Pairwise.map _ (fun a b h e => h (List.cons.inj e).2) (confs_nodup n)
    · intro a ha b hb e
      obtain ⟨x, _, rfl⟩ := List.mem_map.mp ha
      obtain ⟨y, _, rfl⟩ := List.mem_map.mp hb
      have := (List.cons.inj e).1
      omega
namespace Dg
/-- where a diagram holds, by the configuration's part from the index i on -/
def hold (i : Nat) : Dg → List Int → Bool
  | leaf b, _ => b
  | node j lo hi, c => if c.getD (j - i) 0 = 1 then hold i hi c else hold i lo c
theorem hold_cons {b : Int} {r : List Int} {n : Nat} : ∀ {d : Dg} {i : Nat}, Fit n (i + 1) d → hold i d (b :: r) = hold (i + 1) d r
  | leaf _, _, _ => rfl
  | node j lo hi, i, h => by
    have h1 := hold_cons (b := b) (r := r) (i := i) (h.2.2.2.1.mono (Nat.le_refl n) (show i + 1 ≤ j + 1 by have := h.1; omega))
    have h2 := hold_cons (b := b) (r := r) (i := i) (h.2.2.2.2.mono (Nat.le_refl n) (show i + 1 ≤ j + 1 by have := h.1; omega))
    have h3 : (b :: r).getD (j - i) 0 = r.getD (j - (i + 1)) 0 := by
      have := h.1
      rw [show j - i = (j - (i + 1)) + 1 by omega]
      rfl
    show (if (b :: r).getD (j - i) 0 = 1 then hold i hi (b :: r) else hold i lo (b :: r)) = (if r.getD (j - (i + 1)) 0 = 1 then hold (i + 1) hi r else hold (i + 1) lo r)
    rw [h1, h2, h3]
/-- what is left of a diagram where the switch i, at most its first one, is a bit -/
def half (i : Nat) (b : Bool) : Dg → Dg
  | leaf x => leaf x
  | node j lo hi => if j = i then (if b then hi else lo) else node j lo hi
theorem half_node {i j : Nat} {b : Bool} {lo hi : Dg} : half i b (node j lo hi) = if j = i then (if b then hi else lo) else node j lo hi := rfl
theorem half_fit {n i l : Nat} {b : Bool} : ∀ {d : Dg}, Fit n l d → (∀ j lo hi, d = node j lo hi → i ≤ j) → Fit n (i + 1) (half i b d)
  | leaf _, _, _ => True.intro
  | node j lo hi, h, k => by
    rw [half_node]
    have hj := k j lo hi rfl
    by_cases e : j = i
    · rw [if_pos e]
      subst e
      cases b
      · exact h.2.2.2.1
      · exact h.2.2.2.2
    · rw [if_neg e]
      exact ⟨by omega, h.2.1, h.2.2.1, h.2.2.2.1, h.2.2.2.2⟩
theorem hold_half {n i : Nat} {d : Dg} {b : Int} {r : List Int} (h : Fit n i d) (hb : b = 0 ∨ b = 1) : hold i d (b :: r) = hold (i + 1) (half i (decide (b = 1)) d) r := by
  cases d with
  | leaf x => rfl
  | node j lo hi =>
    have h' := h
    obtain ⟨h1, h2, h3, h4, h5⟩ := h
    rw [half_node]
    by_cases e : j = i
    · rw [if_pos e]
      subst e
      show (if (b :: r).getD (j - j) 0 = 1 then hold j hi (b :: r) else hold j lo (b :: r)) = _
      rw [Nat.sub_self]
      show (if b = 1 then _ else _) = _
      by_cases z : b = 1
      · rw [if_pos z, decide_eq_true z]
        exact hold_cons h5
      · rw [if_neg z, decide_eq_false z]
        exact hold_cons h4
    · rw [if_neg e]
      exact hold_cons (n := n) ⟨by omega, h2, h3, h4, h5⟩
theorem fork_half {n i : Nat} {d : Dg} (h : Fit n i d) : fork i (half i false d) (half i true d) = d := by
  cases d with
  | leaf x => show fork i (leaf x) (leaf x) = _; unfold fork; rw [if_pos rfl]
  | node j lo hi =>
    rw [half_node, half_node]
    unfold fork
    by_cases e : j = i
    · subst e
      simp [h.2.2.1]
    · simp [e]
/-- a fitting diagram is the one that is made from where it holds -/
theorem canon : ∀ (k : Nat) (d : Dg) (i : Nat), Fit (i + k) i d → mk k ((confs k).map (hold i d)) i = d
  | 0, leaf b, i, _ => rfl
  | 0, node j lo hi, i, h => by have := h.1; have := h.2.1; omega
  | k + 1, d, i, h => by
    have h' : Fit (i + 1 + k) i d := by rw [show i + 1 + k = i + (k + 1) by omega]; exact h
    have hk : ∀ b, Fit (i + 1 + k) (i + 1) (half i b d) := fun b => half_fit h' fun j lo hi e => by rw [e] at h'; exact h'.1
    show fork i (mk k (((confs (k + 1)).map (hold i d)).take (2 ^ k)) (i + 1)) (mk k (((confs (k + 1)).map (hold i d)).drop (2 ^ k)) (i + 1)) = d
    have e : (confs (k + 1)).map (hold i d) = (confs k).map (hold (i + 1) (half i false d)) ++ (confs k).map (hold (i + 1) (half i true d)) := by
      rw [confs_two, List.map_append, List.map_map, List.map_map]
      congr 1
      · exact List.map_congr_left fun r _ => hold_half h' (.inl rfl)
      · exact List.map_congr_left fun r _ => hold_half h' (.inr rfl)
    have l0 : ((confs k).map (hold (i + 1) (half i false d))).length = 2 ^ k := by rw [List.length_map, confs_len]
    rw [e, List.take_left' l0, List.drop_left' l0, canon k _ (i + 1) (hk false), canon k _ (i + 1) (hk true)]
    exact fork_half h'
theorem canon_eq {n : Nat} {d e : Dg} (hd : Fit n 0 d) (he : Fit n 0 e) (h : ∀ c ∈ confs n, hold 0 d c = hold 0 e c) : d = e := by
  have h1 := canon n d 0 (by rw [Nat.zero_add]; exact hd)
  have h2 := canon n e 0 (by rw [Nat.zero_add]; exact he)
  rw [← h1, ← h2, List.map_congr_left h]
/-- the diagram of a function -/
theorem mk_hold (n : Nat) (g : List Int → Bool) : ∀ c ∈ confs n, hold 0 (mk n ((confs n).map g) 0) c = g c := by
  have go : ∀ (k i : Nat) (g : List Int → Bool), ∀ c ∈ confs k, hold i (mk k ((confs k).map g) i) c = g c := by
    intro k
    induction k with
    | zero =>
      intro i g c hc
      rw [List.mem_singleton.mp hc]
      rfl
    | succ k ih =>
      intro i g c hc
      have l0 : ((confs k).map fun r => g (0 :: r)).length = 2 ^ k := by rw [List.length_map, confs_len]
      have e : (confs (k + 1)).map g = (confs k).map (fun r => g (0 :: r)) ++ (confs k).map (fun r => g (1 :: r)) := by
        rw [confs_two, List.map_append, List.map_map, List.map_map]
        rfl
      have em : mk (k + 1) ((confs (k + 1)).map g) i = fork i (mk k ((confs k).map fun r => g (0 :: r)) (i + 1)) (mk k ((confs k).map fun r => g (1 :: r)) (i + 1)) := by
        show fork i (mk k (((confs (k + 1)).map g).take (2 ^ k)) (i + 1)) (mk k (((confs (k + 1)).map g).drop (2 ^ k)) (i + 1)) = _
        rw [e, List.take_left' l0, List.drop_left' l0]
      rw [em]
      have f0 := mk_fit k ((confs k).map fun r => g (0 :: r)) (i + 1)
      have f1 := mk_fit k ((confs k).map fun r => g (1 :: r)) (i + 1)
      rw [confs_two] at hc
      unfold fork
      rcases List.mem_append.mp hc with hc | hc
      · obtain ⟨r, hr, rfl⟩ := List.mem_map.mp hc
        have i0 := ih (i + 1) (fun r => g (0 :: r)) r hr
        by_cases z : mk k ((confs k).map fun r => g (0 :: r)) (i + 1) = mk k ((confs k).map fun r => g (1 :: r)) (i + 1)
        · rw [if_pos z, hold_cons f0]
          exact i0
        · rw [if_neg z]
          show (if ((0 : Int) :: r).getD (i - i) 0 = 1 then _ else hold i _ (0 :: r)) = _
          rw [Nat.sub_self]
          show (if (0 : Int) = 1 then _ else hold i _ (0 :: r)) = _
          rw [if_neg (by decide), hold_cons f0]
          exact i0
      · obtain ⟨r, hr, rfl⟩ := List.mem_map.mp hc
        have i1 := ih (i + 1) (fun r => g (1 :: r)) r hr
        by_cases z : mk k ((confs k).map fun r => g (0 :: r)) (i + 1) = mk k ((confs k).map fun r => g (1 :: r)) (i + 1)
        · rw [if_pos z, z, hold_cons f1]
          exact i1
        · rw [if_neg z]
          show (if ((1 : Int) :: r).getD (i - i) 0 = 1 then hold i _ (1 :: r) else _) = _
          rw [Nat.sub_self]
          show (if (1 : Int) = 1 then hold i _ (1 :: r) else _) = _
          rw [if_pos rfl, hold_cons f1]
          exact i1
  exact go n 0 g
/-! ### the operations -/
def neg : Dg → Dg
  | leaf b => leaf (!b)
  | node i lo hi => node i (neg lo) (neg hi)
theorem neg_neg : ∀ d : Dg, neg (neg d) = d
  | leaf b => by cases b <;> rfl
  | node i lo hi => by show node i (neg (neg lo)) (neg (neg hi)) = _; rw [neg_neg lo, neg_neg hi]
theorem neg_fit {n : Nat} : ∀ {d : Dg} {l : Nat}, Fit n l d → Fit n l (neg d)
  | leaf _, _, _ => True.intro
  | node i lo hi, l, h => ⟨h.1, h.2.1, fun e => h.2.2.1 (by rw [← neg_neg lo, ← neg_neg hi, e]), neg_fit h.2.2.2.1, neg_fit h.2.2.2.2⟩
theorem neg_hold (i : Nat) (c : List Int) : ∀ d : Dg, hold i (neg d) c = !hold i d c
  | leaf b => rfl
  | node j lo hi => by
    show (if c.getD (j - i) 0 = 1 then hold i (neg hi) c else hold i (neg lo) c) = !(if c.getD (j - i) 0 = 1 then hold i hi c else hold i lo c)
    rw [neg_hold i c lo, neg_hold i c hi]
    split <;> rfl
theorem neg_ht : ∀ d : Dg, ht (neg d) = ht d
  | leaf _ => rfl
  | node i lo hi => by show max _ _ + 1 = max _ _ + 1; rw [neg_ht lo, neg_ht hi]
/-- both (z = false) and either (z = true): z takes all, its opposite nothing -/
def join (z : Bool) : Nat → Dg → Dg → Dg
  | 0, _, _ => leaf z
  | n + 1, d, e => if d = leaf (!z) ∨ e = leaf z then e else if e = leaf (!z) ∨ d = leaf z then d else
    match d, e with
    | node i a b, node j x y => fork (min i j) (join z n (half (min i j) false (node i a b)) (half (min i j) false (node j x y))) (join z n (half (min i j) true (node i a b)) (half (min i j) true (node j x y)))
    | d, _ => d
def op2 (z : Bool) (x y : Bool) : Bool := if z then x || y else x && y
theorem half_ht (i : Nat) (b : Bool) (d : Dg) : ht (half i b d) ≤ ht d := by
  cases d with
  | leaf _ => exact Nat.le_refl _
  | node j lo hi =>
    rw [half_node]
    split
    · show ht (if b then hi else lo) ≤ max (ht lo) (ht hi) + 1
      split <;> omega
    · exact Nat.le_refl _
theorem half_ht' (i : Nat) (b : Bool) (lo hi : Dg) : ht (half i b (node i lo hi)) < ht (node i lo hi) := by
  rw [half_node]
  rw [if_pos rfl]
  show ht (if b then hi else lo) < max (ht lo) (ht hi) + 1
  split <;> omega
theorem half_drop {i j : Nat} {a b x y : Dg} (u : Bool) : ht (half (min i j) u (node i a b)) + ht (half (min i j) u (node j x y)) < ht (node i a b) + ht (node j x y) := by
  by_cases e : i ≤ j
  · rw [Nat.min_eq_left e]
    have h1 := half_ht' i u a b
    have h2 := half_ht i u (node j x y)
    omega
  · rw [Nat.min_eq_right (by omega)]
    have h1 := half_ht i u (node i a b)
    have h2 := half_ht' j u x y
    have h3 := half_ht j u (node i a b)
    omega
theorem fork_hold {n i m : Nat} {lo hi d : Dg} {c : List Int} (hm : i ≤ m) (hlo : hold i lo c = hold i (half m false d) c) (hhi : hold i hi c = hold i (half m true d) c) : True := trivial
/-- a fork where its halves hold -/
theorem hold_fork (i m : Nat) (lo hi : Dg) (c : List Int) : hold i (fork m lo hi) c = if c.getD (m - i) 0 = 1 then hold i hi c else hold i lo c := by
  unfold fork
  by_cases e : lo = hi
  · rw [if_pos e, e]
    split <;> rfl
  · rw [if_neg e]
    rfl
theorem hold_halves (i m : Nat) (d : Dg) (c : List Int) (b : Bool) (h : c.getD (m - i) 0 = 1 ↔ b = true) : hold i (half m b d) c = hold i d c := by
  cases d with
  | leaf _ => rfl
  | node j lo hi =>
    rw [half_node]
    by_cases e : j = m
    · rw [if_pos e]
      subst e
      show _ = if c.getD (j - i) 0 = 1 then hold i hi c else hold i lo c
      cases b with
      | true => rw [if_pos (h.mpr rfl)]; rfl
      | false => rw [if_neg (fun z => Bool.noConfusion (h.mp z))]; rfl
    · rw [if_neg e]
theorem join_hold (z : Bool) (i : Nat) (c : List Int) : ∀ (n : Nat) (d e : Dg), ht d + ht e < n → hold i (join z n d e) c = op2 z (hold i d c) (hold i e c)
  | 0, _, _, h => by omega
  | n + 1, d, e, h => by
    unfold join
    by_cases c1 : d = leaf (!z) ∨ e = leaf z
    · rw [if_pos c1]
      rcases c1 with rfl | rfl
      · show _ = op2 z (!z) _
        cases z <;> simp [op2]
      · show z = op2 z _ z
        cases z <;> simp [op2]
    · rw [if_neg c1]
      by_cases c2 : e = leaf (!z) ∨ d = leaf z
      · rw [if_pos c2]
        rcases c2 with rfl | rfl
        · show _ = op2 z _ (!z)
          cases z <;> simp [op2]
        · show z = op2 z z _
          cases z <;> simp [op2]
      · rw [if_neg c2]
        cases d with
        | leaf x => exfalso; cases x <;> cases z <;> simp at c1 c2
        | node j a b =>
          cases e with
          | leaf y => exfalso; cases y <;> cases z <;> simp at c1 c2
          | node k x y =>
            show hold i (fork (min j k) _ _) c = _
            rw [hold_fork]
            have r := fun u => join_hold z i c n _ _ (Nat.lt_of_lt_of_le (half_drop (i := j) (j := k) (a := a) (b := b) (x := x) (y := y) u) (Nat.le_of_lt_succ h))
            by_cases g : c.getD (min j k - i) 0 = 1
            · rw [if_pos g, r true, hold_halves i _ _ c true ⟨fun _ => rfl, fun _ => g⟩, hold_halves i _ _ c true ⟨fun _ => rfl, fun _ => g⟩]
            · rw [if_neg g, r false, hold_halves i _ _ c false ⟨fun z => absurd z g, fun z => Bool.noConfusion z⟩, hold_halves i _ _ c false ⟨fun z => absurd z g, fun z => Bool.noConfusion z⟩]
theorem join_fit (z : Bool) {m : Nat} : ∀ (n : Nat) {d e : Dg} {l : Nat}, Fit m l d → Fit m l e → Fit m l (join z n d e)
  | 0, _, _, _, _, _ => True.intro
  | n + 1, d, e, l, hd, he => by
    unfold join
    by_cases c1 : d = leaf (!z) ∨ e = leaf z
    · rw [if_pos c1]
      exact he
    · rw [if_neg c1]
      by_cases c2 : e = leaf (!z) ∨ d = leaf z
      · rw [if_pos c2]
        exact hd
      · rw [if_neg c2]
        cases d with
        | leaf x => exact hd
        | node j a b =>
          cases e with
          | leaf y => exact hd
          | node k x y =>
            have h1 := hd.1
            have h2 := he.1
            have h3 := hd.2.1
            have k1 : ∀ u, Fit m (min j k + 1) (half (min j k) u (node j a b)) := fun u => half_fit hd fun j' _ _ e => by cases e; omega
            have k2 : ∀ u, Fit m (min j k + 1) (half (min j k) u (node k x y)) := fun u => half_fit he fun j' _ _ e => by cases e; omega
            exact fork_fit (by omega) (by omega) (join_fit z n (k1 false) (k2 false)) (join_fit z n (k1 true) (k2 true))
theorem ht5 {n : Nat} {d : Dg} (h : Fit n 0 d) : Dg.ht d ≤ n := by
  have := h.ht
  omega
end Dg
end Ver

/-! ## Formulas and their texts: the mathematics -/
namespace Ver
open PySem L2
inductive Fm where
  | yes | no
  | sw (x : Str)
  | not (f : Fm)
  | and (f g : Fm)
  | or (f g : Fm)
  deriving DecidableEq
namespace Fm
def toD : Fm → PyData
  | yes => .tuple [.str "yes"]
  | no => .tuple [.str "no"]
  | sw x => .tuple [.str "switch", .str x]
  | not f => .tuple [.str "not", toD f]
  | and f g => .tuple [.str "and", toD f, toD g]
  | or f g => .tuple [.str "or", toD f, toD g]
def dep : Fm → Nat
  | yes | no | sw _ => 1
  | not f => dep f + 1
  | and f g | or f g => max (dep f) (dep g) + 1
def size : Fm → Nat
  | yes | no | sw _ => 1
  | not f => size f + 1
  | and f g | or f g => size f + size g + 1
/-- its names are switches -/
def Over (s : List Str) : Fm → Prop
  | yes | no => True
  | sw x => x ∈ s
  | not f => Over s f
  | and f g | or f g => Over s f ∧ Over s g
theorem size_pos : ∀ f : Fm, 1 ≤ size f
  | yes | no | sw _ => Nat.le_refl _
  | not f => Nat.le_add_left _ _
  | and f g | or f g => Nat.le_add_left _ _
theorem shaped {s : List Str} (hs : ∀ x ∈ s, PyData.strOk x = true) {f : Fm} (h : Over s f) (hd : dep f ≤ 60) : SeqAt.shaped (toD f) = true := by
  have h1 : ∀ f : Fm, Over s f → (toD f).canLay0 = true := by
    intro f
    induction f with
    | yes => intro _; simp only [toD, PyData.canLay0, PyData.canLayAll0]; decide +kernel
    | no => intro _; simp only [toD, PyData.canLay0, PyData.canLayAll0]; decide +kernel
    | sw x => intro h; simp only [toD, PyData.canLay0, PyData.canLayAll0, hs x h, Bool.and_true]; decide +kernel
    | not f a => intro h; simp only [toD, PyData.canLay0, PyData.canLayAll0, a h, Bool.and_true]; decide +kernel
    | and f g a b => intro h; simp only [toD, PyData.canLay0, PyData.canLayAll0, a h.1, b h.2, Bool.and_true]; decide +kernel
    | or f g a b => intro h; simp only [toD, PyData.canLay0, PyData.canLayAll0, a h.1, b h.2, Bool.and_true]; decide +kernel
  have h2 : ∀ f : Fm, (toD f).depth = dep f := by
    intro f
    induction f with
    | yes => simp [toD, PyData.depth, PyData.depthAll, dep]
    | no => simp [toD, PyData.depth, PyData.depthAll, dep]
    | sw x => simp [toD, PyData.depth, PyData.depthAll, dep]
    | not f a => simp [toD, PyData.depth, PyData.depthAll, dep, a]
    | and f g a b => simp [toD, PyData.depth, PyData.depthAll, dep, a, b]
    | or f g a b => simp [toD, PyData.depth, PyData.depthAll, dep, a, b]
  unfold SeqAt.shaped
  rw [h1 f h, h2]
  simp
  omega
end Fm
/-- the codes of a text -/
abbrev cl (x : Str) : List Nat := x.cps.toList
theorem cl_app (x y : Str) : cl (x ++ y) = cl x ++ cl y := by
  show (x ++ y).cps.toList = _
  rw [Str.cps_append, Array.toList_append]
theorem cl_len (x : Str) : (cl x).length = x.length := rfl
theorem cl_inj {x y : Str} (h : cl x = cl y) : x = y := Str.ext' (Array.toList_inj.mp h)
/-- small letters -/
def lett (c : Nat) : Bool := decide (97 ≤ c) && decide (c ≤ 122)
def flush : List Nat → List (List Nat)
  | [] => []
  | a => [a]
def sgn (c : Nat) : List (List Nat) := if c = 32 then [] else [[c]]
/-- a text's signs: runs of letters, and single other signs, without spaces -/
def lexA (acc : List Nat) : List Nat → List (List Nat)
  | [] => flush acc
  | c :: r => if lett c then lexA (acc ++ [c]) r else flush acc ++ (sgn c ++ lexA [] r)
theorem lexA_cons (acc : List Nat) (c : Nat) (r : List Nat) : lexA acc (c :: r) = if lett c then lexA (acc ++ [c]) r else flush acc ++ (sgn c ++ lexA [] r) := rfl
theorem lex_cut {c : Nat} (h : lett c = false) : ∀ (u : List Nat) (acc v : List Nat), lexA acc (u ++ c :: v) = lexA acc u ++ (sgn c ++ lexA [] v)
  | [], acc, v => by
    show lexA acc (c :: v) = flush acc ++ _
    rw [lexA_cons, h]
    rfl
  | d :: u, acc, v => by
    show lexA acc (d :: (u ++ c :: v)) = lexA acc (d :: u) ++ _
    rw [lexA_cons, lexA_cons]
    split
    · exact lex_cut h u _ v
    · rw [lex_cut h u [] v]
      simp only [List.append_assoc]
theorem lex_word : ∀ (u acc : List Nat), (∀ c ∈ u, lett c = true) → lexA acc u = flush (acc ++ u)
  | [], acc, _ => by rw [List.append_nil]; rfl
  | c :: u, acc, h => by
    rw [lexA_cons, h c List.mem_cons_self]
    show lexA (acc ++ [c]) u = _
    rw [lex_word u _ fun d hd => h d (List.mem_cons_of_mem _ hd), List.append_assoc]
    rfl
/-- spaces alone -/
def Gap (g : List Nat) : Prop := ∀ c ∈ g, c = 32
theorem lex_gap : ∀ (g v : List Nat), Gap g → lexA [] (g ++ v) = lexA [] v
  | [], _, _ => rfl
  | c :: g, v, h => by
    have e := h c List.mem_cons_self
    subst e
    show lexA [] (32 :: (g ++ v)) = _
    rw [lexA_cons]
    exact lex_gap g v fun d hd => h d (List.mem_cons_of_mem _ hd)
/-- what stands ahead of a gap and a sign -/
theorem lex_gcut {c : Nat} (h : lett c = false) (h32 : c ≠ 32) (u g v : List Nat) (hg : Gap g) : lexA [] (u ++ (g ++ c :: v)) = lexA [] u ++ ([c] :: lexA [] v) := by
  have e : sgn c = [[c]] := by unfold sgn; rw [if_neg h32]
  cases g with
  | nil =>
    show lexA [] (u ++ c :: v) = _
    rw [lex_cut h, e]
    rfl
  | cons d g =>
    have ed := hg d List.mem_cons_self
    subst ed
    show lexA [] (u ++ 32 :: (g ++ c :: v)) = _
    rw [lex_cut (by decide)]
    show lexA [] u ++ ([] ++ lexA [] (g ++ c :: v)) = _
    rw [List.nil_append, lex_gap _ _ fun d hd => hg d (List.mem_cons_of_mem _ hd)]
    show lexA [] u ++ lexA [] ([] ++ c :: v) = _
    rw [lex_cut h, e]
    rfl
/-! ### the grammar, over signs; chains from the left -/
mutual
inductive TP (s : List Str) : Fm → List (List Nat) → Prop
  | name {x : Str} (h : x ∈ s) : TP s (.sw x) [cl x]
  | yes : TP s .yes [[49]]
  | no : TP s .no [[48]]
  | not {f : Fm} {ws : List (List Nat)} (h : TP s f ws) : TP s (.not f) ([33] :: ws)
  | par {f : Fm} {ws : List (List Nat)} (h : TE s f ws) : TP s f ([40] :: (ws ++ [[41]]))
inductive TB (s : List Str) : Fm → List (List Nat) → Prop
  | one {f : Fm} {ws : List (List Nat)} (h : TP s f ws) : TB s f ws
  | and {f g : Fm} {ws vs : List (List Nat)} (h : TB s f ws) (k : TP s g vs) : TB s (.and f g) (ws ++ [38] :: vs)
inductive TE (s : List Str) : Fm → List (List Nat) → Prop
  | one {f : Fm} {ws : List (List Nat)} (h : TB s f ws) : TE s f ws
  | or {f g : Fm} {ws vs : List (List Nat)} (h : TE s f ws) (k : TB s g vs) : TE s (.or f g) (ws ++ [124] :: vs)
end
/-- a drawn formula and its text, with bounds -/
structure Drawn (s : List Str) (R : Fm → List (List Nat) → Prop) (L D S : Nat) (f : Fm) (txt : Str) : Prop where
  rel : R f (lexA [] (cl txt))
  over : f.Over s
  len : txt.length ≤ L
  dep : f.dep ≤ D
  size : f.size ≤ S
theorem Drawn.mono {s : List Str} {R R' : Fm → List (List Nat) → Prop} {L D S L' D' S' : Nat} {f : Fm} {txt : Str} (h : Drawn s R L D S f txt) (hr : ∀ f ws, R f ws → R' f ws) (h1 : L ≤ L') (h2 : D ≤ D') (h3 : S ≤ S') : Drawn s R' L' D' S' f txt :=
  ⟨hr _ _ h.rel, h.over, Nat.le_trans h.len h1, Nat.le_trans h.dep h2, Nat.le_trans h.size h3⟩
theorem c33 : cl "!" = [33] := by decide +kernel
theorem c38 : cl "&" = [38] := by decide +kernel
theorem c40 : cl "(" = [40] := by decide +kernel
theorem c41 : cl ")" = [41] := by decide +kernel
theorem c48 : cl "0" = [48] := by decide +kernel
theorem c49 : cl "1" = [49] := by decide +kernel
theorem c124 : cl "|" = [124] := by decide +kernel
theorem Drawn.name {s : List Str} {x : Str} (h : x ∈ s) (hl : ∀ c ∈ cl x, lett c = true) (h0 : cl x ≠ []) (h6 : x.length ≤ 6) : Drawn s (TP s) 6 1 1 (.sw x) x := by
  refine ⟨?_, h, h6, Nat.le_refl _, Nat.le_refl _⟩
  rw [lex_word _ _ hl, List.nil_append]
  cases e : cl x with
  | nil => exact absurd e h0
  | cons a r =>
    show TP s (.sw x) [a :: r]
    rw [← e]
    exact .name h
theorem Drawn.yes {s : List Str} : Drawn s (TP s) 6 1 1 .yes "1" := by
  refine ⟨?_, True.intro, by decide +kernel, Nat.le_refl _, Nat.le_refl _⟩
  rw [c49]
  exact .yes
theorem Drawn.no {s : List Str} : Drawn s (TP s) 6 1 1 .no "0" := by
  refine ⟨?_, True.intro, by decide +kernel, Nat.le_refl _, Nat.le_refl _⟩
  rw [c48]
  exact .no
theorem Drawn.not {s : List Str} {L D S : Nat} {f : Fm} {txt g : Str} (h : Drawn s (TP s) L D S f txt) (hg : Gap (cl g)) (h2 : g.length ≤ 2) : Drawn s (TP s) (L + 3) (D + 1) (S + 1) (.not f) ("!" ++ g ++ txt) := by
  have h3 := h.len
  have l1 : ("!" : Str).length = 1 := rfl
  refine ⟨?_, h.over, ?_, Nat.succ_le_succ h.dep, Nat.succ_le_succ h.size⟩
  · rw [cl_app, cl_app, c33, List.append_assoc]
    show TP s (.not f) (lexA [] ([] ++ 33 :: (cl g ++ cl txt)))
    rw [lex_cut (by decide), lex_gap _ _ hg]
    exact .not h.rel
  · rw [Str.length_append, Str.length_append]
    omega
theorem Drawn.par {s : List Str} {L D S : Nat} {f : Fm} {txt g g' : Str} (h : Drawn s (TE s) L D S f txt) (hg : Gap (cl g)) (h2 : g.length ≤ 2) (hg' : Gap (cl g')) (h2' : g'.length ≤ 2) : Drawn s (TP s) (L + 6) D S f ("(" ++ g ++ txt ++ g' ++ ")") := by
  have h3 := h.len
  have l1 : ("(" : Str).length = 1 := rfl
  have l2 : (")" : Str).length = 1 := rfl
  refine ⟨?_, h.over, ?_, h.dep, h.size⟩
  · rw [cl_app, cl_app, cl_app, cl_app, c40, c41]
    have e : [40] ++ cl g ++ cl txt ++ cl g' ++ [41] = [] ++ 40 :: (cl g ++ (cl txt ++ (cl g' ++ 41 :: []))) := by simp
    rw [e, lex_cut (by decide), lex_gap _ _ hg, lex_gcut (by decide) (by decide) _ _ _ hg']
    exact .par h.rel
  · simp only [Str.length_append]
    omega
theorem Drawn.and {s : List Str} {L D S L' D' S' : Nat} {f f' : Fm} {txt txt' g g' : Str} (h : Drawn s (TB s) L D S f txt) (k : Drawn s (TP s) L' D' S' f' txt') (hg : Gap (cl g)) (h2 : g.length ≤ 2) (hg' : Gap (cl g')) (h2' : g'.length ≤ 2) :
    Drawn s (TB s) (L + (L' + 5)) (max D D' + 1) (S + S' + 1) (.and f f') (txt ++ g ++ "&" ++ g' ++ txt') := by
  have h3 := h.len
  have k3 := k.len
  have h4 := h.dep
  have k4 := k.dep
  have h5 := h.size
  have k5 := k.size
  have l1 : ("&" : Str).length = 1 := rfl
  refine ⟨?_, ⟨h.over, k.over⟩, ?_, ?_, ?_⟩
  · rw [cl_app, cl_app, cl_app, cl_app, c38]
    have e : cl txt ++ cl g ++ [38] ++ cl g' ++ cl txt' = cl txt ++ (cl g ++ 38 :: (cl g' ++ cl txt')) := by simp
    rw [e, lex_gcut (by decide) (by decide) _ _ _ hg, lex_gap _ _ hg']
    exact .and h.rel k.rel
  · simp only [Str.length_append]
    omega
  · show max f.dep f'.dep + 1 ≤ _
    omega
  · show f.size + f'.size + 1 ≤ _
    omega
theorem Drawn.or {s : List Str} {L D S L' D' S' : Nat} {f f' : Fm} {txt txt' g g' : Str} (h : Drawn s (TE s) L D S f txt) (k : Drawn s (TB s) L' D' S' f' txt') (hg : Gap (cl g)) (h2 : g.length ≤ 2) (hg' : Gap (cl g')) (h2' : g'.length ≤ 2) :
    Drawn s (TE s) (L + (L' + 5)) (max D D' + 1) (S + S' + 1) (.or f f') (txt ++ g ++ "|" ++ g' ++ txt') := by
  have h3 := h.len
  have k3 := k.len
  have h4 := h.dep
  have k4 := k.dep
  have h5 := h.size
  have k5 := k.size
  have l1 : ("|" : Str).length = 1 := rfl
  refine ⟨?_, ⟨h.over, k.over⟩, ?_, ?_, ?_⟩
  · rw [cl_app, cl_app, cl_app, cl_app, c124]
    have e : cl txt ++ cl g ++ [124] ++ cl g' ++ cl txt' = cl txt ++ (cl g ++ 124 :: (cl g' ++ cl txt')) := by simp
    rw [e, lex_gcut (by decide) (by decide) _ _ _ hg, lex_gap _ _ hg']
    exact .or h.rel k.rel
  · simp only [Str.length_append]
    omega
  · show max f.dep f'.dep + 1 ≤ _
    omega
  · show f.size + f'.size + 1 ≤ _
    omega
/-- the bounds, by the depth that is left -/
def lP : Nat → Nat
  | 0 => 6
  | n + 1 => 9 * lP n + 46
def dP : Nat → Nat
  | 0 => 1
  | n + 1 => dP n + 5
def sP : Nat → Nat
  | 0 => 1
  | n + 1 => 9 * sP n + 8
def lB (n : Nat) : Nat := 3 * lP n + 10
def dB (n : Nat) : Nat := dP n + 2
def sB (n : Nat) : Nat := 3 * sP n + 2
def lE (n : Nat) : Nat := 9 * lP n + 40
def dE (n : Nat) : Nat := dP n + 4
def sE (n : Nat) : Nat := 9 * sP n + 8
end Ver

/-! ## The truth of a formula: the mathematics -/
namespace Ver
open PySem L2
def ixOf (x : Str) : List Str → Nat
  | [] => 0
  | y :: r => if y = x then 0 else ixOf x r + 1
theorem ixOf_get {x : Str} : ∀ {s : List Str}, x ∈ s → s[ixOf x s]? = some x ∧ ∀ m, m < ixOf x s → s[m]? ≠ some x
  | [], h => by cases h
  | y :: r, h => by
    unfold ixOf
    by_cases e : y = x
    · rw [if_pos e]
      exact ⟨by rw [e]; rfl, fun m hm => by omega⟩
    · rw [if_neg e]
      have hr : x ∈ r := by
        rcases List.mem_cons.mp h with z | z
        · exact absurd z.symm e
        · exact z
      obtain ⟨h1, h2⟩ := ixOf_get hr
      refine ⟨by simpa using h1, fun m hm => ?_⟩
      cases m with
      | zero => intro z; exact e (Option.some.inj z)
      | succ m => intro z; exact h2 m (by omega) (by simpa using z)
theorem ixOf_lt {x : Str} {s : List Str} (h : x ∈ s) : ixOf x s < s.length := (List.getElem?_eq_some_iff.mp (ixOf_get h).1).1
def ev (s : List Str) (c : List Int) : Fm → Bool
  | .yes => true
  | .no => false
  | .sw x => decide (c.getD (ixOf x s) 0 = 1)
  | .not f => !ev s c f
  | .and f g => ev s c f && ev s c g
  | .or f g => ev s c f || ev s c g
theorem Fm.of_node {H : Hp} {v : V} {ds : List PyData} (h : Dv H v (.tuple ds)) : ∃ a xs, v = .ref a ∧ H a = some (.tup xs) ∧ DvAll H xs ds := h.of_tup
/-- the two ways of a test whose answer is known -/
theorem iteDF {p A B : Prop} [Decidable p] (h : ¬ p) (k : B) : if decide p = true then A else B := by
  rw [decide_eq_false h]
  exact iteF k
theorem iteDT {p A B : Prop} [Decidable p] (h : p) (k : A) : if decide p = true then A else B := by
  rw [decide_eq_true h]
  exact iteT k
theorem tYN : (V.str "yes" : V) ≠ V.str "no" := by decide +kernel
theorem tYS : (V.str "yes" : V) ≠ V.str "switch" := by decide +kernel
theorem tYT : (V.str "yes" : V) ≠ V.str "not" := by decide +kernel
theorem tYA : (V.str "yes" : V) ≠ V.str "and" := by decide +kernel
theorem tYO : (V.str "yes" : V) ≠ V.str "or" := by decide +kernel
theorem tNS : (V.str "no" : V) ≠ V.str "switch" := by decide +kernel
theorem tNT : (V.str "no" : V) ≠ V.str "not" := by decide +kernel
theorem tNA : (V.str "no" : V) ≠ V.str "and" := by decide +kernel
theorem tNO : (V.str "no" : V) ≠ V.str "or" := by decide +kernel
theorem tST : (V.str "switch" : V) ≠ V.str "not" := by decide +kernel
theorem tSA : (V.str "switch" : V) ≠ V.str "and" := by decide +kernel
theorem tSO : (V.str "switch" : V) ≠ V.str "or" := by decide +kernel
theorem tTA : (V.str "not" : V) ≠ V.str "and" := by decide +kernel
theorem tTO : (V.str "not" : V) ≠ V.str "or" := by decide +kernel
theorem tAO : (V.str "and" : V) ≠ V.str "or" := by decide +kernel
end Ver

/-! ## is_true: formulas in a list, the last part first -/
namespace Ver
open PySem L2
def pre : Fm → List Fm
  | .yes => [.yes]
  | .no => [.no]
  | .sw x => [.sw x]
  | .not f => .not f :: pre f
  | .and f g => .and f g :: (pre g ++ pre f)
  | .or f g => .or f g :: (pre g ++ pre f)
def kids : Fm → List Fm
  | .not f => [f]
  | .and f g => [f, g]
  | .or f g => [f, g]
  | _ => []
theorem pre_kids (f : Fm) : pre f = f :: ((kids f).reverse.flatMap pre) := by
  cases f <;> simp [pre, kids]
theorem pre_len : ∀ f : Fm, (pre f).length = f.size
  | .yes | .no | .sw _ => rfl
  | .not f => by show (pre f).length + 1 = _; rw [pre_len f]; rfl
  | .and f g => by show (pre g ++ pre f).length + 1 = _; rw [List.length_append, pre_len f, pre_len g]; show _ = f.size + g.size + 1; omega
  | .or f g => by show (pre g ++ pre f).length + 1 = _; rw [List.length_append, pre_len f, pre_len g]; show _ = f.size + g.size + 1; omega
theorem pre_over {s : List Str} : ∀ f : Fm, f.Over s → ∀ g ∈ pre f, g.Over s
  | .yes, _, g, hg => by rw [List.mem_singleton.mp hg]; exact True.intro
  | .no, _, g, hg => by rw [List.mem_singleton.mp hg]; exact True.intro
  | .sw x, h, g, hg => by rw [List.mem_singleton.mp hg]; exact h
  | .not f, h, g, hg => by
    rcases List.mem_cons.mp hg with e | e
    · rw [e]; exact h
    · exact pre_over f h g e
  | .and f k, h, g, hg => by
    rcases List.mem_cons.mp hg with e | e
    · rw [e]; exact h
    · rcases List.mem_append.mp e with e | e
      · exact pre_over k h.2 g e
      · exact pre_over f h.1 g e
  | .or f k, h, g, hg => by
    rcases List.mem_cons.mp hg with e | e
    · rw [e]; exact h
    · rcases List.mem_append.mp e with e | e
      · exact pre_over k h.2 g e
      · exact pre_over f h.1 g e
/-- the machine: the stack's top is the head -/
def step (s : List Str) (c : List Int) : Fm → List Bool → Option (List Bool)
  | .not _, b :: r => some ((!b) :: r)
  | .and _ _, y :: x :: r => some ((x && y) :: r)
  | .or _ _, y :: x :: r => some ((x || y) :: r)
  | .not _, _ => none
  | .and _ _, _ => none
  | .or _ _, _ => none
  | f, r => some (ev s c f :: r)
def run (s : List Str) (c : List Int) : List Fm → List Bool → Option (List Bool)
  | [], st => some st
  | f :: r, st => (step s c f st).bind (run s c r)
theorem run_pre (s : List Str) (c : List Int) : ∀ (f : Fm) (rest : List Fm) (st : List Bool), run s c ((pre f).reverse ++ rest) st = run s c rest (ev s c f :: st)
  | .yes, rest, st => rfl
  | .no, rest, st => rfl
  | .sw x, rest, st => rfl
  | .not f, rest, st => by
    show run s c ((Fm.not f :: pre f).reverse ++ rest) st = _
    rw [List.reverse_cons, List.append_assoc, run_pre s c f]
    rfl
  | .and f g, rest, st => by
    show run s c ((Fm.and f g :: (pre g ++ pre f)).reverse ++ rest) st = _
    rw [List.reverse_cons, List.reverse_append, List.append_assoc, List.append_assoc, run_pre s c f, run_pre s c g]
    rfl
  | .or f g, rest, st => by
    show run s c ((Fm.or f g :: (pre g ++ pre f)).reverse ++ rest) st = _
    rw [List.reverse_cons, List.reverse_append, List.append_assoc, List.append_assoc, run_pre s c f, run_pre s c g]
    rfl
/-- the stack never grows above the number of the parts that were read -/
theorem step_len {s : List Str} {c : List Int} {f : Fm} {st st' : List Bool} (h : step s c f st = some st') : st'.length ≤ st.length + 1 := by
  cases f with
  | not f => match st, h with
    | b :: r, h => cases h; simp
  | and f g => match st, h with
    | b :: x :: r, h => cases h; simp
  | or f g => match st, h with
    | b :: x :: r, h => cases h; simp
  | yes => cases h; simp
  | no => cases h; simp
  | sw x => cases h; simp
end Ver

namespace Ver
open PySem
def top (i : Nat) : Stmt := PySem.Challenge.pw_oncefolded_k01_whole_diagrams.main.body.getD i (.Pass ⟨0, 0, 0, 0⟩)
end Ver

/-! ## The tape: _law_mix, _law_tape, _law_take -/
namespace Ver
open PySem L2
abbrev sMix : Stmt := top 21
abbrev sTape : Stmt := top 22
abbrev sTake : Stmt := top 23
def spMix : Sp := fun vs H Q _ => ∃ n : Int, vs = [.int n] ∧ ∀ r : Int, Q (.int r) H
def spTape (K : PySem.W.Frag) : Sp := fun vs H Q _ => ∃ (a : Addr) (ns : List Int) (b : Int), vs = [.ref a, .int b] ∧ SqL K H a (ns.map V.int) ∧
  ∀ (t l : Addr) (H' : Hp), H t = none → H l = none → Same H H' → Tape H' t l → Q (.ref t) H'
def spTake : Sp := fun vs H Q _ => ∃ (t l : Addr) (m : Int), vs = [.ref t, .int m] ∧ Tape H t l ∧ 0 < m ∧ m < 1073741824 ∧
  ∀ (d : Int) (H' : Hp), 0 ≤ d → d < m → But t H H' → Tape H' t l → Q (.int d) H'
section
variable {P : Program} {w : World} {K : PySem.W.Frag} {mg : Str → Option Value} {base : Heap} {f g : Addr} {fd gd : FuncData}
theorem scMix : FnScope ["number"] ["number"] (defScope sMix) := ⟨rfl, rfl, rfl, by decide +kernel, rfl, by decide +kernel, by decide +kernel⟩
theorem scTape : FnScope ["script", "budget"] ["script", "budget"] (defScope sTape) := ⟨rfl, rfl, rfl, by decide +kernel, rfl, by decide +kernel, by decide +kernel⟩
theorem scTake : FnScope ["tape", "many", "cell", "digit"] ["tape", "many"] (defScope sTake) := ⟨rfl, rfl, rfl, by decide +kernel, rfl, by decide +kernel, by decide +kernel⟩
theorem ok_mix (F : Fun K "_law_mix" "_law_mix" sMix f fd) (mi : mg "int" = none) : FnOk P w K mg base CX0 1 f fd ["number"] spMix := by
  refine F.ok scMix (fun vs H Q E h => ?_) (fun cdv A outer s H vs Q E hr h => ?_)
  · obtain ⟨n, rfl, _⟩ := h
    rfl
  obtain ⟨n, rfl, q⟩ := h
  refine ⟨_, pss_cons (ps_set (i := 0) scMix.nd rfl (.inl rfl) (pe_op op_mod (pe_callTy call_int1 (by rfl) mi (by decide +kernel) (pa_cons (pe_op op_add (pe_op op_mul (pv 0) pe_int) pe_int) pa_nil)) pe_int))
    (pss_one (ps_ret (pe_op op_mod (pe_callTy call_int1 (by rfl) mi (by decide +kernel) (pa_cons (pe_op op_add (pe_op op_fdivW (pe_op op_mul (pv 0) (pv 0)) pe_int) (pe_op op_mul (pv 0) pe_int)) pa_nil)) pe_int))), ?_⟩
  refine ⟨_, rfl, _, _, rfl, rfl, .inr ⟨by decide, by decide⟩, _, _, rfl, rfl, .inl ⟨_, rfl, _, _, rfl, rfl, (by show (0 : Int) < 18446744073709551616; decide), ?_⟩⟩
  generalize hm : (n * 6364136223846793005 + 1442695040888963407) % 18446744073709551616 = m
  have m0 : 0 ≤ m := by omega
  have m1 : m < 18446744073709551616 := by omega
  refine ⟨_, rfl, _, rfl, _, _, rfl, rfl, .inl ⟨by omega, by omega⟩, _, _, rfl, rfl, wide_div (b := 40) (by decide) (by decide) (by decide) (by decide), _, rfl, _, _, rfl, rfl, .inr ⟨by decide, by decide⟩, _, _, rfl, rfl, .inl ⟨_, rfl, _, _, rfl, rfl, (by show (0 : Int) < 18446744073709551557; decide), ?_⟩⟩
  exact q _
theorem ok_tape (F : Fun K "_law_tape" "_law_tape" sTape f fd) (ml : mg "list" = none) : FnOk P w K mg base CX0 1 f fd ["script", "budget"] (spTape K) := by
  refine F.ok scTape (fun vs H Q E h => ?_) (fun cdv A outer s H vs Q E hr h => ?_)
  · obtain ⟨a, ns, b, rfl, _⟩ := h
    rfl
  obtain ⟨a, ns, b, rfl, hS, q⟩ := h
  refine ⟨_, pss_one (ps_ret (pe_lst (pa_cons (pe_callTy call_list_of (by rfl) ml (by decide +kernel) (pa_cons (pv 0) pa_nil)) (pa_cons pe_int (pa_cons pe_int (pa_cons pe_int (pa_cons (pv 1) pa_nil))))))), ?_⟩
  refine ⟨_, rfl, a, _, rfl, .inl hS, fun l hl => ?_⟩
  refine ⟨_, rfl, (by show 5 ≤ sizeLine; decide), fun t ht => ?_⟩
  have n1 : t ≠ l := fun e => by rw [e, upd_same] at ht; cases ht
  have n2 : H t = none := by rw [upd_ne n1] at ht; exact ht
  exact q t l _ n2 hl ((same_new hl _).trans (same_new ht _)) ⟨⟨ns, by rw [upd_ne (fun e => n1 e.symm)]; exact upd_same⟩, ⟨0, 0, 1, b, Int.le_refl 0, upd_same⟩, fun e => n1 e.symm⟩
theorem ok_take (F : Fun K "_law_take" "_law_take" sTake f fd) (G : FnOk P w K mg base CX0 1 g gd ["number"] spMix) (bG : Binds K gd ["number"] []) (kG : PySem.W.keepIn K (.ref g) = true)
    (mG : mg "_law_mix" = some (.ref g)) (mi : mg "int" = none) (ml : mg "len" = none) : FnOk P w K mg base CX0 2 f fd ["tape", "many"] spTake := by
  refine F.ok scTake (fun vs H Q E h => ?_) (fun cdv A outer s H vs Q E hr h => ?_)
  · obtain ⟨a, l, m, rfl, _⟩ := h
    rfl
  obtain ⟨t, l, m, rfl, ⟨⟨ns, hl⟩, ⟨p, v, s, b, h4, h1⟩, h3⟩, m0, m1, q⟩ := h
  have h2 : SqL K H l (ns.map V.int) := SqL.of hl
  refine ⟨_, C8.pss_cut (ps_if (pt_cmpR op_lt (pe_ix ix_list (pv 0) pe_int (fun _ _ => rfl)) (pv 1) (nomark _))
      (pss_one (ps_if (pt_cmpR op_lt (pe_ix ix_list (pv 0) pe_int (fun _ _ => rfl)) (pe_callB call_len_seq (by rfl) ml PySem.boot_len (pa_cons (pe_ix ix_list (pv 0) pe_int (fun _ _ => rfl)) pa_nil)) (nomark _))
        (pss_cons (ps_set (i := 2) scTake.nd rfl (.inl rfl) (pe_ix ix_list (pe_ix ix_list (pv 0) pe_int (fun _ _ => rfl)) (pe_ix ix_list (pv 0) pe_int (fun _ _ => rfl)) (fun _ _ => rfl)))
        (C8.pss_cut (ps_set (i := 2) scTake.nd rfl (.inl rfl) (pe_ifExp (pt_cmpR op_ge (pv 2) pe_int (nomark _)) (pe_op op_mul pe_int (pv 2)) (pe_op op_sub (pe_op op_mul (pe_un un_neg pe_int) (pv 2)) pe_int)))
        (pss_cons (ps_asg (pe_op op_add (pe_ix ix_list (pv 0) pe_int (fun _ _ => rfl)) pe_int) (pg_sub (pv 0) pe_int set_list))
        (pss_cons (ps_asg (pe_call G hr rfl mG kG bG .nil pass0 (pa_cons (pe_op op_add (pe_ix ix_list (pv 0) pe_int (fun _ _ => rfl)) (pv 2)) pa_nil)) (pg_sub (pv 0) pe_int set_list))
        (pss_one (ps_asg (pe_ifExp (pt_cmpR op_ge (pv 2) (pe_op op_pow pe_int pe_int) (nomark _)) (pv 2) (pe_call G hr rfl mG kG bG .nil pass0 (pa_cons (pe_call G hr rfl mG kG bG .nil pass0 (pa_cons (pv 2) pa_nil)) pa_nil))) (pg_sub (pv 0) pe_int set_list)))))))
        (pss_cons (ps_asg (pe_call G hr rfl mG kG bG .nil pass0 (pa_cons (pe_op op_add (pe_ix ix_list (pv 0) pe_int (fun _ _ => rfl)) pe_int) pa_nil)) (pg_sub (pv 0) pe_int set_list))
        (pss_one (ps_asg (pe_ix ix_list (pv 0) pe_int (fun _ _ => rfl)) (pg_sub (pv 0) pe_int set_list))))))
      pss_nil)
    (pss_cons (ps_set (i := 3) scTake.nd rfl (.inl rfl) (pe_op op_mod (pe_callTy call_int1 (by rfl) mi (by decide +kernel) (pa_cons (pe_ix ix_list (pv 0) pe_int (fun _ _ => rfl)) pa_nil)) (pv 1)))
    (pss_cons (ps_asg (pe_op op_fdiv (pe_ix ix_list (pv 0) pe_int (fun _ _ => rfl)) (pv 1)) (pg_sub (pv 0) pe_int set_list))
    (pss_one (ps_ret (pv 3))))), ?_⟩
  refine ⟨fun σ H' => ∃ (c : Option V) (p' v' s' : Int), σ = [some (.ref t), some (.int m), c, none] ∧ But t H H' ∧ H' t = some (.lst [.ref l, .int p', .int v', .int s', .int b]) ∧ 0 ≤ p', ?_, ?_⟩
  · refine ⟨_, rfl, t, _, _, _, rfl, rfl, SqL.of h1, rfl, _, rfl, _, _, rfl, rfl, _, rfl, ?_⟩
    refine ite2 (fun _ => ?_) (fun _ => ⟨none, p, v, s, rfl, But.refl H, h1, h4⟩)
    refine ⟨_, rfl, t, _, _, _, rfl, rfl, SqL.of h1, rfl, _, rfl, t, _, _, _, rfl, rfl, SqL.of h1, rfl, l, _, rfl, .inl h2, _, _, rfl, rfl, _, rfl, ?_⟩
    refine ite2 (fun c => ?_) (fun _ => ?_)
    · have c1 : p < (((ns.map V.int).length : Nat) : Int) := of_decide_eq_true c
      rw [List.length_map] at c1
      have hk : p.toNat < ns.length := by omega
      have hx : (ns.map V.int)[p.toNat]? = some (.int ns[p.toNat]) := by rw [List.getElem?_map, List.getElem?_eq_getElem hk]; rfl
      refine ⟨_, rfl, t, _, _, _, rfl, rfl, SqL.of h1, rfl, _, rfl, t, _, _, _, rfl, rfl, SqL.of h1, rfl, l, _, _, _, rfl, rfl, h2, at_of (by omega) hx, ?_⟩
      generalize ns[p.toNat] = x
      refine ⟨fun σ H' => ∃ y : Int, σ = [some (.ref t), some (.int m), some (.int y), none] ∧ H' = H, ?_, ?_⟩
      · refine ⟨_, rfl, _, _, rfl, rfl, _, rfl, ite2 (fun _ => ?_) (fun _ => ?_)⟩
        · exact ⟨_, rfl, _, _, rfl, rfl, .inl ⟨by decide, by decide⟩, _, rfl, rfl⟩
        · exact ⟨_, rfl, _, rfl, _, _, rfl, rfl, .inl ⟨by decide, by decide⟩, _, _, rfl, rfl, _, rfl, rfl⟩
      · rintro σ H' ⟨y, rfl, rfl⟩
        refine ⟨_, rfl, t, _, _, _, rfl, rfl, SqL.of h1, rfl, _, _, rfl, rfl, _, rfl, t, _, _, _, rfl, rfl, h1, rfl, ?_⟩
        have k1 := But.wr (t := t) (H := H') (o := .lst [.ref l, .int (p + 1), .int v, .int s, .int b])
        refine ⟨_, rfl, t, _, _, _, rfl, rfl, SqL.of upd_same, rfl, _, rfl, _, _, rfl, rfl, _, rfl, fun r => ?_⟩
        refine ⟨_, rfl, t, _, _, _, rfl, rfl, upd_same, rfl, ?_⟩
        have k2 := k1.trans (But.wr (t := t) (o := .lst [.ref l, .int (p + 1), .int v, .int r, .int b]))
        refine ⟨_, rfl, _, _, rfl, rfl, ⟨by decide, by decide, by decide⟩, _, _, rfl, rfl, _, rfl, ite2 (fun _ => ?_) (fun _ => ?_)⟩
        · refine ⟨_, rfl, _, rfl, t, _, _, _, rfl, rfl, upd_same, rfl, ?_⟩
          exact ⟨_, p + 1, y, r, rfl, k2.trans But.wr, upd_same, by omega⟩
        · refine ⟨_, rfl, _, rfl, fun r1 => ⟨_, rfl, fun r2 => ⟨_, rfl, t, _, _, _, rfl, rfl, upd_same, rfl, ?_⟩⟩⟩
          exact ⟨_, p + 1, r2, r, rfl, k2.trans But.wr, upd_same, by omega⟩
    · refine ⟨_, rfl, t, _, _, _, rfl, rfl, SqL.of h1, rfl, _, _, rfl, rfl, _, rfl, fun r => ?_⟩
      refine ⟨_, rfl, t, _, _, _, rfl, rfl, h1, rfl, ?_⟩
      have k1 := But.wr (t := t) (H := H) (o := .lst [.ref l, .int p, .int v, .int r, .int b])
      refine ⟨_, rfl, t, _, _, _, rfl, rfl, SqL.of upd_same, rfl, _, rfl, t, _, _, _, rfl, rfl, upd_same, rfl, ?_⟩
      exact ⟨_, p, r, r, rfl, k1.trans But.wr, upd_same, h4⟩
  · rintro σ H' ⟨c, p', v', s', rfl, g, e1, e4⟩
    refine ⟨_, rfl, t, _, _, _, rfl, rfl, SqL.of e1, rfl, .inl ⟨_, rfl, _, rfl, _, _, rfl, rfl, m0, ?_⟩⟩
    refine ⟨_, rfl, t, _, _, _, rfl, rfl, SqL.of e1, rfl, _, rfl, _, _, rfl, rfl, ⟨m0, m1⟩, _, rfl, t, _, _, _, rfl, rfl, e1, rfl, _, rfl, ?_⟩
    exact q _ _ (Int.emod_nonneg _ (by omega)) (Int.emod_lt_of_pos _ m0) (g.trans But.wr) ⟨⟨ns, (g.trans But.wr) _ _ h3 hl⟩, ⟨p', _, s', b, e4, upd_same⟩, h3⟩
end
end Ver

/-! ## The switches that a law draws -/
namespace Ver
open PySem L2
abbrev sSws : Stmt := top 24
def pools : List (List Str) := [["a", "b", "c", "d", "e"], ["aa", "ab", "b", "ba", "zz"], ["big", "debug", "posix", "win", "x"]]
def Sws (sw : List Str) : Prop := sw ≠ [] ∧ ∃ names ∈ pools, sw.Sublist names
def subs {α : Type} : List α → List (List α)
  | [] => [[]]
  | x :: r => (subs r).map (x :: ·) ++ subs r
theorem mem_subs {α : Type} {l m : List α} (h : l.Sublist m) : l ∈ subs m := by
  induction h with
  | slnil => exact List.mem_singleton.mpr rfl
  | cons a _ ih => exact List.mem_append_right _ ih
  | cons_cons a _ ih => exact List.mem_append_left _ (List.mem_map.mpr ⟨_, ih, rfl⟩)
def swsAll : List (List Str) := (pools.flatMap subs).filter fun l => !l.isEmpty
theorem Sws.mem {sw : List Str} (h : Sws sw) : sw ∈ swsAll := by
  obtain ⟨h0, names, hn, hs⟩ := h
  refine List.mem_filter.mpr ⟨List.mem_flatMap.mpr ⟨names, hn, mem_subs hs⟩, ?_⟩
  cases sw with
  | nil => exact absurd rfl h0
  | cons a r => rfl
theorem Sws.all {sw : List Str} (h : Sws sw) {p : List Str → Bool} (d : swsAll.all p = true) : p sw = true := List.all_eq_true.mp d _ h.mem
def spSws : Sp := fun vs H Q _ => ∃ t l : Addr, vs = [.ref t] ∧ Tape H t l ∧
  ∀ (q : Addr) (H' : Hp) (sw : List Str), Sws sw → SwT H' q sw → But t H H' → Tape H' t l → Q (.ref q) H'
section
variable {P : Program} {w : World} {K : PySem.W.Frag} {mg : Str → Option Value} {base : Heap} {f g : Addr} {fd gd : FuncData}
theorem scSws : FnScope ["tape", "pool", "kept", "name"] ["tape"] (defScope sSws) := ⟨rfl, rfl, rfl, by decide +kernel, rfl, by decide +kernel, by decide +kernel⟩
theorem ok_sws (F : Fun K "_law_switches" "_law_switches" sSws f fd) (G : FnOk P w K mg base CX0 2 g gd ["tape", "many"] spTake) (bG : Binds K gd ["tape", "many"] []) (kG : PySem.W.keepIn K (.ref g) = true)
    (mG : mg "_law_take" = some (.ref g)) (mt : mg "tuple" = none) (ml : mg "len" = none) : FnOk P w K mg base CX0 3 f fd ["tape"] spSws := by
  refine F.ok scSws (fun vs H Q E h => ?_) (fun cdv A outer s H vs Q E hr h => ?_)
  · obtain ⟨a, l, rfl, _⟩ := h
    rfl
  obtain ⟨t, l, rfl, hT, q⟩ := h
  refine ⟨_, C8.pss_cut (ps_set (i := 1) scSws.nd rfl (.inl rfl) (pe_ix ix_list (pe_lst (pa_cons (pe_lst (pa_cons pe_str (pa_cons pe_str (pa_cons pe_str (pa_cons pe_str (pa_cons pe_str pa_nil))))))
        (pa_cons (pe_lst (pa_cons pe_str (pa_cons pe_str (pa_cons pe_str (pa_cons pe_str (pa_cons pe_str pa_nil)))))) (pa_cons (pe_lst (pa_cons pe_str (pa_cons pe_str (pa_cons pe_str (pa_cons pe_str (pa_cons pe_str pa_nil)))))) pa_nil))))
        (pe_call G hr rfl mG kG bG .nil pass0 (pa_cons (pv 0) (pa_cons pe_int pa_nil))) (fun _ _ => rfl)))
    (pss_cons (ps_setLc (i := 2) (own := [("name", 3)]) (g := gName 3) (by rfl) scSws.nd rfl rfl (sw_true rfl rfl rfl (by decide +kernel)) (pi_list (pv 1)) (blkOk_by (own := [("name", 3)]) (N := ["tape", "pool", "kept", "name"]) (sc := defScope sSws) (by decide +kernel))
        (fun _ _ _ _ _ => pg_name (i := 3) scSws.nd rfl (Or.inl rfl)) (fun _ _ _ _ _ => pts_one (pt_cmpR op_eq (pe_call G hr rfl mG kG bG .nil pass0 (pa_cons (pv 0) (pa_cons pe_int pa_nil))) pe_int (nomark _))) (fun _ _ _ _ _ => pv 3))
    (pss_one (ps_ret (pe_ifExp (pt_cmpR op_gt (pe_callB call_len_seq (by rfl) ml PySem.boot_len (pa_cons (pv 2) pa_nil)) pe_int (nomark _)) (pe_callTy call_tuple_fz (by rfl) mt (by decide +kernel) (pa_cons (pv 2) pa_nil))
        (pe_tup_fz (pa_cons (pe_ix ix_list (pv 1) pe_int (fun _ _ => rfl)) pa_nil)))))), ?_⟩
  refine ⟨fun σ H' => ∃ (p : Addr) (names : List Str), σ = [some (.ref t), some (.ref p), none, none] ∧ names ∈ pools ∧ H' p = some (.lst (names.map V.str)) ∧ p ≠ t ∧ But t H H' ∧ Tape H' t l, ?_, ?_⟩
  · refine ⟨(by show 5 ≤ sizeLine; decide), fun p1 n1 => ⟨(by show 5 ≤ sizeLine; decide), fun p2 n2 => ⟨(by show 5 ≤ sizeLine; decide), fun p3 n3 => ⟨(by show 3 ≤ sizeLine; decide), fun p4 n4 => ?_⟩⟩⟩⟩
    have g1 := same_new n1 (.lst [.str "a", .str "b", .str "c", .str "d", .str "e"])
    have g2 := same_new n2 (.lst [.str "aa", .str "ab", .str "b", .str "ba", .str "zz"])
    have g3 := same_new n3 (.lst [.str "big", .str "debug", .str "posix", .str "win", .str "x"])
    have g4 := same_new n4 (.lst [.ref p1, .ref p2, .ref p3])
    have gA := ((g1.trans g2).trans g3).trans g4
    have hT' := hT.same gA
    refine ⟨_, rfl, t, l, 3, rfl, hT', by decide, by decide, fun d H' d0 d1 gB hB => ?_⟩
    have t1 : p1 ≠ t := hT.nt n1
    have t2 : p2 ≠ t := (hT.same g1).nt n2
    have t3 : p3 ≠ t := (hT.same (g1.trans g2)).nt n3
    have t4 : p4 ≠ t := (hT.same ((g1.trans g2).trans g3)).nt n4
    have e1 := gB _ _ t1 (g4 _ _ (g3 _ _ (g2 _ _ (upd_same (H := H) (a := p1) (o := .lst [.str "a", .str "b", .str "c", .str "d", .str "e"])))))
    have e2 := gB _ _ t2 (g4 _ _ (g3 _ _ (upd_same (a := p2) (o := .lst [.str "aa", .str "ab", .str "b", .str "ba", .str "zz"]))))
    have e3 := gB _ _ t3 (g4 _ _ (upd_same (a := p3) (o := .lst [.str "big", .str "debug", .str "posix", .str "win", .str "x"])))
    have e4 := gB _ _ t4 (upd_same (a := p4) (o := .lst [.ref p1, .ref p2, .ref p3]))
    have gC := (But.of gA (t := t)).trans gB
    have c : d = 0 ∨ d = 1 ∨ d = 2 := by omega
    rcases c with rfl | rfl | rfl
    · exact ⟨p4, _, _, _, rfl, rfl, SqL.of e4, rfl, p1, _, rfl, List.mem_cons_self, e1, t1, gC, hB⟩
    · exact ⟨p4, _, _, _, rfl, rfl, SqL.of e4, rfl, p2, _, rfl, List.mem_cons_of_mem _ List.mem_cons_self, e2, t2, gC, hB⟩
    · exact ⟨p4, _, _, _, rfl, rfl, SqL.of e4, rfl, p3, _, rfl, List.mem_cons_of_mem _ (List.mem_cons_of_mem _ List.mem_cons_self), e3, t3, gC, hB⟩
  · rintro σ H1 ⟨p, names, rfl, hn, hp, hpt, g1, hT1⟩
    refine ⟨_, rfl, p, rfl, ⟨_, SqL.of hp⟩, fun D hD => ?_⟩
    have dt : D ≠ t := hT1.nt hD
    have hlen : names.length = 5 := List.all_eq_true.mp (show pools.all (fun l => decide (l.length = 5)) = true by decide +kernel) _ hn |> of_decide_eq_true
    refine lc_list (xs := names.map V.str) (fun i H' => ∃ kept : List Str, kept.Sublist (names.take i) ∧ H' D = some (.lst (kept.map V.str)) ∧ H' p = some (.lst (names.map V.str)) ∧ But t H1 H' ∧ Tape H' t l) ?_ ?_ ?_ ?_
    · exact ⟨[], List.nil_sublist _, upd_same, same_new hD _ _ _ hp, But.of (same_new hD _), hT1.same (same_new hD _)⟩
    · rintro i H' _ ⟨kept, _, _, h3, _⟩
      exact SqL.of h3
    · rintro i x H2 hx ⟨kept, k1, k2, k3, k4, k5⟩
      have hi : i < names.length := by
        obtain ⟨z, _⟩ := List.getElem?_eq_some_iff.mp hx
        rw [List.length_map] at z
        exact z
      have ex : x = .str names[i] := by
        rw [List.getElem?_map, List.getElem?_eq_getElem hi] at hx
        exact (Option.some.inj hx).symm
      subst ex
      have tk : names.take (i + 1) = names.take i ++ [names[i]] := by rw [List.take_succ, List.getElem?_eq_getElem hi]; rfl
      refine ⟨rfl, _, rfl, t, l, 2, rfl, k5, by decide, by decide, fun d H3 _ _ g2 hT3 => ?_⟩
      refine ⟨rfl, _, rfl, ite2 (fun _ => ?_) (fun _ => ?_)⟩
      · refine ⟨_, rfl, _, g2 _ _ dt k2, ?_, kept ++ [names[i]], ?_, ?_, ?_, ?_, ?_⟩
        · have z := k1.length_le
          rw [List.length_take] at z
          rw [List.length_map]
          exact Nat.lt_of_le_of_lt (show kept.length ≤ 5 by omega) (by decide)
        · rw [tk]
          exact k1.append (List.Sublist.refl _)
        · rw [upd_same, List.map_append]
          rfl
        · rw [upd_ne (fun e => ?_)]
          · exact g2 _ _ hpt k3
          · rw [e, hD] at hp
            cases hp
        · exact (k4.trans g2).put hD
        · exact hT3.put dt (hT1.nl hD)
      · exact ⟨kept, k1.trans (by rw [tk]; exact List.sublist_append_left _ _), g2 _ _ dt k2, g2 _ _ hpt k3, k4.trans g2, hT3⟩
    · rintro H2 ⟨kept, k1, k2, k3, k4, k5⟩
      rw [List.length_map, List.take_length] at k1
      have g3 := g1.trans k4
      refine ⟨_, rfl, D, _, rfl, .inl (SqL.of k2), _, _, rfl, rfl, _, rfl, ite2 (fun c => ?_) (fun _ => ?_)⟩
      · refine ⟨_, rfl, D, _, rfl, SqL.of k2, fun r o ho1 ho2 hr => ?_⟩
        refine q r _ kept ⟨?_, names, hn, k1⟩ ⟨o, ho1, ho2, upd_same⟩ (g3.trans (But.of (same_new hr _))) (k5.same (same_new hr _))
        have c1 : (0 : Int) < (((kept.map V.str).length : Nat) : Int) := of_decide_eq_true c
        rintro rfl
        exact absurd c1 (by decide)
      · obtain ⟨n0, r0, rfl⟩ : ∃ n0 r0, names = n0 :: r0 := by
          cases names with
          | nil => cases hlen
          | cons a r => exact ⟨a, r, rfl⟩
        refine ⟨_, rfl, p, _, _, _, rfl, rfl, SqL.of k3, at_of (j := 0) (v := .str n0) rfl rfl, (by show 1 ≤ sizeLine; decide), fun r o ho1 ho2 hr => ?_⟩
        refine q r _ [n0] ⟨List.cons_ne_nil _ _, _, hn, ?_⟩ ⟨o, ho1, ho2, upd_same⟩ (g3.trans (But.of (same_new hr _))) (k5.same (same_new hr _))
        exact (List.nil_sublist r0).cons_cons n0
end
end Ver

/-! ## The formulas that a law draws -/
namespace Ver
open PySem L2
abbrev sGap : Stmt := top 25
abbrev sPart : Stmt := top 26
abbrev sBoth : Stmt := top 27
abbrev sEither : Stmt := top 28
abbrev sForm : Stmt := top 29
theorem sws_names {sw : List Str} (h : Sws sw) : ∀ x ∈ sw, (∀ c ∈ cl x, lett c = true) ∧ cl x ≠ [] ∧ x.length ≤ 6 ∧ PyData.strOk x = true := by
  have := h.all (p := fun l => l.all fun x => (cl x).all lett && !(cl x).isEmpty && decide (x.length ≤ 6) && PyData.strOk x) (by decide +kernel)
  intro x hx
  have k := List.all_eq_true.mp this x hx
  simp only [Bool.and_eq_true, List.all_eq_true, decide_eq_true_eq, Bool.not_eq_true', List.isEmpty_eq_false_iff] at k
  exact ⟨k.1.1.1, k.1.1.2, k.1.2, k.2⟩
theorem sws_len {sw : List Str} (h : Sws sw) : 1 ≤ sw.length ∧ sw.length ≤ 5 := by
  have := h.all (p := fun l => decide (1 ≤ l.length ∧ l.length ≤ 5)) (by decide +kernel)
  exact of_decide_eq_true this
def spGap : Sp := fun vs H Q _ => ∃ t l : Addr, vs = [.ref t] ∧ Tape H t l ∧ ∀ (x : Str) (H' : Hp), Gap (cl x) → x.length ≤ 2 → But t H H' → Tape H' t l → Q (.str x) H'
/-- a pair of a formula and its text -/
def FT (H : Hp) (s : List Str) (R : Fm → List (List Nat) → Prop) (L D S : Nat) (v : V) : Prop := ∃ (p : Addr) (vf : V) (f : Fm) (txt : Str), v = .ref p ∧ H p = some (.tup [vf, .str txt]) ∧ Dv H vf f.toD ∧ Drawn s R L D S f txt
def spGen (R : List Str → Fm → List (List Nat) → Prop) (L D S : Nat → Nat) : Nat → Sp
  | 0 => fun _ _ _ _ => False
  | n + 1 => fun vs H Q _ => ∃ (t l s : Addr) (sw : List Str) (deep : Int), vs = [.ref t, .ref s, .int deep] ∧ Tape H t l ∧ SwT H s sw ∧ Sws sw ∧ deep ≤ n ∧
    ∀ (v : V) (H' : Hp), FT H' sw (R sw) (L n) (D n) (S n) v → But t H H' → Tape H' t l → Q v H'
abbrev spPart := spGen TP lP dP sP
abbrev spBoth := spGen TB lB dB sB
abbrev spEither := spGen TE lE dE sE
def spForm : Sp := fun vs H Q _ => ∃ (t l s : Addr) (sw : List Str), vs = [.ref t, .ref s] ∧ Tape H t l ∧ SwT H s sw ∧ Sws sw ∧
  ∀ (v : V) (H' : Hp), FT H' sw (TE sw) 60 15 1457 v → But t H H' → Tape H' t l → Q v H'
theorem lP_mono : ∀ {m n : Nat}, m ≤ n → lP m ≤ lP n
  | 0, 0, _ => Nat.le_refl _
  | 0, n + 1, _ => by have := lP_mono (Nat.zero_le n); show 6 ≤ 9 * lP n + 46; omega
  | m + 1, n + 1, h => by have := lP_mono (Nat.le_of_succ_le_succ h); show 9 * lP m + 46 ≤ 9 * lP n + 46; omega
theorem Tape.tupne {H : Hp} {t l a : Addr} {xs : List V} (h : Tape H t l) (q : H a = some (.tup xs)) : a ≠ t := by
  obtain ⟨_, ⟨p, v, s, b, _, h1⟩, _⟩ := h
  rintro rfl
  rw [h1] at q
  cases q
theorem FT.keep {H H' : Hp} {s : List Str} {R : Fm → List (List Nat) → Prop} {L D S : Nat} {v : V} (h : FT H s R L D S v) (e : KeepT H H') : FT H' s R L D S v := by
  obtain ⟨p, vf, f, txt, rfl, h1, h2, h3⟩ := h
  exact ⟨p, vf, f, txt, rfl, e _ _ h1, Dv.keep e _ _ h2, h3⟩
section
variable {P : Program} {w : World} {K : PySem.W.Frag} {mg : Str → Option Value} {base : Heap} {f g e : Addr} {fd gd ed : FuncData}
theorem no_ok {sp : Sp} {ps : List Str} (no : ∀ vs H Q E, ¬ sp vs H Q E) : FnOk P w K mg base CX0 0 f fd ps sp :=
  ⟨fun vs H Q E h => absurd h (no vs H Q E), fun A outer s H args us vs Q E _ _ _ _ h => absurd h (no vs H Q E)⟩
theorem scGap : FnScope ["tape"] ["tape"] (defScope sGap) := ⟨rfl, rfl, rfl, by decide +kernel, rfl, by decide +kernel, by decide +kernel⟩
theorem scPart : FnScope ["tape", "switches", "deep", "draw", "name", "formula", "text"] ["tape", "switches", "deep"] (defScope sPart) := ⟨rfl, rfl, rfl, by decide +kernel, rfl, by decide +kernel, by decide +kernel⟩
theorem scBoth : FnScope ["tape", "switches", "deep", "formula", "text", "k", "other", "more"] ["tape", "switches", "deep"] (defScope sBoth) := ⟨rfl, rfl, rfl, by decide +kernel, rfl, by decide +kernel, by decide +kernel⟩
theorem scEither : FnScope ["tape", "switches", "deep", "formula", "text", "k", "other", "more"] ["tape", "switches", "deep"] (defScope sEither) := ⟨rfl, rfl, rfl, by decide +kernel, rfl, by decide +kernel, by decide +kernel⟩
theorem scForm : FnScope ["tape", "switches", "formula", "text"] ["tape", "switches"] (defScope sForm) := ⟨rfl, rfl, rfl, by decide +kernel, rfl, by decide +kernel, by decide +kernel⟩
theorem ok_gap (F : Fun K "_law_gap" "_law_gap" sGap f fd) (G : FnOk P w K mg base CX0 2 g gd ["tape", "many"] spTake) (bG : Binds K gd ["tape", "many"] []) (kG : PySem.W.keepIn K (.ref g) = true)
    (mG : mg "_law_take" = some (.ref g)) : FnOk P w K mg base CX0 3 f fd ["tape"] spGap := by
  refine F.ok scGap (fun vs H Q E h => ?_) (fun cdv A outer s H vs Q E hr h => ?_)
  · obtain ⟨t, l, rfl, _⟩ := h
    rfl
  obtain ⟨t, l, rfl, hT, q⟩ := h
  refine ⟨_, pss_one (ps_ret (pe_ix ix_list (pe_lst (pa_cons pe_str (pa_cons pe_str (pa_cons pe_str (pa_cons pe_str (pa_cons pe_str pa_nil)))))) (pe_call G hr rfl mG kG bG .nil pass0 (pa_cons (pv 0) (pa_cons pe_int pa_nil))) (fun _ _ => rfl))), ?_⟩
  refine ⟨(by show 5 ≤ sizeLine; decide), fun p hp => ?_⟩
  have g1 := same_new hp (.lst [.str "", .str "", .str "", .str " ", .str "  "])
  refine ⟨_, rfl, t, l, 5, rfl, hT.same g1, by decide, by decide, fun d H2 d0 d1 g2 hT2 => ?_⟩
  have e2 := g2 _ _ (hT.nt hp) (upd_same (a := p) (o := .lst [.str "", .str "", .str "", .str " ", .str "  "]))
  have g3 := (But.of g1 (t := t)).trans g2
  have k0 : Gap (cl "") := by show ∀ c ∈ cl "", c = 32; decide +kernel
  have k1 : Gap (cl " ") := by show ∀ c ∈ cl " ", c = 32; decide +kernel
  have k2 : Gap (cl "  ") := by show ∀ c ∈ cl "  ", c = 32; decide +kernel
  have c : d = 0 ∨ d = 1 ∨ d = 2 ∨ d = 3 ∨ d = 4 := by omega
  rcases c with rfl | rfl | rfl | rfl | rfl
  · exact ⟨p, _, _, _, rfl, rfl, SqL.of e2, rfl, q _ H2 k0 (by decide +kernel) g3 hT2⟩
  · exact ⟨p, _, _, _, rfl, rfl, SqL.of e2, rfl, q _ H2 k0 (by decide +kernel) g3 hT2⟩
  · exact ⟨p, _, _, _, rfl, rfl, SqL.of e2, rfl, q _ H2 k0 (by decide +kernel) g3 hT2⟩
  · exact ⟨p, _, _, _, rfl, rfl, SqL.of e2, rfl, q _ H2 k1 (by decide +kernel) g3 hT2⟩
  · exact ⟨p, _, _, _, rfl, rfl, SqL.of e2, rfl, q _ H2 k2 (by decide +kernel) g3 hT2⟩
theorem ok_part {n k : Nat} (hn : n ≤ 3) (h3 : 3 ≤ k) (F : Fun K "_law_part" "_law_part" sPart f fd) (GP : FnOk P w K mg base CX0 k f fd ["tape", "switches", "deep"] (spPart n)) (bP : Binds K fd ["tape", "switches", "deep"] []) (mP : mg "_law_part" = some (.ref f))
    (GE : FnOk P w K mg base CX0 k e ed ["tape", "switches", "deep"] (spEither n)) (bE : Binds K ed ["tape", "switches", "deep"] []) (kE : PySem.W.keepIn K (.ref e) = true) (mE : mg "_law_either" = some (.ref e))
    {a1 a2 : Addr} {d1 d2 : FuncData} (GT : FnOk P w K mg base CX0 2 a1 d1 ["tape", "many"] spTake) (bT : Binds K d1 ["tape", "many"] []) (kT : PySem.W.keepIn K (.ref a1) = true) (mT : mg "_law_take" = some (.ref a1))
    (GG : FnOk P w K mg base CX0 3 a2 d2 ["tape"] spGap) (bG : Binds K d2 ["tape"] []) (kG : PySem.W.keepIn K (.ref a2) = true) (mG : mg "_law_gap" = some (.ref a2)) (ml : mg "len" = none) :
    FnOk P w K mg base CX0 (k + 1) f fd ["tape", "switches", "deep"] (spPart (n + 1)) := by
  refine F.ok scPart (fun vs H Q E h => ?_) (fun cdv A outer s H vs Q E hr h => ?_)
  · obtain ⟨t, l, s, sw, deep, rfl, _⟩ := h
    rfl
  obtain ⟨t, l, s, sw, deep, rfl, hT, hs, hsw, hd, q⟩ := h
  have hr2 := hr.mono (show 2 ≤ k by omega)
  have hr3 := hr.mono h3
  refine ⟨_, pss_cons (ps_set (i := 3) scPart.nd rfl (.inl rfl) (pe_call GT hr2 rfl mT kT bT .nil pass0 (pa_cons (pv 0) (pa_cons pe_int pa_nil))))
    (pss_cons (ps_if (PT.weak (u := fun σ H Q => ∃ x y : Int, σ[3]? = some (some (.int x)) ∧ σ[2]? = some (some (.int y)) ∧ Q (decide (x < 5) || decide (y ≤ 0)) H) (PW.pt (pw_or (pt_cmpR op_lt (pv 3) pe_int (nomark _)) (pw_or1 (pt_cmpR op_le (pv 2) pe_int (nomark _))))) (fun σ H Q q => by
        obtain ⟨x, y, h1, h2, q⟩ := q
        exact ⟨_, h1, _, _, rfl, rfl, _, rfl, ite2 (fun c => by rw [c] at q; exact q) (fun c => ⟨_, h2, _, _, rfl, rfl, _, rfl, by rw [Bool.eq_false_iff.mpr c] at q; exact q⟩)⟩))
      (pss_cons (ps_set (i := 4) scPart.nd rfl (.inl rfl) (pe_ix ix_tup (pv 1) (pe_call GT hr2 rfl mT kT bT .nil pass0 (pa_cons (pv 0) (pa_cons (pe_callB call_len_seq (by rfl) ml PySem.boot_len (pa_cons (pv 1) pa_nil)) pa_nil))) (fun _ _ => rfl)))
      (pss_one (ps_ret (pe_tup (pa_cons (pe_tup (pa_cons pe_str (pa_cons (pv 4) pa_nil))) (pa_cons (pv 4) pa_nil)))))) pss_nil)
    (pss_cons (ps_if (pt_cmpR op_eq (pv 3) pe_int (nomark _)) (pss_one (ps_ret (pe_tup (pa_cons (pe_tup (pa_cons pe_str pa_nil)) (pa_cons pe_str pa_nil))))) pss_nil)
    (pss_cons (ps_if (pt_cmpR op_eq (pv 3) pe_int (nomark _)) (pss_one (ps_ret (pe_tup (pa_cons (pe_tup (pa_cons pe_str pa_nil)) (pa_cons pe_str pa_nil))))) pss_nil)
    (pss_cons (ps_if (pt_cmpR op_eq (pv 3) pe_int (nomark _))
      (pss_cons (ps_asg (pe_call GP hr rfl mP F.kp bP .nil pass0 (pa_cons (pv 0) (pa_cons (pv 1) (pa_cons (pe_op op_sub (pv 2) pe_int) pa_nil)))) (pg_tup rfl (pgs_cons (pg_name (i := 5) scPart.nd rfl (.inl rfl)) (pgs_cons (pg_name (i := 6) scPart.nd rfl (.inl rfl)) pgs_nil))))
      (pss_one (ps_ret (pe_tup (pa_cons (pe_tup (pa_cons pe_str (pa_cons (pv 5) pa_nil))) (pa_cons (pe_op op_add_str (pe_op op_add_str pe_str (pe_call GG hr3 rfl mG kG bG .nil pass0 (pa_cons (pv 0) pa_nil))) (pv 6)) pa_nil)))))) pss_nil)
    (pss_cons (ps_asg (pe_call GE hr rfl mE kE bE .nil pass0 (pa_cons (pv 0) (pa_cons (pv 1) (pa_cons (pe_op op_sub (pv 2) pe_int) pa_nil)))) (pg_tup rfl (pgs_cons (pg_name (i := 5) scPart.nd rfl (.inl rfl)) (pgs_cons (pg_name (i := 6) scPart.nd rfl (.inl rfl)) pgs_nil))))
    (pss_one (ps_ret (pe_tup (pa_cons (pv 5) (pa_cons (pe_op op_add_str (pe_op op_add_str (pe_op op_add_str (pe_op op_add_str pe_str (pe_call GG hr3 rfl mG kG bG .nil pass0 (pa_cons (pv 0) pa_nil))) (pv 6)) (pe_call GG hr3 rfl mG kG bG .nil pass0 (pa_cons (pv 0) pa_nil))) pe_str) pa_nil)))))))))), ?_⟩
  have p6 : 6 ≤ lP n := lP_mono (Nat.zero_le n)
  have dp1 : ∀ n, 1 ≤ dP n := fun n => by induction n with
    | zero => exact Nat.le_refl _
    | succ n ih => show 1 ≤ dP n + 5; omega
  have sp1 : ∀ n, 1 ≤ sP n := fun n => by induction n with
    | zero => exact Nat.le_refl _
    | succ n ih => show 1 ≤ 9 * sP n + 8; omega
  have small : lP n ≤ 10000 := Nat.le_trans (lP_mono hn) (by decide)
  have sz : ∀ m : Nat, m ≤ 100000 → m ≤ sizeLine := fun m h => Nat.le_trans h (by decide)
  refine ⟨_, rfl, t, l, 9, rfl, hT, by decide, by decide, fun dr H1 r0 r1 g1 hT1 => ?_⟩
  have hs1 := hs.but g1 hT
  obtain ⟨w1, w5⟩ := sws_len hsw
  refine ⟨dr, deep, rfl, rfl, ite2 (fun _ => ?_) (fun c => ?_)⟩
  · refine ⟨_, rfl, _, rfl, _, rfl, s, _, rfl, .inr hs1.sq, t, l, _, rfl, hT1, by rw [List.length_map]; omega, by rw [List.length_map]; omega, fun j H2 j0 j1 g2 hT2 => ?_⟩
    rw [List.length_map] at j1
    have hj : j.toNat < sw.length := by omega
    have ex : (sw.map V.str)[j.toNat]? = some (.str sw[j.toNat]) := by rw [List.getElem?_map, List.getElem?_eq_getElem hj]; rfl
    have hm := List.getElem_mem hj
    generalize sw[j.toNat] = x at ex hm
    refine ⟨s, _, j, _, rfl, rfl, (hs1.but g2 hT1).sq, at_of (by omega) ex, ?_⟩
    refine ⟨_, rfl, (by show 2 ≤ sizeLine; decide), fun u1 n1 => ⟨_, rfl, (by show 2 ≤ sizeLine; decide), fun u2 n2 => ?_⟩⟩
    have g3 := same_new n1 (.tup [.str "switch", .str x])
    have g4 := same_new n2 (.tup [.ref u1, .str x])
    obtain ⟨z1, z2, z3, _⟩ := sws_names hsw x hm
    refine q _ _ ⟨u2, .ref u1, .sw x, x, rfl, upd_same, Dv.tup (g4 _ _ upd_same) (DvAll.cons Dv.str (DvAll.cons Dv.str DvAll.nil)), (Drawn.name hm z1 z2 z3).mono (fun _ _ h => h) p6 (dp1 n) (sp1 n)⟩ (((g1.trans g2).trans (But.of g3)).trans (But.of g4)) ((hT2.same g3).same g4)
  rw [Bool.or_eq_true, decide_eq_true_eq, decide_eq_true_eq] at c
  have hdeep : ¬ deep ≤ 0 := fun z => c (.inr z)
  refine ⟨_, rfl, rfl, _, rfl, ite2 (fun _ => ?_) (fun _ => ?_)⟩
  · refine ⟨(by show 1 ≤ sizeLine; decide), fun u1 n1 => ⟨(by show 2 ≤ sizeLine; decide), fun u2 n2 => ?_⟩⟩
    have g3 := same_new n1 (.tup [.str "yes"])
    have g4 := same_new n2 (.tup [.ref u1, .str "1"])
    exact q _ _ ⟨u2, .ref u1, .yes, "1", rfl, upd_same, Dv.tup (g4 _ _ upd_same) (DvAll.cons Dv.str DvAll.nil), Drawn.yes.mono (fun _ _ h => h) p6 (dp1 n) (sp1 n)⟩ ((g1.trans (But.of g3)).trans (But.of g4)) ((hT1.same g3).same g4)
  refine ⟨_, rfl, rfl, _, rfl, ite2 (fun _ => ?_) (fun _ => ?_)⟩
  · refine ⟨(by show 1 ≤ sizeLine; decide), fun u1 n1 => ⟨(by show 2 ≤ sizeLine; decide), fun u2 n2 => ?_⟩⟩
    have g3 := same_new n1 (.tup [.str "no"])
    have g4 := same_new n2 (.tup [.ref u1, .str "0"])
    exact q _ _ ⟨u2, .ref u1, .no, "0", rfl, upd_same, Dv.tup (g4 _ _ upd_same) (DvAll.cons Dv.str DvAll.nil), Drawn.no.mono (fun _ _ h => h) p6 (dp1 n) (sp1 n)⟩ ((g1.trans (But.of g3)).trans (But.of g4)) ((hT1.same g3).same g4)
  obtain ⟨m, rfl⟩ : ∃ m, n = m + 1 := ⟨n - 1, by omega⟩
  have x1 : lP (m + 1) = 9 * lP m + 46 := rfl
  have x2 : dP (m + 1) = dP m + 5 := rfl
  have x3 : sP (m + 1) = 9 * sP m + 8 := rfl
  have x4 : lE m = 9 * lP m + 40 := rfl
  have x5 : dE m = dP m + 4 := rfl
  have x6 : sE m = 9 * sP m + 8 := rfl
  refine ⟨_, rfl, rfl, _, rfl, ite2 (fun _ => ?_) (fun _ => ?_)⟩
  · refine ⟨_, rfl, _, rfl, _, rfl, _, _, rfl, rfl, t, l, s, sw, deep - 1, rfl, hT1, hs1, hsw, by omega, fun v H2 hv g2 hT2 => ?_⟩
    obtain ⟨p, vf, f0, txt, rfl, e1, e2, e3⟩ := hv
    refine ⟨p, _, rfl, SqT.of e1, rfl, _, _, rfl, _, _, rfl, rfl, ?_⟩
    refine ⟨_, rfl, (by show 2 ≤ sizeLine; decide), fun u1 n1 => ?_⟩
    have g3 := same_new n1 (.tup [.str "not", vf])
    have hT3 := hT2.same g3
    refine ⟨_, rfl, t, l, rfl, hT3, fun x H4 k1 k2 g4 hT4 => ?_⟩
    have z := e3.len
    have l1 : ("!" : Str).length = 1 := rfl
    refine ⟨_, _, rfl, rfl, sz _ (by omega), _, rfl, _, _, rfl, rfl, sz _ (by (try simp only [Str.length_append]); omega), (by show 2 ≤ sizeLine; decide), fun u2 n2 => ?_⟩
    have g5 := same_new n2 (.tup [.ref u1, .str ("!" ++ x ++ txt)])
    have kT : KeepT H2 (upd H4 u2 (.tup [.ref u1, .str ("!" ++ x ++ txt)])) := fun a xs h => g5 _ _ (g4.keepT hT3 _ _ (g3 _ _ h))
    refine q _ _ ⟨u2, .ref u1, .not f0, _, rfl, upd_same, Dv.tup (g5 _ _ (g4.keepT hT3 _ _ upd_same)) (DvAll.cons Dv.str (DvAll.cons (Dv.keep kT _ _ e2) DvAll.nil)), (e3.not k1 k2).mono (fun _ _ h => h) (by omega) (by omega) (by omega)⟩ ((((g1.trans g2).trans (But.of g3)).trans g4).trans (But.of g5)) (hT4.same g5)
  · refine ⟨_, rfl, _, rfl, _, rfl, _, _, rfl, rfl, t, l, s, sw, deep - 1, rfl, hT1, hs1, hsw, by omega, fun v H2 hv g2 hT2 => ?_⟩
    obtain ⟨p, vf, f0, txt, rfl, e1, e2, e3⟩ := hv
    refine ⟨p, _, rfl, SqT.of e1, rfl, _, _, rfl, _, _, rfl, rfl, ?_⟩
    refine ⟨_, rfl, _, rfl, t, l, rfl, hT2, fun x H4 k1 k2 g4 hT4 => ?_⟩
    have z := e3.len
    have l1 : ("(" : Str).length = 1 := rfl
    have l2 : (")" : Str).length = 1 := rfl
    refine ⟨_, _, rfl, rfl, sz _ (by omega), _, rfl, _, _, rfl, rfl, sz _ (by (try simp only [Str.length_append]); omega), ?_⟩
    refine ⟨_, rfl, t, l, rfl, hT4, fun y H5 k3 k4 g5 hT5 => ?_⟩
    refine ⟨_, _, rfl, rfl, sz _ (by (try simp only [Str.length_append]); omega), _, _, rfl, rfl, sz _ (by (try simp only [Str.length_append]); omega), (by show 2 ≤ sizeLine; decide), fun u2 n2 => ?_⟩
    have g6 := same_new n2 (.tup [vf, .str ("(" ++ x ++ txt ++ y ++ ")")])
    have kT : KeepT H2 (upd H5 u2 (.tup [vf, .str ("(" ++ x ++ txt ++ y ++ ")")])) := fun a xs h => g6 _ _ (g5.keepT hT4 _ _ (g4.keepT hT2 _ _ h))
    refine q _ _ ⟨u2, vf, f0, _, rfl, upd_same, Dv.keep kT _ _ e2, (e3.par k1 k2 k3 k4).mono (fun _ _ h => h) (by omega) (by omega) (by omega)⟩ ((((g1.trans g2).trans g4).trans g5).trans (But.of g6)) (hT5.same g6)
theorem ok_both {n k : Nat} (hn : n ≤ 3) (h3 : 3 ≤ k) (F : Fun K "_law_both" "_law_both" sBoth f fd) (GP : FnOk P w K mg base CX0 k g gd ["tape", "switches", "deep"] (spPart (n + 1))) (bP : Binds K gd ["tape", "switches", "deep"] []) (kP : PySem.W.keepIn K (.ref g) = true) (mP : mg "_law_part" = some (.ref g))
    {a1 a2 : Addr} {d1 d2 : FuncData} (GT : FnOk P w K mg base CX0 2 a1 d1 ["tape", "many"] spTake) (bT : Binds K d1 ["tape", "many"] []) (kT : PySem.W.keepIn K (.ref a1) = true) (mT : mg "_law_take" = some (.ref a1))
    (GG : FnOk P w K mg base CX0 3 a2 d2 ["tape"] spGap) (bG : Binds K d2 ["tape"] []) (kG : PySem.W.keepIn K (.ref a2) = true) (mG : mg "_law_gap" = some (.ref a2)) (mr : mg "range" = none) :
    FnOk P w K mg base CX0 (k + 1) f fd ["tape", "switches", "deep"] (spBoth (n + 1)) := by
  refine F.ok scBoth (fun vs H Q E h => ?_) (fun cdv A outer s H vs Q E hr h => ?_)
  · obtain ⟨t, l, s, sw, deep, rfl, _⟩ := h
    rfl
  obtain ⟨t, l, s, sw, deep, rfl, hT, hs, hsw, hd, q⟩ := h
  have hr2 := hr.mono (show 2 ≤ k by omega)
  have hr3 := hr.mono h3
  refine ⟨_, pss_cons (ps_asg (pe_call GP hr rfl mP kP bP .nil pass0 (pa_cons (pv 0) (pa_cons (pv 1) (pa_cons (pv 2) pa_nil)))) (pg_tup rfl (pgs_cons (pg_name (i := 3) scBoth.nd rfl (.inl rfl)) (pgs_cons (pg_name (i := 4) scBoth.nd rfl (.inl rfl)) pgs_nil))))
    (pss_cons (ps_for PassesOwn.never rfl (pi_range1 rfl mr (pa_cons (pe_call GT hr2 rfl mT kT bT .nil pass0 (pa_cons (pv 0) (pa_cons pe_int pa_nil))) pa_nil)) (pg_name (i := 5) scBoth.nd rfl (.inl rfl))
      (pss_cons (ps_asg (pe_call GP hr rfl mP kP bP .nil pass0 (pa_cons (pv 0) (pa_cons (pv 1) (pa_cons (pe_op op_sub (pv 2) pe_int) pa_nil)))) (pg_tup rfl (pgs_cons (pg_name (i := 6) scBoth.nd rfl (.inl rfl)) (pgs_cons (pg_name (i := 7) scBoth.nd rfl (.inl rfl)) pgs_nil))))
      (pss_cons (ps_set (i := 3) scBoth.nd rfl (.inl rfl) (pe_tup (pa_cons pe_str (pa_cons (pv 3) (pa_cons (pv 6) pa_nil)))))
      (pss_one (ps_set (i := 4) scBoth.nd rfl (.inl rfl) (pe_op op_add_str (pe_op op_add_str (pe_op op_add_str (pe_op op_add_str (pv 4) (pe_call GG hr3 rfl mG kG bG .nil pass0 (pa_cons (pv 0) pa_nil))) pe_str) (pe_call GG hr3 rfl mG kG bG .nil pass0 (pa_cons (pv 0) pa_nil))) (pv 7)))))))
    (pss_one (ps_ret (pe_tup (pa_cons (pv 3) (pa_cons (pv 4) pa_nil)))))), ?_⟩
  have small : lP n ≤ 10000 := Nat.le_trans (lP_mono hn) (by decide)
  have sz : ∀ m : Nat, m ≤ 1000000 → m ≤ sizeLine := fun m h => Nat.le_trans h (by decide)
  have l1 : ("&" : Str).length = 1 := rfl
  have q1 : lB n = 3 * lP n + 10 := rfl
  have q2 : dB n = dP n + 2 := rfl
  have q3 : sB n = 3 * sP n + 2 := rfl
  have q4 : lE n = 9 * lP n + 40 := rfl
  have q5 : dE n = dP n + 4 := rfl
  have q6 : sE n = 9 * sP n + 8 := rfl
  refine ⟨_, rfl, _, rfl, _, rfl, t, l, s, sw, deep, rfl, hT, hs, hsw, hd, fun v H1 hv g1 hT1 => ?_⟩
  obtain ⟨p, vf, f0, txt, rfl, e1, e2, e3⟩ := hv
  refine ⟨p, _, rfl, SqT.of e1, rfl, _, _, rfl, _, _, rfl, rfl, ?_⟩
  refine ⟨_, rfl, t, l, 3, rfl, hT1, by decide, by decide, fun d H2 d0 d1 g2 hT2 => ?_⟩
  refine ⟨_, rfl, by omega, by omega, ?_⟩
  have g12 := g1.trans g2
  have hd3 : d.toNat ≤ 2 := by omega
  refine for_range (lo := 0) (n := d.toNat) (fun i σ H' => ∃ (vf' : V) (f' : Fm) (txt' : Str) (c5 c6 c7 : Option V), σ = [some (.ref t), some (.ref s), some (.int deep), some vf', some (.str txt'), c5, c6, c7] ∧ But t H H' ∧ Tape H' t l ∧ Dv H' vf' f'.toD ∧
      Drawn sw (TB sw) (lP n + i * (lP n + 5)) (dP n + i) (sP n + i * (sP n + 1)) f' txt') ?_ ?_ ?_
  · exact ⟨vf, f0, txt, none, none, none, rfl, g12, hT2, Dv.keep (g2.keepT hT1) _ _ e2, e3.mono (fun _ _ h => .one h) (by omega) (by omega) (by omega)⟩
  · rintro i σ H3 hi ⟨vf', f', txt', c5, c6, c7, rfl, g3, hT3, k1, k2⟩
    have hi2 : i ≤ 1 := by omega
    refine ⟨_, rfl, _, rfl, _, rfl, _, _, rfl, rfl, t, l, s, sw, deep - 1, rfl, hT3, hs.but g3 hT, hsw, by omega, fun v' H4 hv' g4 hT4 => ?_⟩
    obtain ⟨p', vg, f2, txt2, rfl, m1, m2, m3⟩ := hv'
    refine ⟨p', _, rfl, SqT.of m1, rfl, _, _, rfl, _, _, rfl, rfl, ?_⟩
    refine ⟨_, rfl, _, rfl, (by show 3 ≤ sizeLine; decide), fun r hr' => ?_⟩
    have g5 := same_new hr' (.tup [.str "and", vf', vg])
    have hT5 := hT4.same g5
    have kd : Dv (upd H4 r (.tup [.str "and", vf', vg])) (.ref r) (Fm.and f' f2).toD := Dv.tup upd_same (DvAll.cons Dv.str (DvAll.cons (Dv.keep (KeepT.of g5) _ _ (Dv.keep (g4.keepT hT3) _ _ k1)) (DvAll.cons (Dv.keep (KeepT.of g5) _ _ m2) DvAll.nil)))
    have n1 := k2.len
    have n2 := m3.len
    have n3 : i * (lP n + 5) ≤ lP n + 5 := by
      have : i * (lP n + 5) ≤ 1 * (lP n + 5) := Nat.mul_le_mul_right _ hi2
      omega
    refine ⟨_, rfl, _, rfl, t, l, rfl, hT5, fun x1 H6 x2 x3 g6 hT6 => ?_⟩
    refine ⟨_, _, rfl, rfl, sz _ (by omega), _, _, rfl, rfl, sz _ (by (try simp only [Str.length_append]); omega), _, rfl, t, l, rfl, hT6, fun y1 H7 y2 y3 g7 hT7 => ?_⟩
    refine ⟨_, _, rfl, rfl, sz _ (by (try simp only [Str.length_append]); omega), _, rfl, _, _, rfl, rfl, sz _ (by (try simp only [Str.length_append]); omega), ?_⟩
    refine ⟨.ref r, Fm.and f' f2, _, _, _, _, rfl, (((g3.trans g4).trans (But.of g5)).trans g6).trans g7, hT7, Dv.keep (g7.keepT hT6) _ _ (Dv.keep (g6.keepT hT5) _ _ kd), ?_⟩
    refine (k2.and m3 x2 x3 y2 y3).mono (fun _ _ h => h) ?_ ?_ ?_
    · rw [Nat.add_mul]
      omega
    · omega
    · rw [Nat.add_mul]
      omega
  · rintro σ H3 ⟨vf', f', txt', c5, c6, c7, rfl, g3, hT3, k1, k2⟩
    refine ⟨_, rfl, _, rfl, (by show 2 ≤ sizeLine; decide), fun r hr' => ?_⟩
    have g5 := same_new hr' (.tup [vf', .str txt'])
    refine q _ _ ⟨r, vf', f', txt', rfl, upd_same, Dv.keep (KeepT.of g5) _ _ k1, k2.mono (fun _ _ h => h) ?_ ?_ ?_⟩ (g3.trans (But.of g5)) (hT3.same g5)
    · have : d.toNat * (lP n + 5) ≤ 2 * (lP n + 5) := Nat.mul_le_mul_right _ hd3
      omega
    · omega
    · have : d.toNat * (sP n + 1) ≤ 2 * (sP n + 1) := Nat.mul_le_mul_right _ hd3
      omega
theorem ok_either {n k : Nat} (hn : n ≤ 3) (h3 : 3 ≤ k) (F : Fun K "_law_either" "_law_either" sEither f fd) (GP : FnOk P w K mg base CX0 k g gd ["tape", "switches", "deep"] (spBoth (n + 1))) (bP : Binds K gd ["tape", "switches", "deep"] []) (kP : PySem.W.keepIn K (.ref g) = true) (mP : mg "_law_both" = some (.ref g))
    {a1 a2 : Addr} {d1 d2 : FuncData} (GT : FnOk P w K mg base CX0 2 a1 d1 ["tape", "many"] spTake) (bT : Binds K d1 ["tape", "many"] []) (kT : PySem.W.keepIn K (.ref a1) = true) (mT : mg "_law_take" = some (.ref a1))
    (GG : FnOk P w K mg base CX0 3 a2 d2 ["tape"] spGap) (bG : Binds K d2 ["tape"] []) (kG : PySem.W.keepIn K (.ref a2) = true) (mG : mg "_law_gap" = some (.ref a2)) (mr : mg "range" = none) :
    FnOk P w K mg base CX0 (k + 1) f fd ["tape", "switches", "deep"] (spEither (n + 1)) := by
  refine F.ok scEither (fun vs H Q E h => ?_) (fun cdv A outer s H vs Q E hr h => ?_)
  · obtain ⟨t, l, s, sw, deep, rfl, _⟩ := h
    rfl
  obtain ⟨t, l, s, sw, deep, rfl, hT, hs, hsw, hd, q⟩ := h
  have hr2 := hr.mono (show 2 ≤ k by omega)
  have hr3 := hr.mono h3
  refine ⟨_, pss_cons (ps_asg (pe_call GP hr rfl mP kP bP .nil pass0 (pa_cons (pv 0) (pa_cons (pv 1) (pa_cons (pv 2) pa_nil)))) (pg_tup rfl (pgs_cons (pg_name (i := 3) scEither.nd rfl (.inl rfl)) (pgs_cons (pg_name (i := 4) scEither.nd rfl (.inl rfl)) pgs_nil))))
    (pss_cons (ps_for PassesOwn.never rfl (pi_range1 rfl mr (pa_cons (pe_call GT hr2 rfl mT kT bT .nil pass0 (pa_cons (pv 0) (pa_cons pe_int pa_nil))) pa_nil)) (pg_name (i := 5) scEither.nd rfl (.inl rfl))
      (pss_cons (ps_asg (pe_call GP hr rfl mP kP bP .nil pass0 (pa_cons (pv 0) (pa_cons (pv 1) (pa_cons (pe_op op_sub (pv 2) pe_int) pa_nil)))) (pg_tup rfl (pgs_cons (pg_name (i := 6) scEither.nd rfl (.inl rfl)) (pgs_cons (pg_name (i := 7) scEither.nd rfl (.inl rfl)) pgs_nil))))
      (pss_cons (ps_set (i := 3) scEither.nd rfl (.inl rfl) (pe_tup (pa_cons pe_str (pa_cons (pv 3) (pa_cons (pv 6) pa_nil)))))
      (pss_one (ps_set (i := 4) scEither.nd rfl (.inl rfl) (pe_op op_add_str (pe_op op_add_str (pe_op op_add_str (pe_op op_add_str (pv 4) (pe_call GG hr3 rfl mG kG bG .nil pass0 (pa_cons (pv 0) pa_nil))) pe_str) (pe_call GG hr3 rfl mG kG bG .nil pass0 (pa_cons (pv 0) pa_nil))) (pv 7)))))))
    (pss_one (ps_ret (pe_tup (pa_cons (pv 3) (pa_cons (pv 4) pa_nil)))))), ?_⟩
  have small : lP n ≤ 10000 := Nat.le_trans (lP_mono hn) (by decide)
  have sz : ∀ m : Nat, m ≤ 1000000 → m ≤ sizeLine := fun m h => Nat.le_trans h (by decide)
  have l1 : ("|" : Str).length = 1 := rfl
  have q1 : lB n = 3 * lP n + 10 := rfl
  have q2 : dB n = dP n + 2 := rfl
  have q3 : sB n = 3 * sP n + 2 := rfl
  have q4 : lE n = 9 * lP n + 40 := rfl
  have q5 : dE n = dP n + 4 := rfl
  have q6 : sE n = 9 * sP n + 8 := rfl
  refine ⟨_, rfl, _, rfl, _, rfl, t, l, s, sw, deep, rfl, hT, hs, hsw, hd, fun v H1 hv g1 hT1 => ?_⟩
  obtain ⟨p, vf, f0, txt, rfl, e1, e2, e3⟩ := hv
  refine ⟨p, _, rfl, SqT.of e1, rfl, _, _, rfl, _, _, rfl, rfl, ?_⟩
  refine ⟨_, rfl, t, l, 3, rfl, hT1, by decide, by decide, fun d H2 d0 d1 g2 hT2 => ?_⟩
  refine ⟨_, rfl, by omega, by omega, ?_⟩
  have g12 := g1.trans g2
  have hd3 : d.toNat ≤ 2 := by omega
  refine for_range (lo := 0) (n := d.toNat) (fun i σ H' => ∃ (vf' : V) (f' : Fm) (txt' : Str) (c5 c6 c7 : Option V), σ = [some (.ref t), some (.ref s), some (.int deep), some vf', some (.str txt'), c5, c6, c7] ∧ But t H H' ∧ Tape H' t l ∧ Dv H' vf' f'.toD ∧
      Drawn sw (TE sw) (lB n + i * (lB n + 5)) (dB n + i) (sB n + i * (sB n + 1)) f' txt') ?_ ?_ ?_
  · exact ⟨vf, f0, txt, none, none, none, rfl, g12, hT2, Dv.keep (g2.keepT hT1) _ _ e2, e3.mono (fun _ _ h => .one h) (by omega) (by omega) (by omega)⟩
  · rintro i σ H3 hi ⟨vf', f', txt', c5, c6, c7, rfl, g3, hT3, k1, k2⟩
    have hi2 : i ≤ 1 := by omega
    refine ⟨_, rfl, _, rfl, _, rfl, _, _, rfl, rfl, t, l, s, sw, deep - 1, rfl, hT3, hs.but g3 hT, hsw, by omega, fun v' H4 hv' g4 hT4 => ?_⟩
    obtain ⟨p', vg, f2, txt2, rfl, m1, m2, m3⟩ := hv'
    refine ⟨p', _, rfl, SqT.of m1, rfl, _, _, rfl, _, _, rfl, rfl, ?_⟩
    refine ⟨_, rfl, _, rfl, (by show 3 ≤ sizeLine; decide), fun r hr' => ?_⟩
    have g5 := same_new hr' (.tup [.str "or", vf', vg])
    have hT5 := hT4.same g5
    have kd : Dv (upd H4 r (.tup [.str "or", vf', vg])) (.ref r) (Fm.or f' f2).toD := Dv.tup upd_same (DvAll.cons Dv.str (DvAll.cons (Dv.keep (KeepT.of g5) _ _ (Dv.keep (g4.keepT hT3) _ _ k1)) (DvAll.cons (Dv.keep (KeepT.of g5) _ _ m2) DvAll.nil)))
    have n1 := k2.len
    have n2 := m3.len
    have n3 : i * (lB n + 5) ≤ lB n + 5 := by
      have : i * (lB n + 5) ≤ 1 * (lB n + 5) := Nat.mul_le_mul_right _ hi2
      omega
    refine ⟨_, rfl, _, rfl, t, l, rfl, hT5, fun x1 H6 x2 x3 g6 hT6 => ?_⟩
    refine ⟨_, _, rfl, rfl, sz _ (by omega), _, _, rfl, rfl, sz _ (by (try simp only [Str.length_append]); omega), _, rfl, t, l, rfl, hT6, fun y1 H7 y2 y3 g7 hT7 => ?_⟩
    refine ⟨_, _, rfl, rfl, sz _ (by (try simp only [Str.length_append]); omega), _, rfl, _, _, rfl, rfl, sz _ (by (try simp only [Str.length_append]); omega), ?_⟩
    refine ⟨.ref r, Fm.or f' f2, _, _, _, _, rfl, (((g3.trans g4).trans (But.of g5)).trans g6).trans g7, hT7, Dv.keep (g7.keepT hT6) _ _ (Dv.keep (g6.keepT hT5) _ _ kd), ?_⟩
    refine (k2.or m3 x2 x3 y2 y3).mono (fun _ _ h => h) ?_ ?_ ?_
    · rw [Nat.add_mul]
      omega
    · omega
    · rw [Nat.add_mul]
      omega
  · rintro σ H3 ⟨vf', f', txt', c5, c6, c7, rfl, g3, hT3, k1, k2⟩
    refine ⟨_, rfl, _, rfl, (by show 2 ≤ sizeLine; decide), fun r hr' => ?_⟩
    have g5 := same_new hr' (.tup [vf', .str txt'])
    refine q _ _ ⟨r, vf', f', txt', rfl, upd_same, Dv.keep (KeepT.of g5) _ _ k1, k2.mono (fun _ _ h => h) ?_ ?_ ?_⟩ (g3.trans (But.of g5)) (hT3.same g5)
    · have : d.toNat * (lB n + 5) ≤ 2 * (lB n + 5) := Nat.mul_le_mul_right _ hd3
      omega
    · omega
    · have : d.toNat * (sB n + 1) ≤ 2 * (sB n + 1) := Nat.mul_le_mul_right _ hd3
      omega
theorem ok_gens {a1 a2 a3 a4 a5 : Addr} {d1 d2 d3 d4 d5 : FuncData} (FP : Fun K "_law_part" "_law_part" sPart a3 d3) (bP : Binds K d3 ["tape", "switches", "deep"] []) (mP : mg "_law_part" = some (.ref a3))
    (FB : Fun K "_law_both" "_law_both" sBoth a4 d4) (bB : Binds K d4 ["tape", "switches", "deep"] []) (mB : mg "_law_both" = some (.ref a4))
    (FE : Fun K "_law_either" "_law_either" sEither a5 d5) (bE : Binds K d5 ["tape", "switches", "deep"] []) (mE : mg "_law_either" = some (.ref a5))
    (GT : FnOk P w K mg base CX0 2 a1 d1 ["tape", "many"] spTake) (bT : Binds K d1 ["tape", "many"] []) (kT : PySem.W.keepIn K (.ref a1) = true) (mT : mg "_law_take" = some (.ref a1))
    (GG : FnOk P w K mg base CX0 3 a2 d2 ["tape"] spGap) (bG : Binds K d2 ["tape"] []) (kG : PySem.W.keepIn K (.ref a2) = true) (mG : mg "_law_gap" = some (.ref a2)) (ml : mg "len" = none) (mr : mg "range" = none) :
    ∀ n, n ≤ 3 → FnOk P w K mg base CX0 (3 * n + 4) a3 d3 ["tape", "switches", "deep"] (spPart (n + 1)) ∧ FnOk P w K mg base CX0 (3 * n + 6) a5 d5 ["tape", "switches", "deep"] (spEither (n + 1))
  | 0, _ => by
    have p0 : FnOk P w K mg base CX0 3 a3 d3 ["tape", "switches", "deep"] (spPart 0) := FnOk.mono (no_ok fun _ _ _ _ h => h) (by decide)
    have e0 : FnOk P w K mg base CX0 3 a5 d5 ["tape", "switches", "deep"] (spEither 0) := FnOk.mono (no_ok fun _ _ _ _ h => h) (by decide)
    have p1 := ok_part (by decide) (by decide) FP p0 bP mP e0 bE FE.kp mE GT bT kT mT GG bG kG mG ml
    have b1 := ok_both (by decide) (by decide) FB p1 bP FP.kp mP GT bT kT mT GG bG kG mG mr
    exact ⟨p1, ok_either (by decide) (by decide) FE b1 bB FB.kp mB GT bT kT mT GG bG kG mG mr⟩
  | n + 1, h => by
    obtain ⟨ihp, ihe⟩ := ok_gens FP bP mP FB bB mB FE bE mE GT bT kT mT GG bG kG mG ml mr n (by omega)
    have p1 := ok_part (n := n + 1) (k := 3 * n + 6) (by omega) (by omega) FP (FnOk.mono ihp (by omega)) bP mP ihe bE FE.kp mE GT bT kT mT GG bG kG mG ml
    have b1 := ok_both (n := n + 1) (k := 3 * n + 7) (by omega) (by omega) FB p1 bP FP.kp mP GT bT kT mT GG bG kG mG mr
    exact ⟨p1, ok_either (n := n + 1) (k := 3 * n + 8) (by omega) (by omega) FE b1 bB FB.kp mB GT bT kT mT GG bG kG mG mr⟩
theorem ok_form {k : Nat} (F : Fun K "_law_formula" "_law_formula" sForm f fd) (GE : FnOk P w K mg base CX0 k g gd ["tape", "switches", "deep"] (spEither 3)) (bE : Binds K gd ["tape", "switches", "deep"] []) (kE : PySem.W.keepIn K (.ref g) = true) (mE : mg "_law_either" = some (.ref g)) (ml : mg "len" = none) :
    FnOk P w K mg base CX0 (k + 1) f fd ["tape", "switches"] spForm := by
  refine F.ok scForm (fun vs H Q E h => ?_) (fun cdv A outer s H vs Q E hr h => ?_)
  · obtain ⟨t, l, s, sw, rfl, _⟩ := h
    rfl
  obtain ⟨t, l, s, sw, rfl, hT, hs, hsw, q⟩ := h
  refine ⟨_, pss_cons (ps_asg (pe_call GE hr rfl mE kE bE .nil pass0 (pa_cons (pv 0) (pa_cons (pv 1) (pa_cons pe_int pa_nil)))) (pg_tup rfl (pgs_cons (pg_name (i := 2) scForm.nd rfl (.inl rfl)) (pgs_cons (pg_name (i := 3) scForm.nd rfl (.inl rfl)) pgs_nil))))
    (pss_one (ps_ret (pe_ifExp (pt_cmpR op_le (pe_callB call_len_str (by rfl) ml PySem.boot_len (pa_cons (pv 3) pa_nil)) pe_int (nomark _)) (pe_tup (pa_cons (pv 2) (pa_cons (pv 3) pa_nil))) (pe_tup (pa_cons (pe_tup (pa_cons pe_str pa_nil)) (pa_cons pe_str pa_nil)))))), ?_⟩
  refine ⟨_, rfl, _, rfl, t, l, s, sw, 2, rfl, hT, hs, hsw, by decide, fun v H1 hv g1 hT1 => ?_⟩
  obtain ⟨p, vf, f0, txt, rfl, e1, e2, e3⟩ := hv
  refine ⟨p, _, rfl, SqT.of e1, rfl, _, _, rfl, _, _, rfl, rfl, ?_⟩
  have c1 : lE 2 = 8554 := by decide
  have c2 : dE 2 = 15 := by decide
  have c3 : sE 2 = 1457 := by decide
  refine ⟨_, rfl, txt, rfl, Nat.le_trans (Nat.le_trans e3.len (Nat.le_of_eq c1)) (by decide), _, _, rfl, rfl, _, rfl, ite2 (fun c => ?_) (fun _ => ?_)⟩
  · have hl : txt.length ≤ 60 := by
      have c := of_decide_eq_true c
      omega
    refine ⟨_, rfl, _, rfl, (by show 2 ≤ sizeLine; decide), fun r hr' => ?_⟩
    have g5 := same_new hr' (.tup [vf, .str txt])
    exact q _ _ ⟨r, vf, f0, txt, rfl, upd_same, Dv.keep (KeepT.of g5) _ _ e2, e3.rel, e3.over, hl, Nat.le_trans e3.dep (Nat.le_of_eq c2), Nat.le_trans e3.size (Nat.le_of_eq c3)⟩ (g1.trans (But.of g5)) (hT1.same g5)
  · refine ⟨(by show 1 ≤ sizeLine; decide), fun u1 n1 => ⟨(by show 2 ≤ sizeLine; decide), fun u2 n2 => ?_⟩⟩
    have g3 := same_new n1 (.tup [.str "yes"])
    have g4 := same_new n2 (.tup [.ref u1, .str "1"])
    exact q _ _ ⟨u2, .ref u1, .yes, "1", rfl, upd_same, Dv.tup (g4 _ _ upd_same) (DvAll.cons Dv.str DvAll.nil), Drawn.yes.mono (fun _ _ h => .one (.one h)) (by decide) (by decide) (by decide)⟩ ((g1.trans (But.of g3)).trans (But.of g4)) ((hT1.same g3).same g4)
end
end Ver

/-! ## All configurations, as the law makes them -/
namespace Ver
open PySem L2
abbrev sAll : Stmt := top 30
def spAll : Sp := fun vs H Q _ => ∃ n : Nat, vs = [.int n] ∧ n ≤ 5 ∧ ∀ (p : Addr) (xs : List V) (H' : Hp), H p = none → Same H H' → H' p = some (.lst xs) → DvAll H' xs ((confs n).map confD) → Q (.ref p) H'
section
variable {P : Program} {w : World} {K : PySem.W.Frag} {mg : Str → Option Value} {base : Heap} {f g : Addr} {fd gd : FuncData}
theorem scAll : FnScope ["count", "found", "k", "longer", "row"] ["count"] (defScope sAll) := ⟨rfl, rfl, rfl, by decide +kernel, rfl, by decide +kernel, by decide +kernel⟩
theorem ok_all (F : Fun K "_law_all" "_law_all" sAll f fd) (mr : mg "range" = none) : FnOk P w K mg base CX0 1 f fd ["count"] spAll := by
  refine F.ok scAll (fun vs H Q E h => ?_) (fun cdv A outer s H vs Q E hr h => ?_)
  · obtain ⟨n, rfl, _⟩ := h
    rfl
  obtain ⟨n, rfl, hn, q⟩ := h
  refine ⟨_, pss_cons (ps_set (i := 1) scAll.nd rfl (.inl rfl) (pe_lstD (ds := [confD []]) (env := []) (pds_cons (pd_tup pds_nil (Nat.le_of_ble_eq_true rfl)) pds_nil) (Nat.le_of_ble_eq_true rfl)))
    (pss_cons (ps_for PassesOwn.never rfl (pi_range1 rfl mr (pa_cons (pv 0) pa_nil)) (pg_name (i := 2) scAll.nd rfl (.inl rfl))
      (pss_cons (ps_set (i := 3) scAll.nd rfl (.inl rfl) (pe_lst pa_nil))
      (pss_cons (ps_for PassesOwn.never rfl (pi_list (pv 1)) (pg_name (i := 4) scAll.nd rfl (.inl rfl))
        (pss_one (ps_expr (pe_bm PySem.F.plainAttrs_list PySem.F.slot_list_extend PySem.F.type_list_extend mt_extend (pv 3) (pa_cons
          (PE.ex fun r : { r : List Int // r.length ≤ 10 } => pe_lstD (ds := [.tuple (r.1.map PyData.int ++ [.int 0]), .tuple (r.1.map PyData.int ++ [.int 1])]) (env := [(4, .tuple (r.1.map PyData.int))])
            (pds_cons (pd_catA (pd_v 4 (pv 4) List.mem_cons_self) (pd_tup (pds_cons pd_int pds_nil) (Nat.le_of_ble_eq_true rfl)) (by rw [List.length_map]; have := r.2; show _ + 1 ≤ 1000; omega))
            (pds_cons (pd_catA (pd_v 4 (pv 4) List.mem_cons_self) (pd_tup (pds_cons pd_int pds_nil) (Nat.le_of_ble_eq_true rfl)) (by rw [List.length_map]; have := r.2; show _ + 1 ≤ 1000; omega)) pds_nil)) (Nat.le_of_ble_eq_true rfl)) pa_nil)))))
      (pss_one (ps_set (i := 1) scAll.nd rfl (.inl rfl) (pv 3))))))
    (pss_one (ps_ret (pv 1)))), ?_⟩
  refine ⟨(fun i d h => by cases h), fun p0 xs0 H1 n0 g1 e1 d1 => ?_⟩
  refine ⟨_, rfl, _, rfl, by omega, by omega, ?_⟩
  refine for_range (lo := 0) (n := n) (fun k σ H' => ∃ (p : Addr) (xs : List V) (c2 c3 c4 : Option V), σ = [some (.int n), some (.ref p), c2, c3, c4] ∧ H p = none ∧ Same H H' ∧ H' p = some (.lst xs) ∧ DvAll H' xs ((confs k).map confD)) ?_ ?_ ?_
  · exact ⟨p0, xs0, none, none, none, rfl, n0, g1, e1, d1⟩
  · rintro k σ H2 hk ⟨p, xs, c2, c3, c4, rfl, np, g2, e2, d2⟩
    have hk5 : 2 ^ k ≤ 32 := pow32 (by omega)
    have hxl : xs.length = 2 ^ k := by rw [d2.length, List.length_map, confs_len]
    refine ⟨(by show 0 ≤ sizeLine; decide), fun l hl => ?_⟩
    have g3 := same_new hl (.lst [])
    have nl : H l = none := g2.free hl
    have hpl : p ≠ l := ne_of_none e2 hl
    refine ⟨_, rfl, p, rfl, ⟨_, SqL.of (g3 _ _ e2)⟩, ?_⟩
    refine for_list (xs := xs) (fun i σ H' => ∃ (ys : List V) (c2 c4 : Option V), σ = [some (.int n), some (.ref p), c2, some (.ref l), c4] ∧ Same H H' ∧ Same H2 H' ∧ H' l = some (.lst ys) ∧ DvAll H' ys ((((confs k).take i).flatMap fun r => [r ++ [0], r ++ [1]]).map confD)) ?_ ?_ ?_ ?_
    · exact ⟨[], _, c4, rfl, g2.trans g3, g3, upd_same, DvAll.nil⟩
    · rintro i σ H' _ ⟨ys, c2, c4, rfl, _, g4, _⟩
      exact SqL.of (g4 _ _ e2)
    · rintro i x σ H3 hx ⟨ys, c2, c4, rfl, g4, g5, e3, d3⟩
      have hi : i < (confs k).length := by
        have := (List.getElem?_eq_some_iff.mp hx).1
        rw [confs_len]
        omega
      have er : (confs k)[i]? = some (confs k)[i] := List.getElem?_eq_getElem hi
      generalize (confs k)[i] = r at er
      have hr5 := confs_row k r (List.mem_of_getElem? er)
      obtain ⟨x', ex, dx⟩ := DvAll.get d2 (show ((confs k).map confD)[i]? = some (confD r) by rw [List.getElem?_map, er]; rfl)
      rw [hx] at ex
      cases ex
      refine ⟨_, rfl, .inl ⟨rfl, _, SqL.of e3⟩, ⟨r, by omega⟩, ?_, ?_⟩
      · intro j d hm
        rcases List.mem_cons.mp hm with z | z
        · cases z
          exact ⟨x, rfl, Dv.keep (KeepT.of g5) _ _ dx⟩
        · cases z
      · intro b zs H4 nb g6 e4 d4
        have ly := d3.length
        rw [List.length_map] at ly
        have lz := d4.length
        have lt := confs_take_len k i
        refine ⟨l, b, ys, zs, rfl, rfl, g6 _ _ e3, e4, room5 (by rw [ly, lz]; show _ + 2 ≤ 1000; omega), ?_⟩
        have kt : KeepT H4 (upd H4 l (.lst (ys ++ zs))) := fun a us h => by
          rw [upd_ne (fun z => by rw [z, g6 _ _ e3] at h; cases h)]
          exact h
        have g7 : Same H (upd H4 l (.lst (ys ++ zs))) := same_put (g4.trans g6) nl
        have g8 : Same H2 (upd H4 l (.lst (ys ++ zs))) := same_put (g5.trans g6) hl
        refine ⟨ys ++ zs, _, _, rfl, g7, g8, upd_same, ?_⟩
        rw [flatMap_take _ _ er, List.map_append]
        refine DvAll.append (DvAll.keep kt _ _ (DvAll.keep (KeepT.of g6) _ _ d3)) (DvAll.keep kt _ _ ?_)
        show DvAll H4 zs [.tuple ((r ++ [0]).map PyData.int), .tuple ((r ++ [1]).map PyData.int)]
        rw [List.map_append, List.map_append]
        exact d4
    · rintro σ H3 ⟨ys, c2, c4, rfl, g4, g5, e3, d3⟩
      rw [hxl, ← confs_len k, List.take_length] at d3
      exact ⟨_, rfl, l, ys, _, _, _, rfl, nl, g4, e3, d3⟩
  · rintro σ H2 ⟨p, xs, c2, c3, c4, rfl, np, g2, e2, d2⟩
    exact ⟨_, rfl, q p xs H2 np g2 e2 d2⟩
end
end Ver

/-! ## configurations -/
namespace Ver
open PySem L2
abbrev sConf : Stmt := top 1
section
variable {P : Program} {w : World} {K : PySem.W.Frag} {mg : Str → Option Value} {base : Heap} {f g : Addr} {fd gd : FuncData}
theorem scConf : FnScope ["count", "found", "_", "begun", "bit"] ["count"] (defScope sConf) := ⟨rfl, rfl, rfl, by decide +kernel, rfl, by decide +kernel, by decide +kernel⟩
theorem ok_conf (F : Fun K "configurations" "configurations" sConf f fd) (mr : mg "range" = none) : FnOk P w K mg base CX0 1 f fd ["count"] spAll := by
  refine F.ok scConf (fun vs H Q E h => ?_) (fun cdv A outer s H vs Q E hr h => ?_)
  · obtain ⟨n, rfl, _⟩ := h
    rfl
  obtain ⟨n, rfl, hn, q⟩ := h
  refine ⟨_, pss_cons (ps_set (i := 1) scConf.nd rfl (.inl rfl) (pe_lstD (ds := [confD []]) (env := []) (pds_cons (pd_tup pds_nil (Nat.le_of_ble_eq_true rfl)) pds_nil) (Nat.le_of_ble_eq_true rfl)))
    (pss_cons (ps_for PassesOwn.never rfl (pi_range1 rfl mr (pa_cons (pv 0) pa_nil)) (pg_name (i := 2) scConf.nd rfl (.inl rfl))
      (pss_one (ps_setLc2 (i := 1) (own := [("begun", 3), ("bit", 4)]) (vs1 := [4]) (g := gName 3) (g1 := gName 4) (wi1 := iTup K (tTup (tCons (tC (.int 0)) (tCons (tC (.int 1)) tNil)))) (by rfl) scConf.nd rfl rfl (sw_true rfl rfl rfl (by decide +kernel)) (pi_list (pv 1))
        (blkOk_by (own := [("begun", 3), ("bit", 4)]) (N := ["count", "found", "_", "begun", "bit"]) (sc := defScope sConf) (by decide +kernel)) (by decide)
        (fun _ _ _ _ _ => pg_name (i := 3) scConf.nd rfl (Or.inl rfl)) (fun _ _ _ _ _ => pts_nil) (fun _ _ _ _ _ => pi_tup (pe_tup (pa_cons pe_int (pa_cons pe_int pa_nil)))) (fun _ _ _ _ _ => pg_name (i := 4) scConf.nd rfl (Or.inl rfl)) (fun _ _ _ _ _ => pts_nil)
        (fun _ _ _ _ _ => PE.ex fun r : { r : List Int × Int // r.1.length ≤ 10 } => (pd_catA (env := [(3, .tuple (r.1.1.map PyData.int)), (4, .int r.1.2)]) (pd_v 3 (pv 3) List.mem_cons_self) (pd_tup (pds_cons (pd_v 4 (pv 4) (List.mem_cons_of_mem _ List.mem_cons_self)) pds_nil) (Nat.le_of_ble_eq_true rfl)) (by rw [List.length_map]; have := r.2; show _ + 1 ≤ 1000; omega)).pe))))
    (pss_one (ps_ret (pv 1)))), ?_⟩
  refine ⟨(fun i d h => by cases h), fun p0 xs0 H1 n0 g1 e1 d1 => ?_⟩
  refine ⟨_, rfl, _, rfl, by omega, by omega, ?_⟩
  refine for_range (lo := 0) (n := n) (fun k σ H' => ∃ (p : Addr) (xs : List V) (c2 : Option V), σ = [some (.int n), some (.ref p), c2, none, none] ∧ H p = none ∧ Same H H' ∧ H' p = some (.lst xs) ∧ DvAll H' xs ((confs k).map confD)) ?_ ?_ ?_
  · exact ⟨p0, xs0, none, rfl, n0, g1, e1, d1⟩
  · rintro k σ H2 hk ⟨p, xs, c2, rfl, np, g2, e2, d2⟩
    have hk5 : 2 ^ k ≤ 32 := pow32 (by omega)
    have hxl : xs.length = 2 ^ k := by rw [d2.length, List.length_map, confs_len]
    refine ⟨_, rfl, p, rfl, ⟨_, SqL.of e2⟩, fun D hD => ?_⟩
    have g3 := same_new hD (.lst [])
    have nD : H D = none := g2.free hD
    refine ⟨fun i m H' => m = xs.length - i ∧ i ≤ xs.length ∧ Same H H' ∧ Same H2 H' ∧ ∃ ys : List V, H' D = some (.lst ys) ∧ DvAll H' ys ((((confs k).take i).flatMap fun r => [r ++ [0], r ++ [1]]).map confD), ⟨_, rfl, Nat.zero_le _, g2.trans g3, g3, [], upd_same, DvAll.nil⟩, ?_⟩
    rintro i m H3 ⟨rfl, hi, g4, g5, ys, e3, d3⟩
    by_cases hlt : i < xs.length
    · refine .inr ⟨⟨xs, xs[i], SqL.of (g5 _ _ e2), by simp [hlt]⟩, fun H' => Same H H' ∧ Same H2 H' ∧ ∃ ys : List V, H' D = some (.lst ys) ∧ DvAll H' ys ((((confs k).take (i + 1)).flatMap fun r => [r ++ [0], r ++ [1]]).map confD), fun H' p' => ⟨xs.length - (i + 1), by omega, rfl, hlt, p'⟩, fun x H' y => ?_⟩
      obtain ⟨rfl, y⟩ := y
      have hx := y xs (SqL.of (g5 _ _ e2))
      have hi' : i < (confs k).length := by rw [confs_len]; omega
      have er : (confs k)[i]? = some (confs k)[i] := List.getElem?_eq_getElem hi'
      generalize (confs k)[i] = r at er
      have hr5 := confs_row k r (List.mem_of_getElem? er)
      obtain ⟨x', ex, dx⟩ := DvAll.get d2 (show ((confs k).map confD)[i]? = some (confD r) by rw [List.getElem?_map, er]; rfl)
      rw [hx] at ex
      cases ex
      rw [flatMap_take _ _ er]
      generalize hB : ((confs k).take i).flatMap (fun r => [r ++ [0], r ++ [1]]) = B at d3
      have lB' : B.length ≤ 2 * 2 ^ k := by rw [← hB]; exact confs_take_len k i
      refine ⟨rfl, (by show 2 ≤ sizeLine; decide), fun u hu => ⟨u, rfl, ⟨_, SqT.of upd_same⟩, ?_⟩⟩
      have g6 := same_new hu (.tup [.int 0, .int 1])
      refine ⟨fun j m H'' => m = 2 - j ∧ j ≤ 2 ∧ Same H H'' ∧ Same H2 H'' ∧ H'' u = some (.tup [.int 0, .int 1]) ∧ ∃ ys : List V, H'' D = some (.lst ys) ∧ DvAll H'' ys ((B ++ [r ++ [0], r ++ [1]].take j).map confD), ⟨_, rfl, Nat.zero_le _, g4.trans g6, g5.trans g6, upd_same, ys, g6 _ _ e3, by rw [List.take_zero, List.append_nil]; exact DvAll.keep (KeepT.of g6) _ _ d3⟩, ?_⟩
      rintro j m H4 ⟨rfl, hj, g7, g8, eu, zs, e4, d4⟩
      by_cases hj2 : j < 2
      · refine .inr ⟨⟨[.int 0, .int 1], [V.int 0, .int 1][j], SqT.of eu, by simp [hj2]⟩, fun H'' => Same H H'' ∧ Same H2 H'' ∧ H'' u = some (.tup [.int 0, .int 1]) ∧ ∃ ys : List V, H'' D = some (.lst ys) ∧ DvAll H'' ys ((B ++ [r ++ [0], r ++ [1]].take (j + 1)).map confD), fun H'' p' => ⟨2 - (j + 1), by omega, rfl, hj2, p'⟩, fun z H'' y => ?_⟩
        obtain ⟨rfl, y⟩ := y
        have hz := y _ (SqT.of eu)
        obtain ⟨b, rfl, ht⟩ : ∃ b : Int, z = .int b ∧ [r ++ [0], r ++ [1]].take (j + 1) = [r ++ [0], r ++ [1]].take j ++ [r ++ [b]] := by
          match j, hz with
          | 0, hz => exact ⟨0, (Option.some.inj hz).symm, rfl⟩
          | 1, hz => exact ⟨1, (Option.some.inj hz).symm, rfl⟩
        refine ⟨rfl, ⟨(r, b), by show r.length ≤ 10; omega⟩, ?_, ?_⟩
        · intro i' d hm
          rcases List.mem_cons.mp hm with e | hm
          · cases e
            exact ⟨x, rfl, Dv.keep (KeepT.of g8) _ _ dx⟩
          · rcases List.mem_cons.mp hm with e | hm
            · cases e
              exact ⟨_, rfl, Dv.int⟩
            · cases hm
        · intro v H5 g9 dv
          have lz := d4.length
          rw [List.length_map, List.length_append] at lz
          have l2 : ([r ++ [0], r ++ [1]].take j).length ≤ 2 := by rw [List.length_take]; exact Nat.min_le_right _ _
          refine ⟨zs, g9 _ _ e4, Nat.lt_of_le_of_lt (show zs.length ≤ 66 by omega) (by decide), ?_⟩
          have kt : KeepT H5 (upd H5 D (.lst (zs ++ [v]))) := fun a us h => by
            rw [upd_ne (fun z => by rw [z, g9 _ _ e4] at h; cases h)]
            exact h
          refine ⟨same_put (g7.trans g9) nD, same_put (g8.trans g9) hD, by rw [upd_ne (fun z => by rw [z, e4] at eu; cases eu)]; exact g9 _ _ eu, zs ++ [v], upd_same, ?_⟩
          rw [ht, ← List.append_assoc, List.map_append]
          refine DvAll.append (DvAll.keep kt _ _ (DvAll.keep (KeepT.of g9) _ _ d4)) (DvAll.keep kt _ _ (DvAll.cons ?_ DvAll.nil))
          show Dv H5 v (.tuple ((r ++ [b]).map PyData.int))
          rw [List.map_append]
          exact dv
      · have : j = 2 := by omega
        subst this
        exact .inl ⟨⟨[.int 0, .int 1], SqT.of eu, Nat.le_refl _⟩, g7, g8, zs, e4, d4⟩
    · have : i = xs.length := by omega
      subst this
      refine .inl ⟨⟨xs, SqL.of (g5 _ _ e2), Nat.le_refl _⟩, D, ys, _, rfl, nD, g4, e3, ?_⟩
      rw [hxl, ← confs_len k, List.take_length] at d3
      exact d3
  · rintro σ H2 ⟨p, xs, c2, rfl, np, g2, e2, d2⟩
    exact ⟨_, rfl, q p xs H2 np g2 e2 d2⟩
end
end Ver

/-! ## _law_true -/
namespace Ver
open PySem L2
abbrev sTrue : Stmt := top 31
/-- switches, a formula over them, a configuration -/
structure TrOk (K : PySem.W.Frag) (H : Hp) (a : Addr) (s : List Str) (v : V) (f : Fm) (b : Addr) (c : List Int) : Prop where
  sws : SwT H a s
  dat : Dv H v f.toD
  over : f.Over s
  cnf : SqT K H b (c.map V.int)
  len : c.length = s.length
def spTrue (K : PySem.W.Frag) (n : Nat) : Sp := fun vs H Q _ => ∃ (a : Addr) (s : List Str) (v : V) (f : Fm) (b : Addr) (c : List Int), vs = [.ref a, v, .ref b] ∧ TrOk K H a s v f b c ∧ f.dep ≤ n ∧ Q (.bl (ev s c f)) H
section
variable {P : Program} {w : World} {K : PySem.W.Frag} {mg : Str → Option Value} {base : Heap} {f g : Addr} {fd gd : FuncData}
theorem scTrue : FnScope ["switches", "formula", "configuration", "tag", "first"] ["switches", "formula", "configuration"] (defScope sTrue) := ⟨rfl, rfl, rfl, by decide +kernel, rfl, by decide +kernel, by decide +kernel⟩
theorem ok_true1 {n : Nat} (F : Fun K "_law_true" "_law_true" sTrue f fd) (G : FnOk P w K mg base CX0 n f fd ["switches", "formula", "configuration"] (spTrue K n)) (bG : Binds K fd ["switches", "formula", "configuration"] []) (kG : PySem.W.keepIn K (.ref f) = true)
    (mG : mg "_law_true" = some (.ref f)) : FnOk P w K mg base CX0 (n + 1) f fd ["switches", "formula", "configuration"] (spTrue K (n + 1)) := by
  refine F.ok scTrue (fun vs H Q E h => ?_) (fun cdv A outer s H vs Q E hr h => ?_)
  · obtain ⟨a, s, v, f, b, c, rfl, _⟩ := h
    rfl
  obtain ⟨a, sw, v, fm, b, c, rfl, ok, hd, q⟩ := h
  refine ⟨_, pss_cons (ps_set (i := 3) scTrue.nd rfl (.inl rfl) (pe_ix ix_tup (pv 1) pe_int (fun _ _ => rfl)))
    (pss_cons (ps_if (PW.pt (pw_or (pt_cmpR op_eq (pv 3) pe_str (nomark _)) (pw_or1 (pt_cmpR op_eq (pv 3) pe_str (nomark _))))) (pss_one (ps_ret (pe_cmpR op_eq (pv 3) pe_str (nomark _)))) pss_nil)
    (pss_cons (ps_if (pt_cmpR op_eq (pv 3) pe_str (nomark _)) (pss_one (ps_ret (pe_cmpR op_eq (pe_ix ix_tup (pv 2) (pe_bmT PySem.F.slot_tuple_index PySem.F.type_tuple_index mt_tup_index (pv 0) (pa_cons (pe_ix ix_tup (pv 1) pe_int (fun _ _ => rfl)) pa_nil)) (fun _ _ => rfl)) pe_int (nomark _)))) pss_nil)
    (pss_cons (ps_if (pt_cmpR op_eq (pv 3) pe_str (nomark _)) (pss_one (ps_ret (pe_not (pe_call G hr rfl mG kG bG .nil pass0 (pa_cons (pv 0) (pa_cons (pe_ix ix_tup (pv 1) pe_int (fun _ _ => rfl)) (pa_cons (pv 2) pa_nil))))))) pss_nil)
    (pss_cons (ps_set (i := 4) scTrue.nd rfl (.inl rfl) (pe_call G hr rfl mG kG bG .nil pass0 (pa_cons (pv 0) (pa_cons (pe_ix ix_tup (pv 1) pe_int (fun _ _ => rfl)) (pa_cons (pv 2) pa_nil)))))
    (pss_cons (ps_if (pt_cmpR op_eq (pv 3) pe_str (nomark _)) (pss_one (ps_ret (pe_and (pv 4) (pe_one (pe_call G hr rfl mG kG bG .nil pass0 (pa_cons (pv 0) (pa_cons (pe_ix ix_tup (pv 1) pe_int (fun _ _ => rfl)) (pa_cons (pv 2) pa_nil)))))))) pss_nil)
    (pss_one (ps_ret (pe_or (pv 4) (pe_one (pe_call G hr rfl mG kG bG .nil pass0 (pa_cons (pv 0) (pa_cons (pe_ix ix_tup (pv 1) pe_int (fun _ _ => rfl)) (pa_cons (pv 2) pa_nil))))))))))))), ?_⟩
  obtain ⟨o1, o2, o3, o4, o5⟩ := ok
  cases fm with
  | yes =>
    obtain ⟨p, xs, rfl, e1, e2⟩ := o2.of_tup
    unfold DvAll at e2
    obtain ⟨x0, r0, rfl, e3, _⟩ := e2
    cases e3.of_str
    refine ⟨_, rfl, p, _, _, _, rfl, rfl, SqT.of e1, at_of (j := 0) (v := .str "yes") rfl rfl, ?_⟩
    exact ⟨_, rfl, rfl, _, rfl, iteDT rfl (iteT ⟨_, rfl, rfl, q⟩)⟩
  | no =>
    obtain ⟨p, xs, rfl, e1, e2⟩ := o2.of_tup
    unfold DvAll at e2
    obtain ⟨x0, r0, rfl, e3, _⟩ := e2
    cases e3.of_str
    refine ⟨_, rfl, p, _, _, _, rfl, rfl, SqT.of e1, at_of (j := 0) (v := .str "no") rfl rfl, ?_⟩
    have e : ev sw c .no = decide ((V.str "no" : V) = V.str "yes") := (decide_eq_false tYN.symm).symm
    rw [e] at q
    exact ⟨_, rfl, rfl, _, rfl, iteDF tYN.symm ⟨_, rfl, rfl, _, rfl, iteDT rfl ⟨_, rfl, rfl, q⟩⟩⟩
  | sw x =>
    obtain ⟨p, xs, rfl, e1, e2⟩ := o2.of_tup
    unfold DvAll DvAll at e2
    obtain ⟨x0, r0, rfl, e3, x1, r1, rfl, e4, _⟩ := e2
    cases e3.of_str
    cases e4.of_str
    refine ⟨_, rfl, p, _, _, _, rfl, rfl, SqT.of e1, at_of (j := 0) (v := .str "switch") rfl rfl, ?_⟩
    refine ⟨_, rfl, rfl, _, rfl, iteDF tYS.symm ⟨_, rfl, rfl, _, rfl, iteDF tNS.symm ⟨_, rfl, rfl, _, rfl, iteDT rfl ?_⟩⟩⟩
    obtain ⟨i1, i2⟩ := ixOf_get (show x ∈ sw from o3)
    have i3 : ixOf x sw < c.length := by rw [o5]; exact ixOf_lt o3
    have ec : (c.map V.int)[ixOf x sw]? = some (.int (c.getD (ixOf x sw) 0)) := by
      rw [List.getElem?_map, List.getElem?_eq_getElem i3, List.getD_eq_getElem?_getD, List.getElem?_eq_getElem i3]
      rfl
    have o1' := o1
    obtain ⟨ob, b1, b2, b3⟩ := o1
    refine ⟨_, rfl, _, rfl, ⟨a, ob, _, rfl, b3, b1, b2⟩, _, rfl, p, _, _, _, rfl, rfl, SqT.of e1, at_of (j := 1) (v := .str x) rfl rfl, a, sw, x, ixOf x sw, rfl, rfl, o1'.sq, i1, i2, b, _, _, _, rfl, rfl, o4, at_of rfl ec, rfl, ?_⟩
    have e : decide (V.int (c.getD (ixOf x sw) 0) = V.int 1) = ev sw c (.sw x) := by
      show _ = decide (c.getD (ixOf x sw) 0 = 1)
      by_cases z : c.getD (ixOf x sw) 0 = 1
      · rw [z, decide_eq_true rfl, decide_eq_true rfl]
      · rw [decide_eq_false z, decide_eq_false (fun y => z (V.int.inj y))]
    have q2 : Q (.bl (decide (V.int (c.getD (ixOf x sw) 0) = V.int 1))) H := by rw [e]; exact q
    exact q2
  | not f0 =>
    obtain ⟨p, xs, rfl, e1, e2⟩ := o2.of_tup
    unfold DvAll DvAll at e2
    obtain ⟨x0, r0, rfl, e3, x1, r1, rfl, e4, _⟩ := e2
    cases e3.of_str
    refine ⟨_, rfl, p, _, _, _, rfl, rfl, SqT.of e1, at_of (j := 0) (v := .str "not") rfl rfl, ?_⟩
    refine ⟨_, rfl, rfl, _, rfl, iteDF tYT.symm ⟨_, rfl, rfl, _, rfl, iteDF tNT.symm ⟨_, rfl, rfl, _, rfl, iteDF tST.symm ⟨_, rfl, rfl, _, rfl, iteDT rfl ?_⟩⟩⟩⟩
    exact ⟨_, rfl, _, rfl, p, _, _, _, rfl, rfl, SqT.of e1, at_of (j := 1) (v := x1) rfl rfl, _, rfl, a, sw, x1, f0, b, c, rfl, ⟨o1, e4, o3, o4, o5⟩, (by have : f0.dep + 1 ≤ n + 1 := hd; omega), _, rfl, q⟩
  | and f0 f1 =>
    obtain ⟨p, xs, rfl, e1, e2⟩ := o2.of_tup
    unfold DvAll DvAll DvAll at e2
    obtain ⟨x0, r0, rfl, e3, x1, r1, rfl, e4, x2, r2, rfl, e5, _⟩ := e2
    cases e3.of_str
    have hd' : max f0.dep f1.dep + 1 ≤ n + 1 := hd
    refine ⟨_, rfl, p, _, _, _, rfl, rfl, SqT.of e1, at_of (j := 0) (v := .str "and") rfl rfl, ?_⟩
    refine ⟨_, rfl, rfl, _, rfl, iteDF tYA.symm ⟨_, rfl, rfl, _, rfl, iteDF tNA.symm ⟨_, rfl, rfl, _, rfl, iteDF tSA.symm ⟨_, rfl, rfl, _, rfl, iteDF tTA.symm ?_⟩⟩⟩⟩
    refine ⟨_, rfl, _, rfl, p, _, _, _, rfl, rfl, SqT.of e1, at_of (j := 1) (v := x1) rfl rfl, _, rfl, a, sw, x1, f0, b, c, rfl, ⟨o1, e4, o3.1, o4, o5⟩, by omega, ?_⟩
    refine ⟨_, rfl, rfl, _, rfl, iteDT rfl ⟨_, rfl, _, rfl, ?_⟩⟩
    have e : ev sw c (.and f0 f1) = (ev sw c f0 && ev sw c f1) := rfl
    rw [e] at q
    refine ite2 (fun z => ?_) (fun z => ?_)
    · rw [z] at q
      exact ⟨_, rfl, _, rfl, p, _, _, _, rfl, rfl, SqT.of e1, at_of (j := 2) (v := x2) rfl rfl, _, rfl, a, sw, x2, f1, b, c, rfl, ⟨o1, e5, o3.2, o4, o5⟩, by omega, q⟩
    · rw [Bool.eq_false_iff.mpr z] at q
      exact q
  | or f0 f1 =>
    obtain ⟨p, xs, rfl, e1, e2⟩ := o2.of_tup
    unfold DvAll DvAll DvAll at e2
    obtain ⟨x0, r0, rfl, e3, x1, r1, rfl, e4, x2, r2, rfl, e5, _⟩ := e2
    cases e3.of_str
    have hd' : max f0.dep f1.dep + 1 ≤ n + 1 := hd
    refine ⟨_, rfl, p, _, _, _, rfl, rfl, SqT.of e1, at_of (j := 0) (v := .str "or") rfl rfl, ?_⟩
    refine ⟨_, rfl, rfl, _, rfl, iteDF tYO.symm ⟨_, rfl, rfl, _, rfl, iteDF tNO.symm ⟨_, rfl, rfl, _, rfl, iteDF tSO.symm ⟨_, rfl, rfl, _, rfl, iteDF tTO.symm ?_⟩⟩⟩⟩
    refine ⟨_, rfl, _, rfl, p, _, _, _, rfl, rfl, SqT.of e1, at_of (j := 1) (v := x1) rfl rfl, _, rfl, a, sw, x1, f0, b, c, rfl, ⟨o1, e4, o3.1, o4, o5⟩, by omega, ?_⟩
    refine ⟨_, rfl, rfl, _, rfl, iteDF tAO.symm ⟨_, rfl, _, rfl, ?_⟩⟩
    have e : ev sw c (.or f0 f1) = (ev sw c f0 || ev sw c f1) := rfl
    rw [e] at q
    refine ite2 (fun z => ?_) (fun z => ?_)
    · rw [z] at q
      exact q
    · rw [Bool.eq_false_iff.mpr z] at q
      exact ⟨_, rfl, _, rfl, p, _, _, _, rfl, rfl, SqT.of e1, at_of (j := 2) (v := x2) rfl rfl, _, rfl, a, sw, x2, f1, b, c, rfl, ⟨o1, e5, o3.2, o4, o5⟩, by omega, q⟩
theorem ok_true (F : Fun K "_law_true" "_law_true" sTrue f fd) (bG : Binds K fd ["switches", "formula", "configuration"] []) (mG : mg "_law_true" = some (.ref f)) :
    ∀ n, FnOk P w K mg base CX0 n f fd ["switches", "formula", "configuration"] (spTrue K n)
  | 0 => no_ok fun vs H Q E h => by
    obtain ⟨a, s, v, fm, b, c, _, _, h, _⟩ := h
    cases fm <;> simp [Fm.dep] at h
  | n + 1 => ok_true1 F (ok_true F bG mG n) bG F.kp mG
end
end Ver

/-! ## is_true, _formulas_in -/
namespace Ver
open PySem L2
abbrev sFin : Stmt := top 3
abbrev sIst : Stmt := top 2
def spFin : Sp := fun vs H Q _ => ∃ (v : V) (f : Fm), vs = [v] ∧ Dv H v f.toD ∧ f.size ≤ 100000 ∧
  ∀ (p : Addr) (xs : List V) (H' : Hp), H p = none → Same H H' → H' p = some (.lst xs) → DvAll H' xs ((pre f).map Fm.toD) → Q (.ref p) H'
def spIst (K : PySem.W.Frag) : Sp := fun vs H Q _ => ∃ (a : Addr) (s : List Str) (v : V) (f : Fm) (b : Addr) (c : List Int), vs = [.ref a, v, .ref b] ∧ TrOk K H a s v f b c ∧ f.size ≤ 100000 ∧ ∀ H', Same H H' → Q (.bl (ev s c f)) H'
/-- what stands in a formula's tuple -/
def tagOf : Fm → Str
  | .yes => "yes" | .no => "no" | .sw _ => "switch" | .not _ => "not" | .and _ _ => "and" | .or _ _ => "or"
theorem Fm.parts {H : Hp} {v : V} {f : Fm} (h : Dv H v f.toD) : ∃ a xs, v = .ref a ∧ H a = some (.tup (.str (tagOf f) :: xs)) ∧ (∀ x, f = .sw x → xs = [.str x]) ∧ ((∀ x, f ≠ .sw x) → DvAll H xs ((kids f).map Fm.toD)) := by
  have go : ∀ {ds : List PyData} {t : Str}, Dv H v (.tuple (.str t :: ds)) → ∃ a xs, v = .ref a ∧ H a = some (.tup (.str t :: xs)) ∧ DvAll H xs ds := by
    intro ds t h
    obtain ⟨a, xs, rfl, e1, e2⟩ := h.of_tup
    unfold DvAll at e2
    obtain ⟨x, r, rfl, e3, e4⟩ := e2
    cases e3.of_str
    exact ⟨a, r, rfl, e1, e4⟩
  cases f with
  | sw x =>
    obtain ⟨a, xs, rfl, e1, e2⟩ := go h
    unfold DvAll DvAll at e2
    obtain ⟨y, r, rfl, e3, rfl⟩ := e2
    cases e3.of_str
    exact ⟨a, _, rfl, e1, fun z e => by cases e; rfl, fun n => absurd rfl (n x)⟩
  | yes => obtain ⟨a, xs, rfl, e1, e2⟩ := go h; exact ⟨a, xs, rfl, e1, fun _ e => (by cases e), fun _ => e2⟩
  | no => obtain ⟨a, xs, rfl, e1, e2⟩ := go h; exact ⟨a, xs, rfl, e1, fun _ e => (by cases e), fun _ => e2⟩
  | not f => obtain ⟨a, xs, rfl, e1, e2⟩ := go h; exact ⟨a, xs, rfl, e1, fun _ e => (by cases e), fun _ => e2⟩
  | and f g => obtain ⟨a, xs, rfl, e1, e2⟩ := go h; exact ⟨a, xs, rfl, e1, fun _ e => (by cases e), fun _ => e2⟩
  | or f g => obtain ⟨a, xs, rfl, e1, e2⟩ := go h; exact ⟨a, xs, rfl, e1, fun _ e => (by cases e), fun _ => e2⟩
theorem tag_sw {f : Fm} (h : (V.str (tagOf f) : V) = V.str "switch") : ∃ x, f = .sw x := by
  cases f with
  | sw x => exact ⟨x, rfl⟩
  | yes => exact absurd h tYS
  | no => exact absurd h tNS
  | not _ => exact absurd h tST.symm
  | and _ _ => exact absurd h tSA.symm
  | or _ _ => exact absurd h tSO.symm
theorem kids_len (f : Fm) : (kids f).length ≤ 2 := by cases f <;> simp [kids]
theorem cutV_1 {x : V} {xs : List V} : cutV (x :: xs) (some ((1 : Nat) : Int)) none = xs := by
  show ((x :: xs).drop (HT.sIx (x :: xs).length 0 (some ((1 : Nat) : Int)))).take ((x :: xs).length - HT.sIx (x :: xs).length 0 (some ((1 : Nat) : Int))) = xs
  rw [HT.sIx_nat, Nat.min_eq_left (by simp)]
  simp
/-- the sizes of what waits -/
def wsz (W : List Fm) : Nat := (W.map Fm.size).sum
theorem wsz_app (a b : List Fm) : wsz (a ++ b) = wsz a + wsz b := by unfold wsz; rw [List.map_append, List.sum_append]
theorem wsz_len (W : List Fm) : W.length ≤ wsz W := by
  induction W with
  | nil => exact Nat.le_refl _
  | cons f W ih =>
    have := f.size_pos
    show W.length + 1 ≤ (f.size :: W.map Fm.size).sum
    rw [List.sum_cons]
    have : (W.map Fm.size).sum = wsz W := rfl
    omega
theorem wsz_kids (f : Fm) : wsz (kids f) + 1 = f.size := by
  cases f <;> simp [kids, wsz, Fm.size] <;> omega
section
variable {P : Program} {w : World} {K : PySem.W.Frag} {mg : Str → Option Value} {base : Heap} {f g : Addr} {fd gd : FuncData}
theorem scFin : FnScope ["formula", "found", "waiting", "part"] ["formula"] (defScope sFin) := ⟨rfl, rfl, rfl, by decide +kernel, rfl, by decide +kernel, by decide +kernel⟩
theorem ok_fin (F : Fun K "_formulas_in" "_formulas_in" sFin f fd) : FnOk P w K mg base CX0 1 f fd ["formula"] spFin := by
  refine F.ok scFin (fun vs H Q E h => ?_) (fun cdv A outer s H vs Q E hr h => ?_)
  · obtain ⟨v, f, rfl, _⟩ := h
    rfl
  obtain ⟨v, fm, rfl, hv, hz, q⟩ := h
  refine ⟨_, pss_cons (ps_set (i := 1) scFin.nd rfl (.inl rfl) (pe_lst pa_nil))
    (pss_cons (ps_set (i := 2) scFin.nd rfl (.inl rfl) (pe_lst (pa_cons (pv 0) pa_nil)))
    (pss_cons (ps_while PassesOwn.never (pt_truth (pv 2) (by intro _; rfl))
      (pss_cons (ps_set (i := 3) scFin.nd rfl (.inl rfl) (pe_bm0 PySem.F.plainAttrs_list PySem.F.slot_list_pop PySem.F.type_list_pop mt_pop (pv 2)))
      (pss_cons (ps_expr (pe_bm PySem.F.plainAttrs_list PySem.F.slot_list_append PySem.F.type_list_append mt_append (pv 1) (pa_cons (pv 3) pa_nil)))
      (pss_one (ps_if (pt_cmpR op_ne (pe_ix ix_tup (pv 3) pe_int (fun _ _ => rfl)) pe_str (nomark _))
        (pss_one (ps_expr (pe_bm PySem.F.plainAttrs_list PySem.F.slot_list_extend PySem.F.type_list_extend mt_extT (pv 2) (pa_cons (pe_slice sl_tup (pv 3) (po_some pe_int) po_none) pa_nil)))) pss_nil)))))
    (pss_one (ps_ret (pv 1))))), ?_⟩
  refine ⟨(by show 0 ≤ sizeLine; decide), fun pf nf => ⟨_, rfl, (by show 1 ≤ sizeLine; decide), fun pw nw => ?_⟩⟩
  have g1 := same_new nf (.lst [])
  have g2 := same_new nw (.lst [v])
  have hfw : pf ≠ pw := ne_of_none upd_same nw
  have nw0 : H pw = none := g1.free nw
  refine ⟨fun m σ H' => ∃ (D W : List Fm) (xs ys : List V) (c : Option V), σ = [some v, some (.ref pf), some (.ref pw), c] ∧ Same H H' ∧ H' pf = some (.lst xs) ∧ H' pw = some (.lst ys) ∧ DvAll H' xs (D.map Fm.toD) ∧ DvAll H' ys (W.map Fm.toD) ∧
      D ++ W.reverse.flatMap pre = pre fm ∧ m = wsz W, ⟨_, [], [fm], [], [v], none, rfl, g1.trans g2, g2 _ _ upd_same, upd_same, DvAll.nil, DvAll.cons (Dv.keep (KeepT.of (g1.trans g2)) _ _ hv) DvAll.nil, by simp, rfl⟩, ?_⟩
  rintro m σ H1 ⟨D, W, xs, ys, c, rfl, k1, k2, k3, k4, k5, k6, rfl⟩
  have ly := k5.length
  rw [List.length_map] at ly
  refine ⟨_, rfl, _, .inl ⟨ys, SqL.of k3, rfl⟩, ite2 (fun z => ?_) (fun z => ?_)⟩
  · have hW : W ≠ [] := by
      rintro rfl
      cases ys with
      | nil => cases z
      | cons _ _ => cases ly
    obtain ⟨W0, gm, rfl⟩ : ∃ W0 gm, W = W0 ++ [gm] := ⟨W.dropLast, W.getLast hW, (List.dropLast_concat_getLast hW).symm⟩
    obtain ⟨ys0, y, rfl⟩ : ∃ ys0 y, ys = ys0 ++ [y] := by
      have hy : ys ≠ [] := by
        rintro rfl
        cases z
      exact ⟨ys.dropLast, ys.getLast hy, (List.dropLast_concat_getLast hy).symm⟩
    have l0 : ys0.length = W0.length := by simpa using ly
    have sp : DvAll H1 ys0 (W0.map Fm.toD) ∧ Dv H1 y gm.toD := by
      have h1 := DvAll.take W0.length k5
      rw [List.map_append, List.take_left' l0, List.take_left' (by rw [List.length_map])] at h1
      obtain ⟨x, e1, e2⟩ := DvAll.get (j := W0.length) (d := gm.toD) k5 (by rw [List.map_append, List.getElem?_append_right (by rw [List.length_map]; exact Nat.le_refl _), List.length_map, Nat.sub_self]; rfl)
      rw [List.getElem?_append_right (by omega), l0, Nat.sub_self] at e1
      cases e1
      exact ⟨h1, e2⟩
    obtain ⟨k7, k8⟩ := sp
    have szW : wsz (W0 ++ [gm]) = wsz W0 + gm.size := by rw [wsz_app]; show _ + (gm.size + 0) = _; omega
    have lD := k4.length
    rw [List.length_map] at lD
    have tot : D.length + wsz (W0 ++ [gm]) = fm.size := by
      rw [← pre_len fm, ← k6, List.length_append]
      have : ∀ W : List Fm, (W.reverse.flatMap pre).length = wsz W := by
        intro W
        induction W with
        | nil => rfl
        | cons f W ih => rw [List.reverse_cons, List.flatMap_append, List.length_append, ih]; show _ + (pre f ++ []).length = (f.size :: W.map Fm.size).sum; rw [List.append_nil, pre_len, List.sum_cons]; show _ = _ + wsz W; omega
      rw [this]
    have gp := gm.size_pos
    have lW := wsz_len W0
    have big : ∀ m : Nat, m ≤ 100002 → m ≤ sizeLine := fun m h => Nat.le_trans h (by decide)
    refine ⟨fun σ' H' => ∃ m', m' < wsz (W0 ++ [gm]) ∧ ∃ (D W : List Fm) (xs ys : List V) (c : Option V), σ' = [some v, some (.ref pf), some (.ref pw), c] ∧ Same H H' ∧ H' pf = some (.lst xs) ∧ H' pw = some (.lst ys) ∧ DvAll H' xs (D.map Fm.toD) ∧ DvAll H' ys (W.map Fm.toD) ∧
      D ++ W.reverse.flatMap pre = pre fm ∧ m' = wsz W, fun σ' H' h => h, ?_⟩
    refine ⟨_, rfl, .inl ⟨rfl, _, SqL.of k3⟩, pw, _, y, rfl, rfl, k3, by simp, ?_⟩
    rw [List.dropLast_concat]
    have kt1 : KeepT H1 (upd H1 pw (.lst ys0)) := fun a us h => by
      rw [upd_ne (fun z => by rw [z, k3] at h; cases h)]
      exact h
    have kt2 : KeepT (upd H1 pw (.lst ys0)) (upd (upd H1 pw (.lst ys0)) pf (.lst (xs ++ [y]))) := fun a us h => by
      rw [upd_ne (fun z => by rw [z, upd_ne hfw, k2] at h; cases h)]
      exact h
    have kt : KeepT H1 (upd (upd H1 pw (.lst ys0)) pf (.lst (xs ++ [y]))) := fun a us h => kt2 _ _ (kt1 _ _ h)
    refine ⟨_, rfl, .inl ⟨rfl, _, SqL.of (by rw [upd_ne hfw]; exact k2)⟩, _, rfl, pf, xs, y, rfl, rfl, by rw [upd_ne hfw]; exact k2, Nat.lt_of_le_of_lt (show xs.length ≤ 100000 by omega) (by decide), ?_⟩
    have s2 : Same H (upd (upd H1 pw (.lst ys0)) pf (.lst (xs ++ [y]))) := same_put (same_put k1 nw0) nf
    have ew : (upd (upd H1 pw (.lst ys0)) pf (.lst (xs ++ [y]))) pw = some (.lst ys0) := by rw [upd_ne hfw.symm]; exact upd_same
    have ef : (upd (upd H1 pw (.lst ys0)) pf (.lst (xs ++ [y]))) pf = some (.lst (xs ++ [y])) := upd_same
    have dD : DvAll (upd (upd H1 pw (.lst ys0)) pf (.lst (xs ++ [y]))) (xs ++ [y]) ((D ++ [gm]).map Fm.toD) := by
      rw [List.map_append]
      exact DvAll.append (DvAll.keep kt _ _ k4) (DvAll.cons (Dv.keep kt _ _ k8) DvAll.nil)
    have dW := DvAll.keep kt _ _ k7
    have dg := Dv.keep kt _ _ k8
    generalize upd (upd H1 pw (.lst ys0)) pf (.lst (xs ++ [y])) = H2 at s2 ew ef dD dW dg
    obtain ⟨a, zs, rfl, e1, e2, e3⟩ := Fm.parts dg
    have k6' : D ++ [gm] ++ (W0 ++ kids gm).reverse.flatMap pre = pre fm := by
      rw [← k6, List.reverse_append, List.reverse_append, List.flatMap_append, List.append_assoc, List.reverse_singleton, List.flatMap_append]
      show D ++ ([gm] ++ _) = D ++ ((pre gm ++ []) ++ _)
      rw [List.append_nil, pre_kids gm]
      simp
    refine ⟨_, rfl, a, _, _, _, rfl, rfl, SqT.of e1, at_of (j := 0) (v := .str (tagOf gm)) rfl rfl, rfl, _, rfl, ite2 (fun z2 => ?_) (fun z2 => ?_)⟩
    · have hns : ∀ x, gm ≠ .sw x := by
        rintro x rfl
        rw [decide_eq_true (show (V.str (tagOf (Fm.sw x)) : V) = V.str "switch" from rfl)] at z2
        cases z2
      have dz := e3 hns
      have lz := dz.length
      rw [List.length_map] at lz
      have kl := kids_len gm
      refine ⟨_, rfl, .inl ⟨rfl, _, SqL.of ew⟩, _, rfl, _, rfl, a, _, rfl, SqT.of e1, ?_, fun u nu => ?_⟩
      · rintro ⟨h1, _⟩
        rw [show (1 : Int) = ((1 : Nat) : Int) from rfl, HT.sIx_nat] at h1
        simp at h1
      · have g3 := same_new nu (.tup (cutV (.str (tagOf gm) :: zs) (some 1) none))
        have ec : cutV (.str (tagOf gm) :: zs) (some 1) none = zs := cutV_1
        refine ⟨pw, u, ys0, zs, rfl, rfl, g3 _ _ ew, SqT.of (by rw [upd_same, ec]), big _ (by omega), ?_⟩
        have kt3 : KeepT H2 (upd (upd H2 u (.tup (cutV (.str (tagOf gm) :: zs) (some 1) none))) pw (.lst (ys0 ++ zs))) := fun a us h => by
          rw [upd_ne (fun z => by rw [z, ew] at h; cases h)]
          exact g3 _ _ h
        refine ⟨wsz (W0 ++ kids gm), by rw [szW, wsz_app]; have := wsz_kids gm; omega, D ++ [gm], W0 ++ kids gm, xs ++ [.ref a], ys0 ++ zs, _, rfl, same_put (s2.trans g3) nw0, by rw [upd_ne hfw]; exact g3 _ _ ef, upd_same, DvAll.keep kt3 _ _ dD, ?_, k6', rfl⟩
        rw [List.map_append]
        exact DvAll.append (DvAll.keep kt3 _ _ dW) (DvAll.keep kt3 _ _ dz)
    · obtain ⟨x, rfl⟩ : ∃ x, gm = .sw x := tag_sw (by
        by_cases z3 : (V.str (tagOf gm) : V) = V.str "switch"
        · exact z3
        · rw [decide_eq_false z3] at z2
          exact absurd rfl z2)
      have k6'' : D ++ [Fm.sw x] ++ W0.reverse.flatMap pre = pre fm := by
        have := k6'
        rw [show kids (Fm.sw x) = [] from rfl, List.append_nil] at this
        exact this
      exact ⟨wsz W0, by rw [szW]; omega, D ++ [.sw x], W0, xs ++ [.ref a], ys0, _, rfl, s2, ef, ew, dD, dW, k6'', rfl⟩
  · have hW : W = [] := by
      cases ys with
      | nil => exact List.length_eq_zero_iff.mp ly.symm
      | cons _ _ => exact absurd rfl z
    subst hW
    rw [show ([] : List Fm).reverse.flatMap pre = [] from rfl, List.append_nil] at k6
    subst k6
    exact ⟨_, rfl, q pf xs H1 nf k1 k2 k4⟩
theorem scIst : FnScope ["switches", "formula", "configuration", "truths", "part", "word", "second", "first"] ["switches", "formula", "configuration"] (defScope sIst) := ⟨rfl, rfl, rfl, by decide +kernel, rfl, by decide +kernel, by decide +kernel⟩
/-- the stack as the list holds it -/
def stk (st : List Bool) : List V := st.reverse.map V.bl
theorem stk_cons (b : Bool) (r : List Bool) : stk (b :: r) = stk r ++ [V.bl b] := by unfold stk; rw [List.reverse_cons, List.map_append]; rfl
theorem stk_len (r : List Bool) : (stk r).length = r.length := by unfold stk; rw [List.length_map, List.length_reverse]
theorem stk_last (b : Bool) (r : List Bool) : (stk r ++ [V.bl b])[(stk r ++ [V.bl b]).length - 1]? = some (.bl b) := by simp
theorem ok_ist (F : Fun K "is_true" "is_true" sIst f fd) (G : FnOk P w K mg base CX0 1 g gd ["formula"] spFin) (bG : Binds K gd ["formula"] []) (kG : PySem.W.keepIn K (.ref g) = true) (mG : mg "_formulas_in" = some (.ref g)) (mv : mg "reversed" = none) :
    FnOk P w K mg base CX0 2 f fd ["switches", "formula", "configuration"] (spIst K) := by
  refine F.ok scIst (fun vs H Q E h => ?_) (fun cdv A outer s H vs Q E hr h => ?_)
  · obtain ⟨a, s, v, f, b, c, rfl, _⟩ := h
    rfl
  obtain ⟨a, sw, v, fm, b, c, rfl, ok, hz, q⟩ := h
  have app := fun {X : Cx} {es : List Expr} {e : Expr} {t : TA} (h : PA X (e :: es) t) => h
  refine ⟨_, pss_cons (ps_set (i := 3) scIst.nd rfl (.inl rfl) (pe_lst pa_nil))
    (pss_cons (ps_for PassesOwn.never rfl (pi_reversed (by rfl) mv (pa_cons (pe_call G hr rfl mG kG bG .nil pass0 (pa_cons (pv 1) pa_nil)) pa_nil)) (pg_name (i := 4) scIst.nd rfl (.inl rfl))
      (pss_cons (ps_set (i := 5) scIst.nd rfl (.inl rfl) (pe_ix ix_tup (pv 4) pe_int (fun _ _ => rfl)))
      (pss_one (ps_if (pt_cmpR op_eq (pv 5) pe_str (nomark _))
        (pss_one (ps_expr (pe_bm PySem.F.plainAttrs_list PySem.F.slot_list_append PySem.F.type_list_append mt_append (pv 3) (pa_cons (pe_cmpR op_eq (pe_ix ix_tup (pv 2) (pe_bmT PySem.F.slot_tuple_index PySem.F.type_tuple_index mt_tup_index (pv 0) (pa_cons (pe_ix ix_tup (pv 4) pe_int (fun _ _ => rfl)) pa_nil)) (fun _ _ => rfl)) pe_int (nomark _)) pa_nil))))
        (pss_one (ps_if (pt_cmpR op_eq (pv 5) pe_str (nomark _))
          (pss_one (ps_expr (pe_bm PySem.F.plainAttrs_list PySem.F.slot_list_append PySem.F.type_list_append mt_append (pv 3) (pa_cons (pe_not (pe_bm0 PySem.F.plainAttrs_list PySem.F.slot_list_pop PySem.F.type_list_pop mt_pop (pv 3))) pa_nil))))
          (pss_one (ps_if (pt_cmpR op_in_seq (pv 5) (pe_tup (pa_cons pe_str (pa_cons pe_str pa_nil))) rfl)
            (pss_cons (ps_set (i := 6) scIst.nd rfl (.inl rfl) (pe_bm0 PySem.F.plainAttrs_list PySem.F.slot_list_pop PySem.F.type_list_pop mt_pop (pv 3)))
            (pss_cons (ps_set (i := 7) scIst.nd rfl (.inl rfl) (pe_bm0 PySem.F.plainAttrs_list PySem.F.slot_list_pop PySem.F.type_list_pop mt_pop (pv 3)))
            (pss_one (ps_expr (pe_bm PySem.F.plainAttrs_list PySem.F.slot_list_append PySem.F.type_list_append mt_append (pv 3) (pa_cons (pe_ifExp (pt_cmpR op_eq (pv 5) pe_str (nomark _)) (pe_and (pv 7) (pe_one (pv 6))) (pe_or (pv 7) (pe_one (pv 6)))) pa_nil))))))
            (pss_one (ps_expr (pe_bm PySem.F.plainAttrs_list PySem.F.slot_list_append PySem.F.type_list_append mt_append (pv 3) (pa_cons (pe_cmpR op_eq (pv 5) pe_str (nomark _)) pa_nil))))))))))))
    (pss_one (ps_ret (pe_ix ix_list (pv 3) pe_int (fun _ _ => rfl))))), ?_⟩
  obtain ⟨o1, o2, o3, o4, o5⟩ := ok
  refine ⟨(by show 0 ≤ sizeLine; decide), fun tr nt => ?_⟩
  have g1 := same_new nt (.lst [])
  refine ⟨_, rfl, v, fm, rfl, Dv.keep (KeepT.of g1) _ _ o2, hz, fun p xs H1 np g2 e1 d1 => ?_⟩
  have g12 := g1.trans g2
  have lx := d1.length
  rw [List.length_map] at lx
  have lp := pre_len fm
  have etr := g2 _ _ upd_same
  have hpt : p ≠ tr := fun z => by rw [z, upd_same] at np; cases np
  refine ⟨p, xs, rfl, SqL.of e1, RT.for_Itv (fun i σ H' => ∃ (st : List Bool) (c4 c5 c6 c7 : Option V), σ = [some (.ref a), some v, some (.ref b), some (.ref tr), c4, c5, c6, c7] ∧ Same H H' ∧ KeepT H1 H' ∧ H' p = some (.lst xs) ∧ H' tr = some (.lst (stk st)) ∧ st.length ≤ i ∧ run sw c ((pre fm).reverse.drop i) st = some [ev sw c fm]) ?_ ?_ ?_ ?_⟩
  · refine ⟨[], none, none, none, none, rfl, g12, fun _ _ h => h, e1, etr, Nat.le_refl _, ?_⟩
    have := run_pre sw c fm [] []
    rw [List.append_nil] at this
    rw [List.drop_zero, this]
    rfl
  · rintro i σ H' ⟨st, c4, c5, c6, c7, rfl, _, _, k2, _⟩
    exact SqL.of k2
  · rintro i x σ H2 hi hx ⟨st, c4, c5, c6, c7, rfl, k1, kk, k2, k3, k4, k5⟩
    have hj : (pre fm).length - 1 - i < (pre fm).length := by omega
    rw [lx] at hx
    obtain ⟨x', ex, dx⟩ := DvAll.get d1 (show ((pre fm).map Fm.toD)[(pre fm).length - 1 - i]? = some ((pre fm)[(pre fm).length - 1 - i]).toD by rw [List.getElem?_map, List.getElem?_eq_getElem hj]; rfl)
    rw [hx] at ex
    cases ex
    have er : (pre fm).reverse.drop i = (pre fm)[(pre fm).length - 1 - i] :: (pre fm).reverse.drop (i + 1) := by
      rw [List.drop_eq_getElem_cons (by rw [List.length_reverse]; omega), List.getElem_reverse]
    have ho := pre_over fm o3 _ (List.getElem_mem hj)
    rw [er] at k5
    generalize (pre fm)[(pre fm).length - 1 - i] = gm at dx k5 ho
    have dx' := Dv.keep kk _ _ dx
    obtain ⟨st', es, k6⟩ : ∃ st', step sw c gm st = some st' ∧ run sw c ((pre fm).reverse.drop (i + 1)) st' = some [ev sw c fm] := by
      have k5' : (step sw c gm st).bind (run sw c ((pre fm).reverse.drop (i + 1))) = some [ev sw c fm] := k5
      cases e : step sw c gm st with
      | none => rw [e] at k5'; cases k5'
      | some st' => rw [e] at k5'; exact ⟨st', rfl, k5'⟩
    have hsl := step_len es
    -- the turn's end, from any heap that holds the new stack
    have fin : ∀ (H3 : Hp) (c4 c5 c6 c7 : Option V), Same H H3 → KeepT H1 H3 → H3 p = some (.lst xs) → H3 tr = some (.lst (stk st')) → ∃ (st : List Bool) (d4 d5 d6 d7 : Option V), [some (.ref a), some v, some (.ref b), some (.ref tr), c4, c5, c6, c7] = [some (.ref a), some v, some (.ref b), some (.ref tr), d4, d5, d6, d7] ∧
        Same H H3 ∧ KeepT H1 H3 ∧ H3 p = some (.lst xs) ∧ H3 tr = some (.lst (stk st)) ∧ st.length ≤ i + 1 ∧ run sw c ((pre fm).reverse.drop (i + 1)) st = some [ev sw c fm] :=
      fun H3 c4 c5 c6 c7 h1 h2 h3 h4 => ⟨st', c4, c5, c6, c7, rfl, h1, h2, h3, h4, by omega, k6⟩
    have small : ∀ n : Nat, n ≤ 100000 → n < sizeLine := fun n h => Nat.lt_of_le_of_lt h (by decide)
    -- a list at tr in the place of another
    have put : ∀ {H3 : Hp} {ys zs : List V}, Same H H3 → KeepT H1 H3 → H3 p = some (.lst xs) → H3 tr = some (.lst ys) → Same H (upd H3 tr (.lst zs)) ∧ KeepT H1 (upd H3 tr (.lst zs)) ∧ (upd H3 tr (.lst zs)) p = some (.lst xs) := fun {H3 ys zs} h1 h2 h3 h4 =>
      ⟨same_put h1 nt, fun a us h => by
        rw [upd_ne (fun z => by have y := h2 _ _ h; rw [z, h4] at y; cases y)]
        exact h2 _ _ h, by rw [upd_ne hpt]; exact h3⟩
    obtain ⟨ax, zs, rfl, e2, e3, e4⟩ := Fm.parts dx'
    refine ⟨_, rfl, ax, _, _, _, rfl, rfl, SqT.of e2, at_of (j := 0) (v := .str (tagOf gm)) rfl rfl, ?_⟩
    cases gm with
    | sw x =>
      have ez := e3 x rfl
      subst ez
      have es' : st' = ev sw c (.sw x) :: st := (Option.some.inj es).symm
      subst es'
      refine ⟨_, rfl, rfl, _, rfl, iteDT rfl ?_⟩
      obtain ⟨i1, i2⟩ := ixOf_get (show x ∈ sw from ho)
      have i3 : ixOf x sw < c.length := by rw [o5]; exact ixOf_lt ho
      have ec : (c.map V.int)[ixOf x sw]? = some (.int (c.getD (ixOf x sw) 0)) := by
        rw [List.getElem?_map, List.getElem?_eq_getElem i3, List.getD_eq_getElem?_getD, List.getElem?_eq_getElem i3]
        rfl
      have o1' := o1.same k1
      have o1q := o1'.sq (K := K)
      obtain ⟨ob, b1, b2, b3⟩ := o1'
      have o4' : SqT K H2 b (c.map V.int) := same_tup k1 o4
      have ee : decide (V.int (c.getD (ixOf x sw) 0) = V.int 1) = ev sw c (.sw x) := by
        show _ = decide (c.getD (ixOf x sw) 0 = 1)
        by_cases z : c.getD (ixOf x sw) 0 = 1
        · rw [z, decide_eq_true rfl, decide_eq_true rfl]
        · rw [decide_eq_false z, decide_eq_false (fun y => z (V.int.inj y))]
      refine ⟨_, rfl, .inl ⟨rfl, _, SqL.of k3⟩, _, rfl, _, rfl, ⟨a, ob, _, rfl, b3, b1, b2⟩, _, rfl, ax, _, _, _, rfl, rfl, SqT.of e2, at_of (j := 1) (v := .str x) rfl rfl, a, sw, x, ixOf x sw, rfl, rfl, o1q, i1, i2, b, _, _, _, rfl, rfl, o4', at_of rfl ec, rfl, ?_⟩
      obtain ⟨p1, p2, p3⟩ := put (zs := stk (ev sw c (.sw x) :: st)) k1 kk k2 k3
      refine ⟨tr, _, _, rfl, rfl, k3, small _ (by rw [stk_len]; omega), ?_⟩
      have en : stk st ++ [V.bl (decide (V.int (c.getD (ixOf x sw) 0) = V.int 1))] = stk (ev sw c (.sw x) :: st) := by rw [ee, stk_cons]
      have r := fin _ (some (.ref ax)) (some (.str "switch")) c6 c7 p1 p2 p3 upd_same
      rw [← en] at r
      exact r
    | yes =>
      have es' : st' = true :: st := (Option.some.inj es).symm
      subst es'
      refine ⟨_, rfl, rfl, _, rfl, iteDF tYS ⟨_, rfl, rfl, _, rfl, iteDF tYT ⟨_, rfl, (by show 2 ≤ sizeLine; decide), fun u nu => ⟨u, _, rfl, .inr (SqT.of upd_same), rfl, rfl, _, rfl, ite2 (fun z => absurd z (by decide +kernel)) (fun _ => ?_)⟩⟩⟩⟩
      have g3 := same_new nu (.tup [.str "and", .str "or"])
      have ku : KeepT H1 (upd H2 u (.tup [.str "and", .str "or"])) := fun a us h => g3 _ _ (kk _ _ h)
      obtain ⟨p1, p2, p3⟩ := put (zs := stk (true :: st)) (k1.trans g3) ku (g3 _ _ k2) (g3 _ _ k3)
      refine ⟨_, rfl, .inl ⟨rfl, _, SqL.of (g3 _ _ k3)⟩, _, rfl, rfl, tr, _, _, rfl, rfl, g3 _ _ k3, small _ (by rw [stk_len]; omega), ?_⟩
      have en : stk st ++ [V.bl (decide ((V.str "yes" : V) = V.str "yes"))] = stk (true :: st) := by rw [decide_eq_true rfl, stk_cons]
      have r := fin _ (some (.ref ax)) (some (.str "yes")) c6 c7 p1 p2 p3 upd_same
      rw [← en] at r
      exact r
    | no =>
      have es' : st' = false :: st := (Option.some.inj es).symm
      subst es'
      refine ⟨_, rfl, rfl, _, rfl, iteDF tNS ⟨_, rfl, rfl, _, rfl, iteDF tNT ⟨_, rfl, (by show 2 ≤ sizeLine; decide), fun u nu => ⟨u, _, rfl, .inr (SqT.of upd_same), rfl, rfl, _, rfl, ite2 (fun z => absurd z (by decide +kernel)) (fun _ => ?_)⟩⟩⟩⟩
      have g3 := same_new nu (.tup [.str "and", .str "or"])
      have ku : KeepT H1 (upd H2 u (.tup [.str "and", .str "or"])) := fun a us h => g3 _ _ (kk _ _ h)
      obtain ⟨p1, p2, p3⟩ := put (zs := stk (false :: st)) (k1.trans g3) ku (g3 _ _ k2) (g3 _ _ k3)
      refine ⟨_, rfl, .inl ⟨rfl, _, SqL.of (g3 _ _ k3)⟩, _, rfl, rfl, tr, _, _, rfl, rfl, g3 _ _ k3, small _ (by rw [stk_len]; omega), ?_⟩
      have en : stk st ++ [V.bl (decide ((V.str "no" : V) = V.str "yes"))] = stk (false :: st) := by rw [decide_eq_false tYN.symm, stk_cons]
      have r := fin _ (some (.ref ax)) (some (.str "no")) c6 c7 p1 p2 p3 upd_same
      rw [← en] at r
      exact r
    | not f0 =>
      obtain ⟨b0, r0, rfl⟩ : ∃ b0 r0, st = b0 :: r0 := by
        cases st with
        | nil => cases es
        | cons b0 r0 => exact ⟨b0, r0, rfl⟩
      have es' : st' = (!b0) :: r0 := (Option.some.inj es).symm
      subst es'
      rw [stk_cons] at k3
      refine ⟨_, rfl, rfl, _, rfl, iteDF tST.symm ⟨_, rfl, rfl, _, rfl, iteDT rfl ?_⟩⟩
      refine ⟨_, rfl, .inl ⟨rfl, _, SqL.of k3⟩, _, rfl, .inl ⟨rfl, _, SqL.of k3⟩, tr, _, _, rfl, rfl, k3, stk_last _ _, _, rfl, ?_⟩
      obtain ⟨p1, p2, p3⟩ := put (zs := stk r0) k1 kk k2 k3
      obtain ⟨p4, p5, p6⟩ := put (zs := stk ((!b0) :: r0)) p1 p2 p3 upd_same
      rw [List.length_cons] at k4
      rw [List.dropLast_concat]
      refine ⟨tr, _, _, rfl, rfl, upd_same, small _ (by rw [stk_len]; omega), ?_⟩
      have en : stk r0 ++ [V.bl (!b0)] = stk ((!b0) :: r0) := (stk_cons _ _).symm
      have r := fin _ (some (.ref ax)) (some (.str "not")) c6 c7 p4 p5 p6 upd_same
      rw [← en] at r
      exact r
    | and f0 f1 =>
      obtain ⟨y0, x0, r0, rfl⟩ : ∃ y0 x0 r0, st = y0 :: x0 :: r0 := by
        match st, es with
        | y0 :: x0 :: r0, _ => exact ⟨y0, x0, r0, rfl⟩
      have es' : st' = (x0 && y0) :: r0 := (Option.some.inj es).symm
      subst es'
      rw [stk_cons] at k3
      rw [List.length_cons, List.length_cons] at k4
      refine ⟨_, rfl, rfl, _, rfl, iteDF tSA.symm ⟨_, rfl, rfl, _, rfl, iteDF tTA.symm ⟨_, rfl, (by show 2 ≤ sizeLine; decide), fun u nu => ⟨u, _, rfl, .inr (SqT.of upd_same), rfl, rfl, _, rfl, ite2 (fun _ => ?_) (fun z => absurd (show inV (V.str "and") [V.str "and", V.str "or"] = true by decide +kernel) z)⟩⟩⟩⟩
      have g3 := same_new nu (.tup [.str "and", .str "or"])
      have ku : KeepT H1 (upd H2 u (.tup [.str "and", .str "or"])) := fun a us h => g3 _ _ (kk _ _ h)
      obtain ⟨p1, p2, p3⟩ := put (zs := stk (x0 :: r0)) (k1.trans g3) ku (g3 _ _ k2) (g3 _ _ k3)
      obtain ⟨p4, p5, p6⟩ := put (zs := stk r0) p1 p2 p3 upd_same
      obtain ⟨p7, p8, p9⟩ := put (zs := stk ((x0 && y0) :: r0)) p4 p5 p6 upd_same
      refine ⟨_, rfl, .inl ⟨rfl, _, SqL.of (g3 _ _ k3)⟩, tr, _, _, rfl, rfl, g3 _ _ k3, stk_last _ _, ?_⟩
      rw [List.dropLast_concat]
      have k3' : (upd (upd H2 u (.tup [.str "and", .str "or"])) tr (.lst (stk (x0 :: r0)))) tr = some (.lst (stk r0 ++ [V.bl x0])) := by rw [upd_same, stk_cons]
      refine ⟨_, rfl, .inl ⟨rfl, _, SqL.of k3'⟩, tr, _, _, rfl, rfl, k3', stk_last _ _, ?_⟩
      rw [List.dropLast_concat]
      have en : stk r0 ++ [V.bl (x0 && y0)] = stk ((x0 && y0) :: r0) := (stk_cons _ _).symm
      have r := fin _ (some (.ref ax)) (some (.str "and")) (some (.bl y0)) (some (.bl x0)) p7 p8 p9 upd_same
      rw [← en] at r
      refine ⟨_, rfl, .inl ⟨rfl, _, SqL.of upd_same⟩, _, rfl, rfl, _, rfl, iteDT rfl ⟨_, rfl, _, rfl, ite2 (fun z => ?_) (fun z => ?_)⟩⟩
      · rw [show (x0 && y0) = y0 by rw [z]; rfl] at r
        exact ⟨_, rfl, tr, _, _, rfl, rfl, upd_same, small _ (by rw [stk_len]; omega), r⟩
      · rw [show (x0 && y0) = false by rw [Bool.eq_false_iff.mpr z]; rfl] at r
        exact ⟨tr, _, _, rfl, rfl, upd_same, small _ (by rw [stk_len]; omega), r⟩
    | or f0 f1 =>
      obtain ⟨y0, x0, r0, rfl⟩ : ∃ y0 x0 r0, st = y0 :: x0 :: r0 := by
        match st, es with
        | y0 :: x0 :: r0, _ => exact ⟨y0, x0, r0, rfl⟩
      have es' : st' = (x0 || y0) :: r0 := (Option.some.inj es).symm
      subst es'
      rw [stk_cons] at k3
      rw [List.length_cons, List.length_cons] at k4
      refine ⟨_, rfl, rfl, _, rfl, iteDF tSO.symm ⟨_, rfl, rfl, _, rfl, iteDF tTO.symm ⟨_, rfl, (by show 2 ≤ sizeLine; decide), fun u nu => ⟨u, _, rfl, .inr (SqT.of upd_same), rfl, rfl, _, rfl, ite2 (fun _ => ?_) (fun z => absurd (show inV (V.str "or") [V.str "and", V.str "or"] = true by decide +kernel) z)⟩⟩⟩⟩
      have g3 := same_new nu (.tup [.str "and", .str "or"])
      have ku : KeepT H1 (upd H2 u (.tup [.str "and", .str "or"])) := fun a us h => g3 _ _ (kk _ _ h)
      obtain ⟨p1, p2, p3⟩ := put (zs := stk (x0 :: r0)) (k1.trans g3) ku (g3 _ _ k2) (g3 _ _ k3)
      obtain ⟨p4, p5, p6⟩ := put (zs := stk r0) p1 p2 p3 upd_same
      obtain ⟨p7, p8, p9⟩ := put (zs := stk ((x0 || y0) :: r0)) p4 p5 p6 upd_same
      refine ⟨_, rfl, .inl ⟨rfl, _, SqL.of (g3 _ _ k3)⟩, tr, _, _, rfl, rfl, g3 _ _ k3, stk_last _ _, ?_⟩
      rw [List.dropLast_concat]
      have k3' : (upd (upd H2 u (.tup [.str "and", .str "or"])) tr (.lst (stk (x0 :: r0)))) tr = some (.lst (stk r0 ++ [V.bl x0])) := by rw [upd_same, stk_cons]
      refine ⟨_, rfl, .inl ⟨rfl, _, SqL.of k3'⟩, tr, _, _, rfl, rfl, k3', stk_last _ _, ?_⟩
      rw [List.dropLast_concat]
      have en : stk r0 ++ [V.bl (x0 || y0)] = stk ((x0 || y0) :: r0) := (stk_cons _ _).symm
      have r := fin _ (some (.ref ax)) (some (.str "or")) (some (.bl y0)) (some (.bl x0)) p7 p8 p9 upd_same
      rw [← en] at r
      refine ⟨_, rfl, .inl ⟨rfl, _, SqL.of upd_same⟩, _, rfl, rfl, _, rfl, iteDF tAO.symm ⟨_, rfl, _, rfl, ite2 (fun z => ?_) (fun z => ?_)⟩⟩
      · rw [show (x0 || y0) = true by rw [z]; rfl] at r
        exact ⟨tr, _, _, rfl, rfl, upd_same, small _ (by rw [stk_len]; omega), r⟩
      · rw [show (x0 || y0) = y0 by rw [Bool.eq_false_iff.mpr z]; rfl] at r
        exact ⟨_, rfl, tr, _, _, rfl, rfl, upd_same, small _ (by rw [stk_len]; omega), r⟩
  · rintro σ H2 ⟨st, c4, c5, c6, c7, rfl, k1, kk, k2, k3, k4, k5⟩
    rw [lx, List.drop_of_length_le (by rw [List.length_reverse]; exact Nat.le_refl _)] at k5
    have es : st = [ev sw c fm] := Option.some.inj k5
    subst es
    exact ⟨_, rfl, tr, _, _, _, rfl, rfl, SqL.of k3, at_of (j := 0) (v := .bl (ev sw c fm)) rfl rfl, q H2 k1⟩
end
end Ver

/-! ## The program's diagrams -/
namespace Ver
open PySem L2
abbrev sSwitch : Stmt := top 5
abbrev sNeg : Stmt := top 6
abbrev sBoth2 : Stmt := top 7
abbrev sEith2 : Stmt := top 8
abbrev sHalf : Stmt := top 9
abbrev sFork : Stmt := top 10
abbrev sHolds : Stmt := top 13
abbrev sDat : Stmt := top 17
/-- the value of a diagram, and whether it is a given bool -/
theorem Dv.isLeaf {H : Hp} {v : V} {d : Dg} {z : Bool} (h : Dv H v d.toD) : ((∃ a, v = .bl a) ∨ ∃ a, v = .ref a) ∧ isB z v = decide (d = .leaf z) := by
  cases d with
  | leaf x =>
    cases h.of_bool
    refine ⟨.inl ⟨x, rfl⟩, ?_⟩
    show decide (x = z) = decide (Dg.leaf x = .leaf z)
    by_cases e : x = z
    · rw [e, decide_eq_true rfl, decide_eq_true rfl]
    · rw [decide_eq_false e, decide_eq_false (fun k => e (Dg.leaf.inj k))]
  | node i lo hi =>
    obtain ⟨a, x, y, rfl, _⟩ := Dv.node h
    exact ⟨.inr ⟨a, rfl⟩, (decide_eq_false (fun k => by cases k)).symm⟩
def spSwitch : Sp := fun vs H Q _ => ∃ i : Nat, vs = [.int i] ∧ ∀ v H', Same H H' → Dv H' v (Dg.node i (.leaf false) (.leaf true)).toD → Q v H'
def spNeg (n : Nat) : Sp := fun vs H Q _ => ∃ (v : V) (d : Dg), vs = [v] ∧ Dv H v d.toD ∧ d.ht < n ∧ ∀ v' H', Same H H' → Dv H' v' d.neg.toD → Q v' H'
def spHalf : Sp := fun vs H Q _ => ∃ (v : V) (d : Dg) (i : Nat) (b : Bool), vs = [v, .int i, .int (if b then 1 else 0)] ∧ Dv H v d.toD ∧ ∀ v', Dv H v' (Dg.half i b d).toD → Q v' H
def spFork : Sp := fun vs H Q _ => ∃ (i : Nat) (v u : V) (lo hi : Dg), vs = [.int i, v, u] ∧ Dv H v lo.toD ∧ Dv H u hi.toD ∧ lo.ht ≤ 30 ∧ hi.ht ≤ 30 ∧ ∀ v' H', Same H H' → Dv H' v' (Dg.fork i lo hi).toD → Q v' H'
def spJoin (z : Bool) (n : Nat) : Sp := fun vs H Q _ => ∃ (v u : V) (d e : Dg) (l : Nat), vs = [v, u] ∧ Dv H v d.toD ∧ Dv H u e.toD ∧ d.Fit 20 l ∧ e.Fit 20 l ∧ d.ht + e.ht < n ∧ ∀ v' H', Same H H' → Dv H' v' (Dg.join z n d e).toD → Q v' H'
def spHolds (K : PySem.W.Frag) : Sp := fun vs H Q _ => ∃ (v : V) (d : Dg) (b : Addr) (c : List Int), vs = [v, .ref b] ∧ Dv H v d.toD ∧ SqT K H b (c.map V.int) ∧ d.Fit c.length 0 ∧ Q (.bl (d.hold 0 c)) H
/-- the diagram of one configuration: built from its end -/
def Dg.at_ : Nat → List Int → Dg
  | _, [] => leaf true
  | i, b :: r => if b = 1 then node i (leaf false) (at_ (i + 1) r) else node i (at_ (i + 1) r) (leaf false)
def spDat (K : PySem.W.Frag) : Sp := fun vs H Q _ => ∃ (b : Addr) (c : List Int), vs = [.ref b] ∧ SqT K H b (c.map V.int) ∧ c.length ≤ 100 ∧ ∀ v H', Same H H' → Dv H' v (Dg.at_ 0 c).toD → Q v H'
section
variable {P : Program} {w : World} {K : PySem.W.Frag} {mg : Str → Option Value} {base : Heap} {f g : Addr} {fd gd : FuncData}
theorem scSwitch : FnScope ["i"] ["i"] (defScope sSwitch) := ⟨rfl, rfl, rfl, by decide +kernel, rfl, by decide +kernel, by decide +kernel⟩
theorem scNeg : FnScope ["d", "i", "low", "high"] ["d"] (defScope sNeg) := ⟨rfl, rfl, rfl, by decide +kernel, rfl, by decide +kernel, by decide +kernel⟩
theorem scHalf : FnScope ["d", "i", "bit"] ["d", "i", "bit"] (defScope sHalf) := ⟨rfl, rfl, rfl, by decide +kernel, rfl, by decide +kernel, by decide +kernel⟩
theorem scFork : FnScope ["i", "low", "high"] ["i", "low", "high"] (defScope sFork) := ⟨rfl, rfl, rfl, by decide +kernel, rfl, by decide +kernel, by decide +kernel⟩
theorem scBoth2 : FnScope ["d", "e", "i"] ["d", "e"] (defScope sBoth2) := ⟨rfl, rfl, rfl, by decide +kernel, rfl, by decide +kernel, by decide +kernel⟩
theorem scEith2 : FnScope ["d", "e", "i"] ["d", "e"] (defScope sEith2) := ⟨rfl, rfl, rfl, by decide +kernel, rfl, by decide +kernel, by decide +kernel⟩
theorem scHolds : FnScope ["d", "configuration", "i", "low", "high"] ["d", "configuration"] (defScope sHolds) := ⟨rfl, rfl, rfl, by decide +kernel, rfl, by decide +kernel, by decide +kernel⟩
theorem scDat : FnScope ["configuration", "d", "i"] ["configuration"] (defScope sDat) := ⟨rfl, rfl, rfl, by decide +kernel, rfl, by decide +kernel, by decide +kernel⟩
theorem Dv.mkNode {H : Hp} {p : Addr} {i : Nat} {v u : V} {lo hi : Dg} (h : H p = some (.tup [.int i, v, u])) (h1 : Dv H v lo.toD) (h2 : Dv H u hi.toD) : Dv H (.ref p) (Dg.node i lo hi).toD :=
  Dv.tup h (DvAll.cons Dv.int (DvAll.cons h1 (DvAll.cons h2 DvAll.nil)))
theorem ok_switch (F : Fun K "switch" "switch" sSwitch f fd) : FnOk P w K mg base CX0 1 f fd ["i"] spSwitch := by
  refine F.ok scSwitch (fun vs H Q E h => ?_) (fun cdv A outer s H vs Q E hr h => ?_)
  · obtain ⟨i, rfl, _⟩ := h
    rfl
  obtain ⟨i, rfl, q⟩ := h
  refine ⟨_, pss_one (ps_ret (pe_tup (pa_cons (pv 0) (pa_cons pe_bl (pa_cons pe_bl pa_nil))))), ?_⟩
  exact ⟨_, rfl, (by show 3 ≤ sizeLine; decide), fun p np => q _ _ (same_new np _) (Dv.mkNode upd_same Dv.bool Dv.bool)⟩
theorem ok_neg1 {n : Nat} (F : Fun K "negated" "negated" sNeg f fd) (G : FnOk P w K mg base CX0 n f fd ["d"] (spNeg n)) (bG : Binds K fd ["d"] []) (kG : PySem.W.keepIn K (.ref f) = true) (mG : mg "negated" = some (.ref f)) (mi : mg "isinstance" = none) (mt : mg "tuple" = none) :
    FnOk P w K mg base CX0 (n + 1) f fd ["d"] (spNeg (n + 1)) := by
  refine F.ok scNeg (fun vs H Q E h => ?_) (fun cdv A outer s H vs Q E hr h => ?_)
  · obtain ⟨v, d, rfl, _⟩ := h
    rfl
  obtain ⟨v, d, rfl, hv, hn, q⟩ := h
  refine ⟨_, pss_cons (ps_if (pt_not (pt_val (pe_callB call_isi (by rfl) mi (by decide +kernel) (pa_cons (pv 0) (pa_cons (pe_bltn (v := .ty "tuple") (by rfl) mt (by decide +kernel) rfl) pa_nil))))) (pss_one (ps_ret (pe_not (pv 0)))) pss_nil)
    (pss_cons (ps_asg (pv 0) (pg_tup rfl (pgs_cons (pg_name (i := 1) scNeg.nd rfl (.inl rfl)) (pgs_cons (pg_name (i := 2) scNeg.nd rfl (.inl rfl)) (pgs_cons (pg_name (i := 3) scNeg.nd rfl (.inl rfl)) pgs_nil)))))
    (pss_one (ps_ret (pe_tup (pa_cons (pv 1) (pa_cons (pe_call G hr rfl mG kG bG .nil pass0 (pa_cons (pv 2) pa_nil)) (pa_cons (pe_call G hr rfl mG kG bG .nil pass0 (pa_cons (pv 3) pa_nil)) pa_nil))))))), ?_⟩
  refine ⟨_, rfl, _, _, _, _, _, rfl, .ty _, hv.ty, kit_tup _, _, rfl, ?_⟩
  cases d with
  | leaf b =>
    cases hv.of_bool
    exact iteT ⟨_, rfl, _, rfl, q _ H (Same.refl H) Dv.bool⟩
  | node i lo hi =>
    obtain ⟨p, x, y, rfl, e1, hx, hy⟩ := Dv.node hv
    have hh : max lo.ht hi.ht + 1 < n + 1 := hn
    refine iteF ⟨_, rfl, p, _, rfl, SqT.of e1, rfl, _, _, rfl, _, _, rfl, _, _, rfl, rfl, ?_⟩
    refine ⟨_, rfl, _, rfl, x, lo, rfl, hx, by omega, fun v1 H1 g1 k1 => ?_⟩
    refine ⟨_, rfl, y, hi, rfl, Dv.keep (KeepT.of g1) _ _ hy, by omega, fun v2 H2 g2 k2 => ?_⟩
    refine ⟨(by show 3 ≤ sizeLine; decide), fun r nr => ?_⟩
    have g3 := same_new nr (.tup [.int i, v1, v2])
    exact q _ _ ((g1.trans g2).trans g3) (Dv.mkNode upd_same (Dv.keep (KeepT.of (g2.trans g3)) _ _ k1) (Dv.keep (KeepT.of g3) _ _ k2))
theorem ok_neg (F : Fun K "negated" "negated" sNeg f fd) (bG : Binds K fd ["d"] []) (mG : mg "negated" = some (.ref f)) (mi : mg "isinstance" = none) (mt : mg "tuple" = none) : ∀ n, FnOk P w K mg base CX0 n f fd ["d"] (spNeg n)
  | 0 => no_ok fun vs H Q E h => by
    obtain ⟨v, d, _, _, h, _⟩ := h
    omega
  | n + 1 => ok_neg1 F (ok_neg F bG mG mi mt n) bG F.kp mG mi mt
theorem ok_half (F : Fun K "_half" "_half" sHalf f fd) (mi : mg "isinstance" = none) (mt : mg "tuple" = none) : FnOk P w K mg base CX0 1 f fd ["d", "i", "bit"] spHalf := by
  refine F.ok scHalf (fun vs H Q E h => ?_) (fun cdv A outer s H vs Q E hr h => ?_)
  · obtain ⟨v, d, i, b, rfl, _⟩ := h
    rfl
  obtain ⟨v, d, i, b, rfl, hv, q⟩ := h
  refine ⟨_, pss_cons (ps_if (PW.pt (pw_and (pt_val (pe_callB call_isi (by rfl) mi (by decide +kernel) (pa_cons (pv 0) (pa_cons (pe_bltn (v := .ty "tuple") (by rfl) mt (by decide +kernel) rfl) pa_nil))))
      (pw_and1 (pt_cmpR op_eq (pe_ix ix_tup (pv 0) pe_int (fun _ _ => rfl)) (pv 1) (nomark _))))) (pss_one (ps_ret (pe_ix ix_tup (pv 0) (pe_op op_add pe_int (pv 2)) (fun _ _ => rfl)))) pss_nil)
    (pss_one (ps_ret (pv 0))), ?_⟩
  refine ⟨_, rfl, _, _, _, _, _, rfl, .ty _, hv.ty, kit_tup _, _, rfl, ?_⟩
  cases d with
  | leaf x => exact iteF ⟨_, rfl, q _ hv⟩
  | node j lo hi =>
    have hv' := hv
    obtain ⟨p, x, y, rfl, e1, hx, hy⟩ := Dv.node hv
    refine iteT ⟨_, rfl, p, _, _, _, rfl, rfl, SqT.of e1, at_of (j := 0) (v := .int j) rfl rfl, _, rfl, rfl, _, rfl, ite2 (fun c => ?_) (fun c => ?_)⟩
    · have c' : j = i := by
        have := V.int.inj (of_decide_eq_true c)
        omega
      rw [show Dg.half i b (.node j lo hi) = if b then hi else lo by rw [Dg.half_node, if_pos c']] at q
      cases b with
      | false => exact ⟨_, rfl, _, rfl, _, _, rfl, rfl, p, _, _, _, rfl, rfl, SqT.of e1, at_of (j := 1) (v := x) rfl rfl, q _ hx⟩
      | true => exact ⟨_, rfl, _, rfl, _, _, rfl, rfl, p, _, _, _, rfl, rfl, SqT.of e1, at_of (j := 2) (v := y) rfl rfl, q _ hy⟩
    · have c' : ¬ j = i := fun e => c (decide_eq_true (by rw [e]))
      rw [Dg.half_node, if_neg c'] at q
      exact ⟨_, rfl, q _ hv'⟩
theorem ok_fork (F : Fun K "_fork" "_fork" sFork f fd) : FnOk P w K mg base CX0 1 f fd ["i", "low", "high"] spFork := by
  refine F.ok scFork (fun vs H Q E h => ?_) (fun cdv A outer s H vs Q E hr h => ?_)
  · obtain ⟨i, v, u, lo, hi, rfl, _⟩ := h
    rfl
  obtain ⟨i, v, u, lo, hi, rfl, h1, h2, h3, h4, q⟩ := h
  refine ⟨_, pss_cons (ps_if (pt_cmpR (op_eqD hr.units) (pv 1) (pv 2) (nomark _)) (pss_one (ps_ret (pv 1))) pss_nil)
    (pss_one (ps_ret (pe_tup (pa_cons (pv 0) (pa_cons (pv 1) (pa_cons (pv 2) pa_nil)))))), ?_⟩
  refine ⟨_, rfl, _, rfl, _, _, h1.dp, h2.dp, Dg.shaped h3, Dg.shaped h4, _, rfl, ?_⟩
  rw [Dg.eqv_toD]
  unfold Dg.fork at q
  refine ite2 (fun c => ?_) (fun c => ?_)
  · rw [if_pos (of_decide_eq_true c)] at q
    exact ⟨_, rfl, q _ H (Same.refl H) h1⟩
  · rw [if_neg (of_decide_eq_false (Bool.eq_false_iff.mpr c))] at q
    refine ⟨_, rfl, _, rfl, _, rfl, (by show 3 ≤ sizeLine; decide), fun r nr => ?_⟩
    have g3 := same_new nr (.tup [.int i, v, u])
    exact q _ _ g3 (Dv.mkNode upd_same (Dv.keep (KeepT.of g3) _ _ h1) (Dv.keep (KeepT.of g3) _ _ h2))
theorem ok_both21 {n k0 : Nat} (F : Fun K "both" "both" sBoth2 f fd) (G : FnOk P w K mg base CX0 k0 f fd ["d", "e"] (spJoin false n)) (bG : Binds K fd ["d", "e"] []) (kG : PySem.W.keepIn K (.ref f) = true) (mG : mg "both" = some (.ref f)) (hn1 : 1 ≤ k0)
    {a1 a2 : Addr} {d1 d2 : FuncData} (GH : FnOk P w K mg base CX0 1 a1 d1 ["d", "i", "bit"] spHalf) (bH : Binds K d1 ["d", "i", "bit"] []) (kH : PySem.W.keepIn K (.ref a1) = true) (mH : mg "_half" = some (.ref a1))
    (GF : FnOk P w K mg base CX0 1 a2 d2 ["i", "low", "high"] spFork) (bF : Binds K d2 ["i", "low", "high"] []) (kF : PySem.W.keepIn K (.ref a2) = true) (mF : mg "_fork" = some (.ref a2)) (mm : mg "min" = none) :
    FnOk P w K mg base CX0 (k0 + 1) f fd ["d", "e"] (spJoin false (n + 1)) := by
  refine F.ok scBoth2 (fun vs H Q E h => ?_) (fun cdv A outer s H vs Q E hr h => ?_)
  · obtain ⟨v, u, d, e, l, rfl, _⟩ := h
    rfl
  obtain ⟨v, u, d, e, l, rfl, hv, hu, fd', fe, hn, q⟩ := h
  have hr1 := hr.mono hn1
  refine ⟨_, pss_cons (ps_if (PW.pt (pw_or (pt_cmpR op_isAny (pv 0) pe_bl (nomark _)) (pw_or1 (pt_cmpR op_isAny (pv 1) pe_bl (nomark _))))) (pss_one (ps_ret (pv 1))) pss_nil)
    (pss_cons (ps_if (PW.pt (pw_or (pt_cmpR op_isAny (pv 1) pe_bl (nomark _)) (pw_or1 (pt_cmpR op_isAny (pv 0) pe_bl (nomark _))))) (pss_one (ps_ret (pv 0))) pss_nil)
    (pss_cons (ps_set (i := 2) scBoth2.nd rfl (.inl rfl) (pe_callB (call_min2 rfl) (by rfl) mm (by decide +kernel) (pa_cons (pe_ix ix_tup (pv 0) pe_int (fun _ _ => rfl)) (pa_cons (pe_ix ix_tup (pv 1) pe_int (fun _ _ => rfl)) pa_nil))))
    (pss_one (ps_ret (pe_call GF hr1 rfl mF kF bF .nil pass0 (pa_cons (pv 2) (pa_cons
      (pe_call G hr rfl mG kG bG .nil pass0 (pa_cons (pe_call GH hr1 rfl mH kH bH .nil pass0 (pa_cons (pv 0) (pa_cons (pv 2) (pa_cons pe_int pa_nil)))) (pa_cons (pe_call GH hr1 rfl mH kH bH .nil pass0 (pa_cons (pv 1) (pa_cons (pv 2) (pa_cons pe_int pa_nil)))) pa_nil)))
      (pa_cons (pe_call G hr rfl mG kG bG .nil pass0 (pa_cons (pe_call GH hr1 rfl mH kH bH .nil pass0 (pa_cons (pv 0) (pa_cons (pv 2) (pa_cons pe_int pa_nil)))) (pa_cons (pe_call GH hr1 rfl mH kH bH .nil pass0 (pa_cons (pv 1) (pa_cons (pv 2) (pa_cons pe_int pa_nil)))) pa_nil))) pa_nil)))))))), ?_⟩
  obtain ⟨s1, s2⟩ := hv.isLeaf (z := !false)
  obtain ⟨_, s3⟩ := hv.isLeaf (z := false)
  obtain ⟨t1, t2⟩ := hu.isLeaf (z := false)
  obtain ⟨_, t3⟩ := hu.isLeaf (z := !false)
  unfold Dg.join at q
  have done1 : (d = .leaf (!false) ∨ e = .leaf false) → Q u H := fun c => by
    rw [if_pos c] at q
    exact q u H (Same.refl H) hu
  refine ⟨_, rfl, _, rfl, s1, _, rfl, ite2 (fun c => iteT ⟨_, rfl, done1 (.inl (of_decide_eq_true (s2.symm.trans c)))⟩) (fun c1 => ⟨_, rfl, _, rfl, t1, _, rfl, ite2 (fun c => ⟨_, rfl, done1 (.inr (of_decide_eq_true (t2.symm.trans c)))⟩) (fun c2 => ?_)⟩)⟩
  have n1 : ¬ d = .leaf (!false) := fun e => c1 (s2.trans (decide_eq_true e))
  have n2 : ¬ e = .leaf false := fun e => c2 (t2.trans (decide_eq_true e))
  rw [if_neg (fun c => c.elim n1 n2)] at q
  have done2 : (e = .leaf (!false) ∨ d = .leaf false) → Q v H := fun c => by
    rw [if_pos c] at q
    exact q v H (Same.refl H) hv
  refine ⟨_, rfl, _, rfl, t1, _, rfl, ite2 (fun c => iteT ⟨_, rfl, done2 (.inl (of_decide_eq_true (t3.symm.trans c)))⟩) (fun c3 => ⟨_, rfl, _, rfl, s1, _, rfl, ite2 (fun c => ⟨_, rfl, done2 (.inr (of_decide_eq_true (s3.symm.trans c)))⟩) (fun c4 => ?_)⟩)⟩
  have n3 : ¬ e = .leaf (!false) := fun e => c3 (t3.trans (decide_eq_true e))
  have n4 : ¬ d = .leaf false := fun e => c4 (s3.trans (decide_eq_true e))
  rw [if_neg (fun c => c.elim n3 n4)] at q
  obtain ⟨j, a, b, rfl⟩ : ∃ j a b, d = .node j a b := by
    cases d with
    | leaf x => exfalso; cases x <;> simp at n1 n4
    | node j a b => exact ⟨j, a, b, rfl⟩
  obtain ⟨k, x, y, rfl⟩ : ∃ k x y, e = .node k x y := by
    cases e with
    | leaf x => exfalso; cases x <;> simp at n2 n3
    | node j a b => exact ⟨j, a, b, rfl⟩
  have hv' := hv
  have hu' := hu
  obtain ⟨p1, x1, y1, rfl, e1, _, _⟩ := Dv.node hv
  obtain ⟨p2, x2, y2, rfl, e2, _, _⟩ := Dv.node hu
  refine ⟨_, rfl, p1, _, _, _, rfl, rfl, SqT.of e1, at_of (j := 0) (v := .int j) rfl rfl, _, rfl, p2, _, _, _, rfl, rfl, SqT.of e2, at_of (j := 0) (v := .int k) rfl rfl, _, _, rfl, ?_⟩
  have em : (if (k : Int) < (j : Int) then (k : Int) else (j : Int)) = ((min j k : Nat) : Int) := by
    by_cases z : k < j
    · rw [if_pos (by omega), Nat.min_eq_right (by omega)]
    · rw [if_neg (by omega), Nat.min_eq_left (by omega)]
  rw [em]
  have k1 : ∀ u, Dg.Fit 20 (min j k + 1) (Dg.half (min j k) u (.node j a b)) := fun u => Dg.half_fit fd' fun j' _ _ e => by cases e; omega
  have k2 : ∀ u, Dg.Fit 20 (min j k + 1) (Dg.half (min j k) u (.node k x y)) := fun u => Dg.half_fit fe fun j' _ _ e => by cases e; omega
  have dr := fun u => Dg.half_drop (i := j) (j := k) (a := a) (b := b) (x := x) (y := y) u
  have jf := fun u => Dg.join_fit false n (k1 u) (k2 u)
  have l1 := fd'.1
  have l2 := fd'.2.1
  have q' : ∀ v' H', Same H H' → Dv H' v' (Dg.fork (min j k) (Dg.join false n (Dg.half (min j k) false (.node j a b)) (Dg.half (min j k) false (.node k x y))) (Dg.join false n (Dg.half (min j k) true (.node j a b)) (Dg.half (min j k) true (.node k x y)))).toD → Q v' H' := q
  generalize min j k = m at k1 k2 dr jf q'
  have hts : ∀ {d : Dg} {l : Nat}, d.Fit 20 l → l ≤ 20 → d.ht ≤ 30 := fun {d l} h hl => by have := h.ht; omega
  refine ⟨_, rfl, _, rfl, _, rfl, .ref p1, .node j a b, m, false, rfl, hv', fun w1 h1 => ?_⟩
  refine ⟨_, rfl, _, rfl, .ref p2, .node k x y, m, false, rfl, hu', fun w2 h2 => ?_⟩
  refine ⟨w1, w2, _, _, m + 1, rfl, h1, h2, k1 false, k2 false, by have := dr false; omega, fun r1 H1 g1 h3 => ?_⟩
  refine ⟨_, rfl, _, rfl, .ref p1, .node j a b, m, true, rfl, Dv.keep (KeepT.of g1) _ _ hv', fun w3 h4 => ?_⟩
  refine ⟨_, rfl, _, rfl, .ref p2, .node k x y, m, true, rfl, Dv.keep (KeepT.of g1) _ _ hu', fun w4 h5 => ?_⟩
  refine ⟨w3, w4, _, _, m + 1, rfl, h4, h5, k1 true, k2 true, by have := dr true; omega, fun r2 H2 g2 h6 => ?_⟩
  have fit20 : ∀ u, (Dg.join false n (Dg.half m u (.node j a b)) (Dg.half m u (.node k x y))).ht ≤ 30 := fun u => by
    have := (jf u).ht
    by_cases hm : m + 1 ≤ 20 <;> omega
  refine ⟨m, r1, r2, _, _, rfl, Dv.keep (KeepT.of g2) _ _ h3, h6, fit20 false, fit20 true, fun v' H3 g3 h7 => ?_⟩
  exact q' v' H3 ((g1.trans g2).trans g3) h7
theorem ok_both2 (F : Fun K "both" "both" sBoth2 f fd) (bG : Binds K fd ["d", "e"] []) (mG : mg "both" = some (.ref f))
    {a1 a2 : Addr} {d1 d2 : FuncData} (GH : FnOk P w K mg base CX0 1 a1 d1 ["d", "i", "bit"] spHalf) (bH : Binds K d1 ["d", "i", "bit"] []) (kH : PySem.W.keepIn K (.ref a1) = true) (mH : mg "_half" = some (.ref a1))
    (GF : FnOk P w K mg base CX0 1 a2 d2 ["i", "low", "high"] spFork) (bF : Binds K d2 ["i", "low", "high"] []) (kF : PySem.W.keepIn K (.ref a2) = true) (mF : mg "_fork" = some (.ref a2)) (mm : mg "min" = none) :
    ∀ n, FnOk P w K mg base CX0 (n + 1) f fd ["d", "e"] (spJoin false n)
  | 0 => FnOk.mono (no_ok fun vs H Q E h => by
    obtain ⟨v, u, d, e, l, _, _, _, _, _, h, _⟩ := h
    omega) (by decide)
  | n + 1 => ok_both21 F (ok_both2 F bG mG GH bH kH mH GF bF kF mF mm n) bG F.kp mG (by omega) GH bH kH mH GF bF kF mF mm
theorem ok_eith21 {n k0 : Nat} (F : Fun K "either" "either" sEith2 f fd) (G : FnOk P w K mg base CX0 k0 f fd ["d", "e"] (spJoin true n)) (bG : Binds K fd ["d", "e"] []) (kG : PySem.W.keepIn K (.ref f) = true) (mG : mg "either" = some (.ref f)) (hn1 : 1 ≤ k0)
    {a1 a2 : Addr} {d1 d2 : FuncData} (GH : FnOk P w K mg base CX0 1 a1 d1 ["d", "i", "bit"] spHalf) (bH : Binds K d1 ["d", "i", "bit"] []) (kH : PySem.W.keepIn K (.ref a1) = true) (mH : mg "_half" = some (.ref a1))
    (GF : FnOk P w K mg base CX0 1 a2 d2 ["i", "low", "high"] spFork) (bF : Binds K d2 ["i", "low", "high"] []) (kF : PySem.W.keepIn K (.ref a2) = true) (mF : mg "_fork" = some (.ref a2)) (mm : mg "min" = none) :
    FnOk P w K mg base CX0 (k0 + 1) f fd ["d", "e"] (spJoin true (n + 1)) := by
  refine F.ok scEith2 (fun vs H Q E h => ?_) (fun cdv A outer s H vs Q E hr h => ?_)
  · obtain ⟨v, u, d, e, l, rfl, _⟩ := h
    rfl
  obtain ⟨v, u, d, e, l, rfl, hv, hu, fd', fe, hn, q⟩ := h
  have hr1 := hr.mono hn1
  refine ⟨_, pss_cons (ps_if (PW.pt (pw_or (pt_cmpR op_isAny (pv 0) pe_bl (nomark _)) (pw_or1 (pt_cmpR op_isAny (pv 1) pe_bl (nomark _))))) (pss_one (ps_ret (pv 1))) pss_nil)
    (pss_cons (ps_if (PW.pt (pw_or (pt_cmpR op_isAny (pv 1) pe_bl (nomark _)) (pw_or1 (pt_cmpR op_isAny (pv 0) pe_bl (nomark _))))) (pss_one (ps_ret (pv 0))) pss_nil)
    (pss_cons (ps_set (i := 2) scEith2.nd rfl (.inl rfl) (pe_callB (call_min2 rfl) (by rfl) mm (by decide +kernel) (pa_cons (pe_ix ix_tup (pv 0) pe_int (fun _ _ => rfl)) (pa_cons (pe_ix ix_tup (pv 1) pe_int (fun _ _ => rfl)) pa_nil))))
    (pss_one (ps_ret (pe_call GF hr1 rfl mF kF bF .nil pass0 (pa_cons (pv 2) (pa_cons
      (pe_call G hr rfl mG kG bG .nil pass0 (pa_cons (pe_call GH hr1 rfl mH kH bH .nil pass0 (pa_cons (pv 0) (pa_cons (pv 2) (pa_cons pe_int pa_nil)))) (pa_cons (pe_call GH hr1 rfl mH kH bH .nil pass0 (pa_cons (pv 1) (pa_cons (pv 2) (pa_cons pe_int pa_nil)))) pa_nil)))
      (pa_cons (pe_call G hr rfl mG kG bG .nil pass0 (pa_cons (pe_call GH hr1 rfl mH kH bH .nil pass0 (pa_cons (pv 0) (pa_cons (pv 2) (pa_cons pe_int pa_nil)))) (pa_cons (pe_call GH hr1 rfl mH kH bH .nil pass0 (pa_cons (pv 1) (pa_cons (pv 2) (pa_cons pe_int pa_nil)))) pa_nil))) pa_nil)))))))), ?_⟩
  obtain ⟨s1, s2⟩ := hv.isLeaf (z := !true)
  obtain ⟨_, s3⟩ := hv.isLeaf (z := true)
  obtain ⟨t1, t2⟩ := hu.isLeaf (z := true)
  obtain ⟨_, t3⟩ := hu.isLeaf (z := !true)
  unfold Dg.join at q
  have done1 : (d = .leaf (!true) ∨ e = .leaf true) → Q u H := fun c => by
    rw [if_pos c] at q
    exact q u H (Same.refl H) hu
  refine ⟨_, rfl, _, rfl, s1, _, rfl, ite2 (fun c => iteT ⟨_, rfl, done1 (.inl (of_decide_eq_true (s2.symm.trans c)))⟩) (fun c1 => ⟨_, rfl, _, rfl, t1, _, rfl, ite2 (fun c => ⟨_, rfl, done1 (.inr (of_decide_eq_true (t2.symm.trans c)))⟩) (fun c2 => ?_)⟩)⟩
  have n1 : ¬ d = .leaf (!true) := fun e => c1 (s2.trans (decide_eq_true e))
  have n2 : ¬ e = .leaf true := fun e => c2 (t2.trans (decide_eq_true e))
  rw [if_neg (fun c => c.elim n1 n2)] at q
  have done2 : (e = .leaf (!true) ∨ d = .leaf true) → Q v H := fun c => by
    rw [if_pos c] at q
    exact q v H (Same.refl H) hv
  refine ⟨_, rfl, _, rfl, t1, _, rfl, ite2 (fun c => iteT ⟨_, rfl, done2 (.inl (of_decide_eq_true (t3.symm.trans c)))⟩) (fun c3 => ⟨_, rfl, _, rfl, s1, _, rfl, ite2 (fun c => ⟨_, rfl, done2 (.inr (of_decide_eq_true (s3.symm.trans c)))⟩) (fun c4 => ?_)⟩)⟩
  have n3 : ¬ e = .leaf (!true) := fun e => c3 (t3.trans (decide_eq_true e))
  have n4 : ¬ d = .leaf true := fun e => c4 (s3.trans (decide_eq_true e))
  rw [if_neg (fun c => c.elim n3 n4)] at q
  obtain ⟨j, a, b, rfl⟩ : ∃ j a b, d = .node j a b := by
    cases d with
    | leaf x => exfalso; cases x <;> simp at n1 n4
    | node j a b => exact ⟨j, a, b, rfl⟩
  obtain ⟨k, x, y, rfl⟩ : ∃ k x y, e = .node k x y := by
    cases e with
    | leaf x => exfalso; cases x <;> simp at n2 n3
    | node j a b => exact ⟨j, a, b, rfl⟩
  have hv' := hv
  have hu' := hu
  obtain ⟨p1, x1, y1, rfl, e1, _, _⟩ := Dv.node hv
  obtain ⟨p2, x2, y2, rfl, e2, _, _⟩ := Dv.node hu
  refine ⟨_, rfl, p1, _, _, _, rfl, rfl, SqT.of e1, at_of (j := 0) (v := .int j) rfl rfl, _, rfl, p2, _, _, _, rfl, rfl, SqT.of e2, at_of (j := 0) (v := .int k) rfl rfl, _, _, rfl, ?_⟩
  have em : (if (k : Int) < (j : Int) then (k : Int) else (j : Int)) = ((min j k : Nat) : Int) := by
    by_cases z : k < j
    · rw [if_pos (by omega), Nat.min_eq_right (by omega)]
    · rw [if_neg (by omega), Nat.min_eq_left (by omega)]
  rw [em]
  have k1 : ∀ u, Dg.Fit 20 (min j k + 1) (Dg.half (min j k) u (.node j a b)) := fun u => Dg.half_fit fd' fun j' _ _ e => by cases e; omega
  have k2 : ∀ u, Dg.Fit 20 (min j k + 1) (Dg.half (min j k) u (.node k x y)) := fun u => Dg.half_fit fe fun j' _ _ e => by cases e; omega
  have dr := fun u => Dg.half_drop (i := j) (j := k) (a := a) (b := b) (x := x) (y := y) u
  have jf := fun u => Dg.join_fit true n (k1 u) (k2 u)
  have l1 := fd'.1
  have l2 := fd'.2.1
  have q' : ∀ v' H', Same H H' → Dv H' v' (Dg.fork (min j k) (Dg.join true n (Dg.half (min j k) false (.node j a b)) (Dg.half (min j k) false (.node k x y))) (Dg.join true n (Dg.half (min j k) true (.node j a b)) (Dg.half (min j k) true (.node k x y)))).toD → Q v' H' := q
  generalize min j k = m at k1 k2 dr jf q'
  have hts : ∀ {d : Dg} {l : Nat}, d.Fit 20 l → l ≤ 20 → d.ht ≤ 30 := fun {d l} h hl => by have := h.ht; omega
  refine ⟨_, rfl, _, rfl, _, rfl, .ref p1, .node j a b, m, false, rfl, hv', fun w1 h1 => ?_⟩
  refine ⟨_, rfl, _, rfl, .ref p2, .node k x y, m, false, rfl, hu', fun w2 h2 => ?_⟩
  refine ⟨w1, w2, _, _, m + 1, rfl, h1, h2, k1 false, k2 false, by have := dr false; omega, fun r1 H1 g1 h3 => ?_⟩
  refine ⟨_, rfl, _, rfl, .ref p1, .node j a b, m, true, rfl, Dv.keep (KeepT.of g1) _ _ hv', fun w3 h4 => ?_⟩
  refine ⟨_, rfl, _, rfl, .ref p2, .node k x y, m, true, rfl, Dv.keep (KeepT.of g1) _ _ hu', fun w4 h5 => ?_⟩
  refine ⟨w3, w4, _, _, m + 1, rfl, h4, h5, k1 true, k2 true, by have := dr true; omega, fun r2 H2 g2 h6 => ?_⟩
  have fit20 : ∀ u, (Dg.join true n (Dg.half m u (.node j a b)) (Dg.half m u (.node k x y))).ht ≤ 30 := fun u => by
    have := (jf u).ht
    by_cases hm : m + 1 ≤ 20 <;> omega
  refine ⟨m, r1, r2, _, _, rfl, Dv.keep (KeepT.of g2) _ _ h3, h6, fit20 false, fit20 true, fun v' H3 g3 h7 => ?_⟩
  exact q' v' H3 ((g1.trans g2).trans g3) h7
theorem ok_eith2 (F : Fun K "either" "either" sEith2 f fd) (bG : Binds K fd ["d", "e"] []) (mG : mg "either" = some (.ref f))
    {a1 a2 : Addr} {d1 d2 : FuncData} (GH : FnOk P w K mg base CX0 1 a1 d1 ["d", "i", "bit"] spHalf) (bH : Binds K d1 ["d", "i", "bit"] []) (kH : PySem.W.keepIn K (.ref a1) = true) (mH : mg "_half" = some (.ref a1))
    (GF : FnOk P w K mg base CX0 1 a2 d2 ["i", "low", "high"] spFork) (bF : Binds K d2 ["i", "low", "high"] []) (kF : PySem.W.keepIn K (.ref a2) = true) (mF : mg "_fork" = some (.ref a2)) (mm : mg "min" = none) :
    ∀ n, FnOk P w K mg base CX0 (n + 1) f fd ["d", "e"] (spJoin true n)
  | 0 => FnOk.mono (no_ok fun vs H Q E h => by
    obtain ⟨v, u, d, e, l, _, _, _, _, _, h, _⟩ := h
    omega) (by decide)
  | n + 1 => ok_eith21 F (ok_eith2 F bG mG GH bH kH mH GF bF kF mF mm n) bG F.kp mG (by omega) GH bH kH mH GF bF kF mF mm

theorem ok_holds (F : Fun K "holds" "holds" sHolds f fd) (mi : mg "isinstance" = none) (mt : mg "tuple" = none) : FnOk P w K mg base CX0 1 f fd ["d", "configuration"] (spHolds K) := by
  refine F.ok scHolds (fun vs H Q E h => ?_) (fun cdv A outer s H vs Q E hr h => ?_)
  · obtain ⟨v, d, b, c, rfl, _⟩ := h
    rfl
  obtain ⟨v, d, b, c, rfl, hv, hc, hf, q⟩ := h
  refine ⟨_, pss_cons (ps_while PassesOwn.never (pt_val (pe_callB call_isi (by rfl) mi (by decide +kernel) (pa_cons (pv 0) (pa_cons (pe_bltn (v := .ty "tuple") (by rfl) mt (by decide +kernel) rfl) pa_nil))))
      (pss_cons (ps_asg (pv 0) (pg_tup rfl (pgs_cons (pg_name (i := 2) scHolds.nd rfl (.inl rfl)) (pgs_cons (pg_name (i := 3) scHolds.nd rfl (.inl rfl)) (pgs_cons (pg_name (i := 4) scHolds.nd rfl (.inl rfl)) pgs_nil)))))
      (pss_one (ps_set (i := 0) scHolds.nd rfl (.inl rfl) (pe_ifExp (pt_cmpR op_eq (pe_ix ix_tup (pv 1) (pv 2) (fun _ _ => rfl)) pe_int (nomark _)) (pv 4) (pv 3))))))
    (pss_one (ps_ret (pv 0))), ?_⟩
  refine ⟨fun m σ H' => H' = H ∧ ∃ (v' : V) (d' : Dg) (c2 c3 c4 : Option V) (l : Nat), σ = [some v', some (.ref b), c2, c3, c4] ∧ Dv H v' d'.toD ∧ d'.Fit c.length l ∧ d'.hold 0 c = d.hold 0 c ∧ m = d'.ht, ⟨_, rfl, v, d, none, none, none, 0, rfl, hv, hf, rfl, rfl⟩, ?_⟩
  rintro m σ H' ⟨rfl, v', d', c2, c3, c4, l, rfl, k1, k2, k3, rfl⟩
  refine ⟨_, rfl, _, _, _, _, _, rfl, .ty _, k1.ty, kit_tup _, _, rfl, ?_⟩
  cases d' with
  | leaf x =>
    cases k1.of_bool
    refine iteF ⟨_, rfl, ?_⟩
    rw [← k3] at q
    exact q
  | node j lo hi =>
    obtain ⟨p, x, y, rfl, e1, hx, hy⟩ := Dv.node k1
    obtain ⟨f1, f2, f3, f4, f5⟩ := k2
    refine iteT ⟨_, fun σ' H' h => h, _, rfl, p, _, rfl, SqT.of e1, rfl, _, _, rfl, _, _, rfl, _, _, rfl, rfl, ?_⟩
    have ec : (c.map V.int)[j]? = some (.int (c.getD j 0)) := by
      rw [List.getElem?_map, List.getElem?_eq_getElem f2, List.getD_eq_getElem?_getD, List.getElem?_eq_getElem f2]
      rfl
    have eh : (Dg.node j lo hi).hold 0 c = if c.getD j 0 = 1 then hi.hold 0 c else lo.hold 0 c := rfl
    refine ⟨_, rfl, _, rfl, b, _, _, _, rfl, rfl, hc, at_of rfl ec, rfl, _, rfl, ite2 (fun z => ?_) (fun z => ?_)⟩
    · have z' := V.int.inj (of_decide_eq_true z)
      rw [if_pos z'] at eh
      exact ⟨_, rfl, hi.ht, (by show hi.ht < max lo.ht hi.ht + 1; omega), rfl, y, hi, _, _, _, j + 1, rfl, hy, f5, eh.symm.trans k3, rfl⟩
    · have z' : ¬ c.getD j 0 = 1 := fun e => z (decide_eq_true (by rw [e]))
      rw [if_neg z'] at eh
      exact ⟨_, rfl, lo.ht, (by show lo.ht < max lo.ht hi.ht + 1; omega), rfl, x, lo, _, _, _, j + 1, rfl, hx, f4, eh.symm.trans k3, rfl⟩
theorem ok_dat (F : Fun K "diagram_at" "diagram_at" sDat f fd) (mv : mg "reversed" = none) (mr : mg "range" = none) (ml : mg "len" = none) : FnOk P w K mg base CX0 1 f fd ["configuration"] (spDat K) := by
  refine F.ok scDat (fun vs H Q E h => ?_) (fun cdv A outer s H vs Q E hr h => ?_)
  · obtain ⟨b, c, rfl, _⟩ := h
    rfl
  obtain ⟨b, c, rfl, hc, hl, q⟩ := h
  refine ⟨_, pss_cons (ps_set (i := 1) scDat.nd rfl (.inl rfl) pe_bl)
    (pss_cons (ps_for PassesOwn.never rfl (pi_revR (by rfl) mv (prg_1 (by rfl) mr (pe_callB call_len_seq (by rfl) ml PySem.boot_len (pa_cons (pv 0) pa_nil)))) (pg_name (i := 2) scDat.nd rfl (.inl rfl))
      (pss_one (ps_set (i := 1) scDat.nd rfl (.inl rfl) (pe_ifExp (pt_cmpR op_eq (pe_ix ix_tup (pv 0) (pv 2) (fun _ _ => rfl)) pe_int (nomark _)) (pe_tup (pa_cons (pv 2) (pa_cons pe_bl (pa_cons (pv 1) pa_nil)))) (pe_tup (pa_cons (pv 2) (pa_cons (pv 1) (pa_cons pe_bl pa_nil))))))))
    (pss_one (ps_ret (pv 1)))), ?_⟩
  refine ⟨_, rfl, b, _, rfl, .inr hc, _, rfl, by decide, by decide, by omega, by rw [List.length_map]; omega, ?_⟩
  have en : ((((c.map V.int).length : Nat) : Int) - 0).toNat = c.length := by rw [List.length_map]; omega
  rw [en]
  refine for_rangeC (n := c.length) (fun i σ H' => ∃ (v : V) (c2 : Option V), σ = [some (.ref b), some v, c2] ∧ Same H H' ∧ Dv H' v (Dg.at_ (c.length - i) (c.drop (c.length - i))).toD) ?_ ?_ ?_
  · exact ⟨_, none, rfl, Same.refl H, by rw [Nat.sub_zero, List.drop_length]; exact Dv.bool⟩
  · rintro i σ H1 hi ⟨v, c2, rfl, g1, k1⟩
    have e1 : (0 : Int) + ((c.length : Nat) : Int) - 1 + (i : Int) * -1 = ((c.length - (i + 1) : Nat) : Int) := by omega
    have hj : c.length - (i + 1) < c.length := by omega
    have e2 : c.length - i = c.length - (i + 1) + 1 := by omega
    have e3 : c.drop (c.length - (i + 1)) = c[c.length - (i + 1)] :: c.drop (c.length - i) := by rw [e2]; exact List.drop_eq_getElem_cons hj
    rw [e2] at k1 e3
    rw [e3]
    have ec : (c.map V.int)[c.length - (i + 1)]? = some (.int c[c.length - (i + 1)]) := by
      rw [List.getElem?_map, List.getElem?_eq_getElem hj]
      rfl
    generalize c[c.length - (i + 1)] = x at ec
    rw [e1]
    generalize c.length - (i + 1) = j at k1 ec
    have ea : Dg.at_ j (x :: c.drop (j + 1)) = if x = 1 then .node j (.leaf false) (Dg.at_ (j + 1) (c.drop (j + 1))) else .node j (Dg.at_ (j + 1) (c.drop (j + 1))) (.leaf false) := rfl
    refine ⟨_, rfl, _, rfl, b, _, _, _, rfl, rfl, same_tup g1 hc, at_of rfl ec, rfl, _, rfl, ite2 (fun z => ?_) (fun z => ?_)⟩
    · have z' := V.int.inj (of_decide_eq_true z)
      rw [if_pos z'] at ea
      refine ⟨_, rfl, _, rfl, (by show 3 ≤ sizeLine; decide), fun r nr => ?_⟩
      have g3 := same_new nr (.tup [.int j, .bl false, v])
      refine ⟨_, _, rfl, g1.trans g3, ?_⟩
      rw [ea]
      exact Dv.mkNode upd_same Dv.bool (Dv.keep (KeepT.of g3) _ _ k1)
    · have z' : ¬ x = 1 := fun e => z (decide_eq_true (by rw [e]))
      rw [if_neg z'] at ea
      refine ⟨_, rfl, _, rfl, (by show 3 ≤ sizeLine; decide), fun r nr => ?_⟩
      have g3 := same_new nr (.tup [.int j, v, .bl false])
      refine ⟨_, _, rfl, g1.trans g3, ?_⟩
      rw [ea]
      exact Dv.mkNode upd_same (Dv.keep (KeepT.of g3) _ _ k1) Dv.bool
  · rintro σ H1 ⟨v, c2, rfl, g1, k1⟩
    rw [Nat.sub_self] at k1
    exact ⟨_, rfl, q _ H1 g1 k1⟩
end
end Ver

/-! ## chosen, least, how_many, diagram_of -/
namespace Ver
open PySem L2
abbrev sChosen : Stmt := top 14
abbrev sLeast : Stmt := top 15
abbrev sMany : Stmt := top 16
abbrev sDof : Stmt := top 11
abbrev sDor : Stmt := top 12
theorem DvAll.ints {H : Hp} : ∀ {c : List Int} {xs : List V}, DvAll H xs (c.map PyData.int) → xs = c.map V.int
  | [], _, h => by unfold List.map DvAll at h; exact h
  | i :: c, _, h => by
    rw [List.map_cons] at h
    unfold DvAll at h
    obtain ⟨x, r, rfl, h1, h2⟩ := h
    cases h1.of_int
    rw [DvAll.ints h2]
    rfl
theorem Dv.conf {K : PySem.W.Frag} {H : Hp} {v : V} {c : List Int} (h : Dv H v (confD c)) : ∃ b, v = .ref b ∧ SqT K H b (c.map V.int) := by
  obtain ⟨b, xs, rfl, h1, h2⟩ := Dv.of_tup h
  rw [DvAll.ints h2] at h1
  exact ⟨b, rfl, SqT.of h1⟩
/-- the configurations in which a diagram holds -/
def whereD (n : Nat) (d : Dg) : List (List Int) := (confs n).filter (d.hold 0)
def firstD : List (List Int) → PyData
  | [] => .none
  | c :: _ => confD c
def spChosen : Sp := fun vs H Q _ => ∃ (v : V) (d : Dg) (n : Nat), vs = [v, .int n] ∧ Dv H v d.toD ∧ d.Fit n 0 ∧ n ≤ 5 ∧ ∀ (p : Addr) (xs : List V) (H' : Hp), Same H H' → H' p = some (.lst xs) → DvAll H' xs ((whereD n d).map confD) → Q (.ref p) H'
def spLeast : Sp := fun vs H Q _ => ∃ (v : V) (d : Dg) (n : Nat), vs = [v, .int n] ∧ Dv H v d.toD ∧ d.Fit n 0 ∧ n ≤ 5 ∧ ∀ (v' : V) (H' : Hp), Same H H' → Dv H' v' (firstD (whereD n d)) → Q v' H'
def spMany : Sp := fun vs H Q _ => ∃ (v : V) (d : Dg) (n : Nat), vs = [v, .int n] ∧ Dv H v d.toD ∧ d.Fit n 0 ∧ n ≤ 5 ∧ ∀ (H' : Hp), Same H H' → Q (.int (whereD n d).length) H'
def spDof : Sp := fun vs H Q _ => ∃ (a : Addr) (s : List Str) (v : V) (f : Fm), vs = [.ref a, v] ∧ SwT H a s ∧ Dv H v f.toD ∧ f.Over s ∧ s.length ≤ 5 ∧ f.size ≤ 100000 ∧
  ∀ (v' : V) (H' : Hp), Same H H' → Dv H' v' (Dg.mk s.length ((confs s.length).map fun c => ev s c f) 0).toD → Q v' H'
def spDor : Sp := fun vs H Q _ => ∃ (p : Addr) (n : Nat) (bits : List Bool), vs = [.ref p, .int n] ∧ n ≤ 5 ∧ bits.length = 2 ^ n ∧ H p = some (.lst (bits.map V.bl)) ∧ ∀ (v' : V) (H' : Hp), Same H H' → Dv H' v' (Dg.mk n bits 0).toD → Q v' H'
/-- the k-th part of 2 ^ m truths -/
def blk (m k : Nat) (bits : List Bool) : List Bool := (bits.drop (k * 2 ^ m)).take (2 ^ m)
theorem mk_blk (m j i : Nat) (bits : List Bool) : Dg.mk (m + 1) (blk (m + 1) j bits) i = Dg.fork i (Dg.mk m (blk m (2 * j) bits) (i + 1)) (Dg.mk m (blk m (2 * j + 1) bits) (i + 1)) := by
  have e1 : (blk (m + 1) j bits).take (2 ^ m) = blk m (2 * j) bits := by
    unfold blk
    rw [List.take_take, Nat.pow_succ, Nat.min_eq_left (by omega), show 2 * j * 2 ^ m = j * (2 ^ m * 2) by rw [Nat.mul_comm (2 ^ m) 2, ← Nat.mul_assoc, Nat.mul_comm j 2]]
  have e2 : (blk (m + 1) j bits).drop (2 ^ m) = blk m (2 * j + 1) bits := by
    unfold blk
    rw [List.drop_take, List.drop_drop, Nat.pow_succ, show 2 ^ m * 2 - 2 ^ m = 2 ^ m by omega, show (2 * j + 1) * 2 ^ m = j * (2 ^ m * 2) + 2 ^ m by rw [Nat.add_mul, Nat.one_mul, Nat.mul_comm (2 ^ m) 2, ← Nat.mul_assoc, Nat.mul_comm j 2]]
  show Dg.fork i (Dg.mk m ((blk (m + 1) j bits).take (2 ^ m)) (i + 1)) (Dg.mk m ((blk (m + 1) j bits).drop (2 ^ m)) (i + 1)) = _
  rw [e1, e2]
/-- the row of diagrams when m switches are joined -/
def rowD (n m : Nat) (bits : List Bool) : List Dg := (List.range (2 ^ (n - m))).map fun k => Dg.mk m (blk m k bits) (n - m)
theorem rowD_len (n m : Nat) (bits : List Bool) : (rowD n m bits).length = 2 ^ (n - m) := by unfold rowD; rw [List.length_map, List.length_range]
theorem rowD_get {n m k : Nat} {bits : List Bool} (h : k < 2 ^ (n - m)) : (rowD n m bits)[k]? = some (Dg.mk m (blk m k bits) (n - m)) := by
  unfold rowD
  rw [List.getElem?_map, List.getElem?_range h]
  rfl
theorem rowD_zero (n : Nat) (bits : List Bool) (h : bits.length = 2 ^ n) : rowD n 0 bits = bits.map Dg.leaf := by
  refine List.ext_getElem? fun k => ?_
  by_cases hk : k < 2 ^ n
  · rw [rowD_get (m := 0) hk, List.getElem?_map, List.getElem?_eq_getElem (by omega)]
    show some (Dg.leaf _) = some (Dg.leaf _)
    congr 2
    unfold blk
    rw [Nat.pow_zero, Nat.mul_one, List.drop_eq_getElem_cons (by omega)]
    rfl
  · rw [List.getElem?_eq_none (by rw [rowD_len]; exact Nat.le_of_not_lt hk), List.getElem?_eq_none (by rw [List.length_map]; omega)]
theorem walk_c {lo c : Int} {n : Nat} : Walk (Itc lo c n) n (fun _ => True) (fun i H x H' => H' = H ∧ x = .int (lo + (i : Nat) * c)) := ⟨fun _ _ h _ => h, fun _ _ => Nat.le_refl _, fun _ _ _ _ _ _ y => y⟩
section
variable {P : Program} {w : World} {K : PySem.W.Frag} {mg : Str → Option Value} {base : Heap} {f g : Addr} {fd gd : FuncData}
theorem scChosen : FnScope ["d", "count", "configuration"] ["d", "count"] (defScope sChosen) := ⟨rfl, rfl, rfl, by decide +kernel, rfl, by decide +kernel, by decide +kernel⟩
theorem scLeast : FnScope ["d", "count", "found"] ["d", "count"] (defScope sLeast) := ⟨rfl, rfl, rfl, by decide +kernel, rfl, by decide +kernel, by decide +kernel⟩
theorem scMany : FnScope ["d", "count"] ["d", "count"] (defScope sMany) := ⟨rfl, rfl, rfl, by decide +kernel, rfl, by decide +kernel, by decide +kernel⟩
theorem scDof : FnScope ["switches", "formula", "count", "row", "configuration"] ["switches", "formula"] (defScope sDof) := ⟨rfl, rfl, rfl, by decide +kernel, rfl, by decide +kernel, by decide +kernel⟩
theorem scDor : FnScope ["row", "count", "i", "k"] ["row", "count"] (defScope sDor) := ⟨rfl, rfl, rfl, by decide +kernel, rfl, by decide +kernel, by decide +kernel⟩
theorem ok_chosen {a1 : Addr} {d1 : FuncData} (F : Fun K "chosen" "chosen" sChosen f fd) (GC : FnOk P w K mg base CX0 1 g gd ["count"] spAll) (bC : Binds K gd ["count"] []) (kC : PySem.W.keepIn K (.ref g) = true) (mC : mg "configurations" = some (.ref g))
    (GH : FnOk P w K mg base CX0 1 a1 d1 ["d", "configuration"] (spHolds K)) (bH : Binds K d1 ["d", "configuration"] []) (kH : PySem.W.keepIn K (.ref a1) = true) (mH : mg "holds" = some (.ref a1)) : FnOk P w K mg base CX0 2 f fd ["d", "count"] spChosen := by
  refine F.ok scChosen (fun vs H Q E h => ?_) (fun cdv A outer s H vs Q E hr h => ?_)
  · obtain ⟨v, d, n, rfl, _⟩ := h
    rfl
  obtain ⟨v, d, n, rfl, hv, hf, hn, q⟩ := h
  refine ⟨_, pss_one (ps_ret (pe_lc (own := [("configuration", 2)]) (g := gName 2) (by rfl) scChosen.nd (pi_list (pe_call GC hr rfl mC kC bC .nil pass0 (pa_cons (pv 1) pa_nil)))
      (blkOk_by (own := [("configuration", 2)]) (N := ["d", "count", "configuration"]) (sc := defScope sChosen) (by decide +kernel)) (fun _ _ _ _ _ => pg_name (i := 2) scChosen.nd rfl (Or.inl rfl))
      (fun _ _ _ _ _ => pts_one (pt_val (pe_call GH hr rfl mH kH bH .nil pass0 (pa_cons (pv 0) (pa_cons (pv 2) pa_nil))))) (fun _ _ _ _ _ => pv 2))), ?_⟩
  refine ⟨_, rfl, n, rfl, hn, fun p xs H1 np g1 e1 d1 => ⟨p, rfl, ⟨_, SqL.of e1⟩, fun D hD => ?_⟩⟩
  have g2 := same_new hD (.lst [])
  have lx : xs.length = 2 ^ n := by rw [d1.length, List.length_map, confs_len]
  have p32 := pow32 hn
  refine lc_list (xs := xs) (fun i H' => ∃ ys : List V, Same H H' ∧ Same H1 H' ∧ H' D = some (.lst ys) ∧ DvAll H' ys ((((confs n).take i).filter (d.hold 0)).map confD)) ?_ ?_ ?_ ?_
  · exact ⟨[], g1.trans g2, g2, upd_same, DvAll.nil⟩
  · rintro i H' _ ⟨ys, _, k2, _, _⟩
    exact SqL.of (k2 _ _ e1)
  · rintro i x H2 hx ⟨ys, k1, k2, k3, k4⟩
    have hi : i < (confs n).length := by
      have := (List.getElem?_eq_some_iff.mp hx).1
      rw [confs_len]
      omega
    have er : (confs n)[i]? = some (confs n)[i] := List.getElem?_eq_getElem hi
    generalize (confs n)[i] = r at er
    have hr5 := confs_row n r (List.mem_of_getElem? er)
    obtain ⟨x', ex, dx⟩ := DvAll.get d1 (show ((confs n).map confD)[i]? = some (confD r) by rw [List.getElem?_map, er]; rfl)
    rw [hx] at ex
    cases ex
    obtain ⟨b, rfl, hb⟩ := Dv.conf (K := K) (Dv.keep (KeepT.of k2) _ _ dx)
    have ly := k4.length
    rw [List.length_map] at ly
    have l2 : (((confs n).take i).filter (d.hold 0)).length ≤ 32 := by
      refine Nat.le_trans (List.length_filter_le _ _) ?_
      rw [List.length_take, confs_len]
      exact Nat.le_trans (Nat.min_le_right _ _) p32
    have et : ((confs n).take (i + 1)).filter (d.hold 0) = ((confs n).take i).filter (d.hold 0) ++ (if d.hold 0 r then [r] else []) := by
      rw [List.take_succ, er, List.filter_append]
      congr 1
      show List.filter _ [r] = _
      rw [List.filter_cons]
      rfl
    rw [et]
    refine ⟨rfl, _, rfl, _, rfl, v, d, b, r, rfl, Dv.keep (KeepT.of k1) _ _ hv, hb, by rw [hr5.1]; exact hf, _, rfl, ite2 (fun z => ?_) (fun z => ?_)⟩
    · rw [if_pos z]
      refine ⟨_, rfl, ys, k3, Nat.lt_of_le_of_lt (show ys.length ≤ 32 by omega) (by decide), ys ++ [.ref b], same_put k1 (g1.free hD), same_put k2 hD, upd_same, ?_⟩
      have kt : KeepT H2 (upd H2 D (.lst (ys ++ [.ref b]))) := fun a us h => by
        rw [upd_ne (fun z => by rw [z, k3] at h; cases h)]
        exact h
      rw [List.map_append]
      exact DvAll.append (DvAll.keep kt _ _ k4) (DvAll.cons (Dv.keep kt _ _ (Dv.keep (KeepT.of k2) _ _ dx)) DvAll.nil)
    · rw [if_neg z, List.append_nil]
      exact ⟨ys, k1, k2, k3, k4⟩
  · rintro H2 ⟨ys, k1, k2, k3, k4⟩
    rw [lx, ← confs_len n, List.take_length] at k4
    exact q D ys H2 k1 k3 k4
theorem ok_least (F : Fun K "least" "least" sLeast f fd) (GC : FnOk P w K mg base CX0 2 g gd ["d", "count"] spChosen) (bC : Binds K gd ["d", "count"] []) (kC : PySem.W.keepIn K (.ref g) = true) (mC : mg "chosen" = some (.ref g)) : FnOk P w K mg base CX0 3 f fd ["d", "count"] spLeast := by
  refine F.ok scLeast (fun vs H Q E h => ?_) (fun cdv A outer s H vs Q E hr h => ?_)
  · obtain ⟨v, d, n, rfl, _⟩ := h
    rfl
  obtain ⟨v, d, n, rfl, hv, hf, hn, q⟩ := h
  refine ⟨_, pss_cons (ps_set (i := 2) scLeast.nd rfl (.inl rfl) (pe_call GC hr rfl mC kC bC .nil pass0 (pa_cons (pv 0) (pa_cons (pv 1) pa_nil))))
    (pss_one (ps_ret (pe_ifExp (pt_truth (pv 2) (by intro _; rfl)) (pe_ix ix_list (pv 2) pe_int (fun _ _ => rfl)) pe_non))), ?_⟩
  refine ⟨_, rfl, _, rfl, v, d, n, rfl, hv, hf, hn, fun p xs H1 g1 e1 d1 => ?_⟩
  refine ⟨_, rfl, _, .inl ⟨xs, SqL.of e1, rfl⟩, ?_⟩
  generalize whereD n d = l at d1 q
  cases l with
  | nil =>
    unfold List.map DvAll at d1
    subst d1
    exact iteF (q _ H1 g1 Dv.non)
  | cons c r =>
    rw [List.map_cons] at d1
    unfold DvAll at d1
    obtain ⟨x, ys, rfl, k1, _⟩ := d1
    exact iteT ⟨_, rfl, p, _, _, x, rfl, rfl, SqL.of e1, at_of (j := 0) rfl rfl, q _ H1 g1 k1⟩
theorem ok_many (F : Fun K "how_many" "how_many" sMany f fd) (GC : FnOk P w K mg base CX0 2 g gd ["d", "count"] spChosen) (bC : Binds K gd ["d", "count"] []) (kC : PySem.W.keepIn K (.ref g) = true) (mC : mg "chosen" = some (.ref g)) (ml : mg "len" = none) : FnOk P w K mg base CX0 3 f fd ["d", "count"] spMany := by
  refine F.ok scMany (fun vs H Q E h => ?_) (fun cdv A outer s H vs Q E hr h => ?_)
  · obtain ⟨v, d, n, rfl, _⟩ := h
    rfl
  obtain ⟨v, d, n, rfl, hv, hf, hn, q⟩ := h
  refine ⟨_, pss_one (ps_ret (pe_callB call_len_seq (by rfl) ml PySem.boot_len (pa_cons (pe_call GC hr rfl mC kC bC .nil pass0 (pa_cons (pv 0) (pa_cons (pv 1) pa_nil))) pa_nil))), ?_⟩
  refine ⟨_, rfl, _, rfl, v, d, n, rfl, hv, hf, hn, fun p xs H1 g1 e1 d1 => ?_⟩
  have lx := d1.length
  rw [List.length_map] at lx
  rw [← lx] at q
  exact ⟨p, xs, rfl, .inl (SqL.of e1), q H1 g1⟩
theorem ok_dor {a2 : Addr} {d2 : FuncData} (F : Fun K "diagram_of_row" "diagram_of_row" sDor f fd)
    (GF : FnOk P w K mg base CX0 1 a2 d2 ["i", "low", "high"] spFork) (bF : Binds K d2 ["i", "low", "high"] []) (kF : PySem.W.keepIn K (.ref a2) = true) (mF : mg "_fork" = some (.ref a2))
    (mv : mg "reversed" = none) (mr : mg "range" = none) (ml : mg "len" = none) : FnOk P w K mg base CX0 2 f fd ["row", "count"] spDor := by
  refine F.ok scDor (fun vs H Q E h => ?_) (fun cdv A outer s H vs Q E hr h => ?_)
  · obtain ⟨a, n, b, rfl, _⟩ := h
    rfl
  obtain ⟨D, n, bits, rfl, hl, lb, k3, q⟩ := h
  have p32 := pow32 hl
  refine ⟨_, pss_cons (ps_for PassesOwn.never rfl (pi_revR (by rfl) mv (prg_1 (by rfl) mr (pv 1))) (pg_name (i := 2) scDor.nd rfl (.inr rfl))
      (pss_one (ps_set (i := 0) scDor.nd rfl (.inr rfl) (pe_lc (own := [("k", 3)]) (g := gName 3) (by rfl) scDor.nd (pi_range3 (by rfl) mr (pa_cons pe_int (pa_cons (pe_callB call_len_seq (by rfl) ml PySem.boot_len (pa_cons (pv 0) pa_nil)) (pa_cons pe_int pa_nil))))
        (blkOk_by (own := [("k", 3)]) (N := ["row", "count", "i", "k"]) (sc := defScope sDor) (by decide +kernel)) (fun _ _ _ _ _ => pg_name (i := 3) scDor.nd rfl (Or.inl rfl)) (fun _ _ _ _ _ => pts_nil)
        (fun _ _ _ _ _ => pe_call GF hr rfl mF kF bF .nil pass0 (pa_cons (pv 2) (pa_cons (pe_ix (r := rIxL K) ix_list (pv 0) (pv 3) (fun _ _ => rfl)) (pa_cons (pe_ix (r := rIxL K) ix_list (pv 0) (pe_op op_add (pv 3) pe_int) (fun _ _ => rfl)) pa_nil))))))))
    (pss_one (ps_ret (pe_ix ix_list (pv 0) pe_int (fun _ _ => rfl)))), ?_⟩
  refine ⟨_, rfl, n, rfl, by decide, by decide, by omega, by omega, ?_⟩
  have en : (((n : Int) - 0).toNat) = n := by omega
  rw [en]
  refine for_rangeC (n := n) (fun m σ H' => ∃ (p : Addr) (ys : List V) (c4 : Option V), σ = [some (.ref p), some (.int n), c4, none] ∧ Same H H' ∧ H' p = some (.lst ys) ∧ DvAll H' ys ((rowD n m bits).map Dg.toD)) ?_ ?_ ?_
  · refine ⟨D, _, none, rfl, Same.refl H, k3, ?_⟩
    rw [rowD_zero n bits lb]
    generalize bits = l
    induction l with
    | nil => exact DvAll.nil
    | cons b r ih => exact DvAll.cons Dv.bool ih
  · rintro m σ H3 hm ⟨p, ys, c4, rfl, g3, e3, d3⟩
    have ly := d3.length
    rw [List.length_map, rowD_len] at ly
    have e1' : (0 : Int) + (n : Int) - 1 + (m : Int) * -1 = ((n - (m + 1) : Nat) : Int) := by omega
    rw [e1']
    have e2' : n - m = (n - (m + 1)) + 1 := by omega
    have p2 : 2 ^ (n - m) = 2 * 2 ^ (n - (m + 1)) := by rw [e2', Nat.pow_succ]; omega
    have hk32 : 2 ^ (n - m) ≤ 32 := pow32 (by omega)
    have hrg : RgC 0 ((ys.length : Nat) : Int) 2 (2 ^ (n - (m + 1))) := by
      rw [ly, p2]
      have : n - (m + 1) = 0 ∨ n - (m + 1) = 1 ∨ n - (m + 1) = 2 ∨ n - (m + 1) = 3 ∨ n - (m + 1) = 4 := by omega
      rcases this with e | e | e | e | e <;> rw [e] <;> exact ⟨by decide, by decide, by decide, by decide⟩
    refine ⟨_, rfl, p, ys, rfl, .inl (SqL.of e3), _, _, _, _, rfl, hrg, fun D2 hD2 => ?_⟩
    have g4 := same_new hD2 (.lst [])
    refine lc_it walk_c (fun i H' => ∃ zs : List V, Same H H' ∧ Same H3 H' ∧ H' D2 = some (.lst zs) ∧ DvAll H' zs (((rowD n (m + 1) bits).take i).map Dg.toD)) ?_ ?_ ?_ ?_
    · exact ⟨[], g3.trans g4, g4, upd_same, DvAll.nil⟩
    · intro _ _ _ _
      trivial
    · rintro i x H4 H4' hi ⟨zs, r1, r2, r3, r4⟩ ⟨rfl, rfl⟩
      have ei : (0 : Int) + (i : Nat) * 2 = ((2 * i : Nat) : Int) := by omega
      rw [ei]
      obtain ⟨x1, b1, b2⟩ := DvAll.get d3 (show ((rowD n m bits).map Dg.toD)[2 * i]? = some (Dg.mk m (blk m (2 * i) bits) (n - m)).toD by rw [List.getElem?_map, rowD_get (by omega)]; rfl)
      obtain ⟨x2, b3, b4⟩ := DvAll.get d3 (show ((rowD n m bits).map Dg.toD)[2 * i + 1]? = some (Dg.mk m (blk m (2 * i + 1) bits) (n - m)).toD by rw [List.getElem?_map, rowD_get (by omega)]; rfl)
      have t1 := Dg.mk_ht m (blk m (2 * i) bits) (n - m)
      have t2 := Dg.mk_ht m (blk m (2 * i + 1) bits) (n - m)
      refine ⟨rfl, _, rfl, _, rfl, _, rfl, p, _, _, x1, rfl, rfl, SqL.of (r2 _ _ e3), at_of rfl b1, _, rfl, _, rfl, _, _, rfl, rfl, p, _, _, x2, rfl, rfl, SqL.of (r2 _ _ e3), at_of (by omega) b3, ?_⟩
      refine ⟨n - (m + 1), x1, x2, _, _, rfl, Dv.keep (KeepT.of r2) _ _ b2, Dv.keep (KeepT.of r2) _ _ b4, by omega, by omega, fun v' H5 g5 h5 => ?_⟩
      have lz := r4.length
      rw [List.length_map, List.length_take, rowD_len] at lz
      refine ⟨zs, g5 _ _ r3, Nat.lt_of_le_of_lt (show zs.length ≤ 32 by have := Nat.min_le_right i (2 ^ (n - (m + 1))); omega) (by decide), zs ++ [v'], same_put (r1.trans g5) (g3.free hD2), same_put (r2.trans g5) hD2, upd_same, ?_⟩
      have kt : KeepT H5 (upd H5 D2 (.lst (zs ++ [v']))) := fun a us h => by
        rw [upd_ne (fun z => by rw [z, g5 _ _ r3] at h; cases h)]
        exact h
      rw [List.take_succ, rowD_get hi, List.map_append]
      refine DvAll.append (DvAll.keep kt _ _ (DvAll.keep (KeepT.of g5) _ _ r4)) (DvAll.cons (Dv.keep kt _ _ ?_) DvAll.nil)
      rw [mk_blk, ← e2']
      exact h5
    · rintro H4 ⟨zs, r1, r2, r3, r4⟩
      rw [← rowD_len n (m + 1) bits, List.take_length] at r4
      exact ⟨D2, zs, _, rfl, r1, r3, r4⟩
  · rintro σ H3 ⟨p, ys, c4, rfl, g3, e3, d3⟩
    have e0 : rowD n n bits = [Dg.mk n bits 0] := by
      unfold rowD
      rw [Nat.sub_self]
      show [Dg.mk n (blk n 0 bits) 0] = _
      unfold blk
      rw [Nat.zero_mul, List.drop_zero, ← lb, List.take_length]
    rw [e0] at d3
    show ∃ _, _
    unfold List.map List.map DvAll DvAll at d3
    obtain ⟨x, r, rfl, k4, rfl⟩ := d3
    exact ⟨_, rfl, p, _, _, x, rfl, rfl, SqL.of e3, at_of (j := 0) rfl rfl, q x H3 g3 k4⟩
theorem ok_dof {a1 a2 : Addr} {d1 d2 : FuncData} (F : Fun K "diagram_of" "diagram_of" sDof f fd) (GC : FnOk P w K mg base CX0 1 g gd ["count"] spAll) (bC : Binds K gd ["count"] []) (kC : PySem.W.keepIn K (.ref g) = true) (mC : mg "configurations" = some (.ref g))
    (GI : FnOk P w K mg base CX0 2 a1 d1 ["switches", "formula", "configuration"] (spIst K)) (bI : Binds K d1 ["switches", "formula", "configuration"] []) (kI : PySem.W.keepIn K (.ref a1) = true) (mI : mg "is_true" = some (.ref a1))
    (GD : FnOk P w K mg base CX0 2 a2 d2 ["row", "count"] spDor) (bD : Binds K d2 ["row", "count"] []) (kD : PySem.W.keepIn K (.ref a2) = true) (mD : mg "diagram_of_row" = some (.ref a2))
    (ml : mg "len" = none) : FnOk P w K mg base CX0 3 f fd ["switches", "formula"] spDof := by
  refine F.ok scDof (fun vs H Q E h => ?_) (fun cdv A outer s H vs Q E hr h => ?_)
  · obtain ⟨a, s, v, f, rfl, _⟩ := h
    rfl
  obtain ⟨a, sw, v, fm, rfl, hs, hv, ho, hl, hz, q⟩ := h
  have hr1 := hr.mono (show 1 ≤ 2 by decide)
  refine ⟨_, pss_cons (ps_set (i := 2) scDof.nd rfl (.inl rfl) (pe_callB call_len_seq (by rfl) ml PySem.boot_len (pa_cons (pv 0) pa_nil)))
    (pss_cons (ps_setLc (i := 3) (own := [("configuration", 4)]) (g := gName 4) (by rfl) scDof.nd rfl rfl (sw_true rfl rfl rfl (by decide +kernel)) (pi_list (pe_call GC hr1 rfl mC kC bC .nil pass0 (pa_cons (pv 2) pa_nil)))
      (blkOk_by (own := [("configuration", 4)]) (N := ["switches", "formula", "count", "row", "configuration"]) (sc := defScope sDof) (by decide +kernel)) (fun _ _ _ _ _ => pg_name (i := 4) scDof.nd rfl (Or.inl rfl)) (fun _ _ _ _ _ => pts_nil)
      (fun _ _ _ _ _ => pe_call GI hr rfl mI kI bI .nil pass0 (pa_cons (pv 0) (pa_cons (pv 1) (pa_cons (pv 4) pa_nil)))))
    (pss_one (ps_ret (pe_call GD hr rfl mD kD bD .nil pass0 (pa_cons (pv 3) (pa_cons (pv 2) pa_nil)))))), ?_⟩
  refine ⟨_, rfl, a, _, rfl, .inr hs.sq, ?_⟩
  rw [List.length_map]
  generalize hn : sw.length = n at hl q
  have p32 := pow32 hl
  refine ⟨_, rfl, n, rfl, hl, fun p xs H1 np g1 e1 d1 => ⟨p, rfl, ⟨_, SqL.of e1⟩, fun D hD => ?_⟩⟩
  have g2 := same_new hD (.lst [])
  have lx : xs.length = 2 ^ n := by rw [d1.length, List.length_map, confs_len]
  refine lc_list (xs := xs) (fun i H' => Same H H' ∧ Same H1 H' ∧ H' D = some (.lst ((((confs n).take i).map fun c => ev sw c fm).map V.bl))) ?_ ?_ ?_ ?_
  · exact ⟨g1.trans g2, g2, upd_same⟩
  · rintro i H' _ ⟨_, k2, _⟩
    exact SqL.of (k2 _ _ e1)
  · rintro i x H2 hx ⟨k1, k2, k3⟩
    have hi : i < (confs n).length := by
      have := (List.getElem?_eq_some_iff.mp hx).1
      rw [confs_len]
      omega
    have er : (confs n)[i]? = some (confs n)[i] := List.getElem?_eq_getElem hi
    generalize (confs n)[i] = r at er
    have hr5 := confs_row n r (List.mem_of_getElem? er)
    obtain ⟨x', ex, dx⟩ := DvAll.get d1 (show ((confs n).map confD)[i]? = some (confD r) by rw [List.getElem?_map, er]; rfl)
    rw [hx] at ex
    cases ex
    obtain ⟨b, rfl, hb⟩ := Dv.conf (K := K) (Dv.keep (KeepT.of k2) _ _ dx)
    refine ⟨rfl, _, rfl, _, rfl, _, rfl, a, sw, v, fm, b, r, rfl, ⟨hs.same k1, Dv.keep (KeepT.of k1) _ _ hv, ho, hb, by rw [hr5.1, hn]⟩, hz, fun H3 g3 => ?_⟩
    refine ⟨_, g3 _ _ k3, ?_, same_put (k1.trans g3) (g1.free hD), same_put (k2.trans g3) hD, ?_⟩
    · rw [List.length_map, List.length_map, List.length_take, confs_len]
      exact Nat.lt_of_le_of_lt (Nat.le_trans (Nat.min_le_right _ _) p32) (by decide)
    · rw [upd_same, List.take_succ, er, List.map_append, List.map_append]
      rfl
  rintro H2 ⟨k1, k2, k3⟩
  rw [lx, ← confs_len n, List.take_length] at k3
  generalize hb : ((confs n).map fun c => ev sw c fm) = bits at k3 q
  have lb : bits.length = 2 ^ n := by rw [← hb, List.length_map, confs_len]
  exact ⟨_, rfl, _, rfl, D, n, bits, rfl, hl, lb, k3, fun v' H' g h => q v' H' (k1.trans g) h⟩
end
end Ver

/-! ## is_diagram -/
namespace Ver
open PySem L2
abbrev sFrom : Stmt := top 19
abbrev sIsDg : Stmt := top 18
def spFrom (n : Nat) : Sp := fun vs H Q _ => ∃ (v : V) (d : PyData) (l c : Int), vs = [v, .int l, .int c] ∧ Dv H v d ∧ 0 ≤ l ∧ l ≤ c ∧ c < n + l ∧ Q (.bl (isDg n d l c)) H
def spIsDg (n : Nat) : Sp := fun vs H Q _ => ∃ (v : V) (d : PyData) (c : Int), vs = [v, .int c] ∧ Dv H v d ∧ 0 ≤ c ∧ c < n ∧ Q (.bl (isDg n d 0 c)) H
section
variable {P : Program} {w : World} {K : PySem.W.Frag} {mg : Str → Option Value} {base : Heap} {f g : Addr} {fd gd : FuncData}
theorem scFrom : FnScope ["value", "least_index", "count", "i", "low", "high"] ["value", "least_index", "count"] (defScope sFrom) := ⟨rfl, rfl, rfl, by decide +kernel, rfl, by decide +kernel, by decide +kernel⟩
theorem scIsDg : FnScope ["value", "count"] ["value", "count"] (defScope sIsDg) := ⟨rfl, rfl, rfl, by decide +kernel, rfl, by decide +kernel, by decide +kernel⟩
theorem ok_from1 {n : Nat} (hn : n ≤ 30) (F : Fun K "_is_diagram_from" "_is_diagram_from" sFrom f fd) (G : FnOk P w K mg base CX0 n f fd ["value", "least_index", "count"] (spFrom n)) (bG : Binds K fd ["value", "least_index", "count"] []) (kG : PySem.W.keepIn K (.ref f) = true)
    (mG : mg "_is_diagram_from" = some (.ref f)) (mi : mg "isinstance" = none) (mb : mg "bool" = none) (mt : mg "tuple" = none) (mn : mg "int" = none) (ml : mg "len" = none) : FnOk P w K mg base CX0 (n + 1) f fd ["value", "least_index", "count"] (spFrom (n + 1)) := by
  refine F.ok scFrom (fun vs H Q E h => ?_) (fun cdv A outer s H vs Q E hr h => ?_)
  · obtain ⟨v, d, l, c, rfl, _⟩ := h
    rfl
  obtain ⟨v, d, l, c, rfl, hv, h0, h1, h2, q⟩ := h
  refine ⟨_, pss_cons (ps_if (pt_val (pe_callB call_isi (by rfl) mi (by decide +kernel) (pa_cons (pv 0) (pa_cons (pe_bltn (v := .ty "bool") (by rfl) mb (by decide +kernel) rfl) pa_nil)))) (pss_one (ps_ret pe_bl)) pss_nil)
    (pss_cons (ps_if (PW.pt (pw_or (pt_not (pt_val (pe_callB call_isi (by rfl) mi (by decide +kernel) (pa_cons (pv 0) (pa_cons (pe_bltn (v := .ty "tuple") (by rfl) mt (by decide +kernel) rfl) pa_nil)))))
        (pw_or1 (pt_cmpR op_ne (pe_callB call_len_seq (by rfl) ml PySem.boot_len (pa_cons (pv 0) pa_nil)) pe_int (nomark _))))) (pss_one (ps_ret pe_bl)) pss_nil)
    (pss_cons (ps_asg (pv 0) (pg_tup rfl (pgs_cons (pg_name (i := 3) scFrom.nd rfl (.inl rfl)) (pgs_cons (pg_name (i := 4) scFrom.nd rfl (.inl rfl)) (pgs_cons (pg_name (i := 5) scFrom.nd rfl (.inl rfl)) pgs_nil)))))
    (pss_cons (ps_if (PW.pt (pw_or (pt_not (pt_val (pe_callB call_isi (by rfl) mi (by decide +kernel) (pa_cons (pv 3) (pa_cons (pe_bltn (v := .ty "int") (by rfl) mn (by decide +kernel) rfl) pa_nil)))))
        (pw_or (pt_val (pe_callB call_isi (by rfl) mi (by decide +kernel) (pa_cons (pv 3) (pa_cons (pe_bltn (v := .ty "bool") (by rfl) mb (by decide +kernel) rfl) pa_nil))))
        (pw_or1 (pt_not (pt_chain op_le op_lt (pv 1) (pv 3) (pv 2))))))) (pss_one (ps_ret pe_bl)) pss_nil)
    (pss_cons (ps_if (PW.pt (pw_or (pt_not (pt_val (pe_call G hr rfl mG kG bG .nil pass0 (pa_cons (pv 4) (pa_cons (pe_op op_add (pv 3) pe_int) (pa_cons (pv 2) pa_nil))))))
        (pw_or1 (pt_not (pt_val (pe_call G hr rfl mG kG bG .nil pass0 (pa_cons (pv 5) (pa_cons (pe_op op_add (pv 3) pe_int) (pa_cons (pv 2) pa_nil))))))))) (pss_one (ps_ret pe_bl)) pss_nil)
    (pss_one (ps_ret (pe_cmpR (op_neD hr.units) (pv 4) (pv 5) (nomark _)))))))), ?_⟩
  refine ⟨_, rfl, _, _, _, _, _, rfl, .ty _, hv.ty, kit_bool d, _, rfl, ?_⟩
  match d, hv, q with
  | .bool b, hv, q => exact iteT q
  | .none, hv, q => exact iteF ⟨_, rfl, _, _, _, _, _, rfl, .ty _, hv.ty, kit_tup _, _, rfl, iteT (iteT q)⟩
  | .int _, hv, q => exact iteF ⟨_, rfl, _, _, _, _, _, rfl, .ty _, hv.ty, kit_tup _, _, rfl, iteT (iteT q)⟩
  | .str _, hv, q => exact iteF ⟨_, rfl, _, _, _, _, _, rfl, .ty _, hv.ty, kit_tup _, _, rfl, iteT (iteT q)⟩
  | .list _, hv, q => unfold Dv at hv; exact hv.elim
  | .dict _, hv, q => unfold Dv at hv; exact hv.elim
  | .tuple ds, hv, q =>
    obtain ⟨a, xs, rfl, e1, e2⟩ := hv.of_tup
    have el := e2.length
    refine iteF ⟨_, rfl, _, _, _, _, _, rfl, .ty _, hv.ty, kit_tup _, _, rfl, iteF ⟨_, rfl, a, xs, rfl, .inr (SqT.of e1), rfl, _, rfl, ?_⟩⟩
    refine ite2 (fun c0 => ?_) (fun c0 => ?_)
    · have e3 : ds.length ≠ 3 := fun e => by
        rw [el, e] at c0
        exact absurd c0 (by decide)
      rw [isDg_len e3] at q
      exact q
    have e3 : ds.length = 3 := by
      rw [el] at c0
      by_cases e : ds.length = 3
      · exact e
      · exfalso
        apply c0
        simp
        omega
    obtain ⟨i, lo, hi, rfl⟩ : ∃ i lo hi, ds = [i, lo, hi] := by
      match ds, e3 with
      | [i, lo, hi], _ => exact ⟨i, lo, hi, rfl⟩
    unfold DvAll DvAll DvAll DvAll at e2
    obtain ⟨vi, _, rfl, hi', vlo, _, rfl, hlo, vhi, _, rfl, hhi, rfl⟩ := e2
    refine ⟨_, rfl, a, _, rfl, SqT.of e1, rfl, _, _, rfl, _, _, rfl, _, _, rfl, rfl, ?_⟩
    refine ⟨_, rfl, _, _, _, _, _, rfl, .ty _, hi'.ty, kit_int _, _, rfl, ?_⟩
    refine ite2 (fun a1 => ?_) (fun a1 => ?_)
    · rw [isDg_head (not_int_of (b_of' a1))] at q
      exact iteT q
    refine ⟨_, rfl, _, _, _, _, _, rfl, .ty _, hi'.ty, kit_bool _, _, rfl, ?_⟩
    refine ite2 (fun a2 => ?_) (fun a2 => ?_)
    · rw [isDg_head (not_int_of' a2)] at q
      exact iteT q
    obtain ⟨i, rfl⟩ := isInt_cases (b_of a1) (Bool.eq_false_iff.mpr a2)
    cases hi'.of_int
    have eq : isDg (n + 1) (.tuple [.int i, lo, hi]) l c = (decide (l ≤ i) && decide (i < c) && isDg n lo (i + 1) c && isDg n hi (i + 1) c && !PyData.eqv lo hi) := rfl
    rw [eq] at q
    refine ⟨_, rfl, _, rfl, _, _, rfl, rfl, _, rfl, ite2 (fun c1 => ?_) (fun c1 => ?_)⟩
    · have c1' : l ≤ i := of_decide_eq_true c1
      refine ⟨_, rfl, _, _, rfl, rfl, _, rfl, ite2 (fun c2 => ?_) (fun c2 => ?_)⟩
      · have c2' : ¬ i < c := fun z => by
          rw [decide_eq_true z] at c2
          cases c2
        rw [decide_eq_false c2', Bool.and_false] at q
        exact q
      · have c2' : i < c := by
          by_cases z : i < c
          · exact z
          · rw [decide_eq_false z] at c2
            exact absurd rfl c2
        rw [c1, decide_eq_true c2'] at q
        refine ⟨_, rfl, _, rfl, _, _, rfl, rfl, _, rfl, vlo, lo, i + 1, c, rfl, hlo, by omega, by omega, by omega, _, rfl, ite2 (fun c3 => ?_) (fun c3 => ?_)⟩
        · have c3' : isDg n lo (i + 1) c = false := by
            cases z : isDg n lo (i + 1) c with
            | true => rw [z] at c3; cases c3
            | false => rfl
          rw [c3'] at q
          exact iteT q
        · have c3' : isDg n lo (i + 1) c = true := by
            cases z : isDg n lo (i + 1) c with
            | true => rfl
            | false => rw [z] at c3; exact absurd rfl c3
          refine ⟨_, rfl, _, rfl, _, _, rfl, rfl, _, rfl, vhi, hi, i + 1, c, rfl, hhi, by omega, by omega, by omega, _, rfl, ite2 (fun c4 => ?_) (fun c4 => ?_)⟩
          · have c4' : isDg n hi (i + 1) c = false := by
              cases z : isDg n hi (i + 1) c with
              | true => rw [z] at c4; cases c4
              | false => rfl
            rw [c3', c4'] at q
            exact q
          · have c4' : isDg n hi (i + 1) c = true := by
              cases z : isDg n hi (i + 1) c with
              | true => rfl
              | false => rw [z] at c4; exact absurd rfl c4
            obtain ⟨g1, rfl, k1⟩ := isDg_dg n c3' (by omega)
            obtain ⟨g2, rfl, k2⟩ := isDg_dg n c4' (by omega)
            rw [c3', c4'] at q
            exact ⟨_, rfl, _, rfl, _, _, hlo.dp, hhi.dp, Dg.shaped (by omega), Dg.shaped (by omega), q⟩
    · have c1' : decide (l ≤ i) = false := Bool.eq_false_iff.mpr c1
      rw [c1'] at q
      exact ⟨false, rfl, iteT q⟩
theorem ok_from0 : FnOk P w K mg base CX0 0 f fd ["value", "least_index", "count"] (spFrom 0) := by
  have no : ∀ vs H Q E, ¬ spFrom 0 vs H Q E := fun vs H Q E h => by
    obtain ⟨v, d, l, c, _, _, _, _, h, _⟩ := h
    omega
  exact ⟨fun vs H Q E h => absurd h (no vs H Q E), fun A outer s H args us vs Q E _ _ _ _ h => absurd h (no vs H Q E)⟩
theorem ok_from (F : Fun K "_is_diagram_from" "_is_diagram_from" sFrom f fd) (bG : Binds K fd ["value", "least_index", "count"] []) (mG : mg "_is_diagram_from" = some (.ref f)) (mi : mg "isinstance" = none) (mb : mg "bool" = none) (mt : mg "tuple" = none) (mn : mg "int" = none) (ml : mg "len" = none) :
    ∀ n, n ≤ 30 → FnOk P w K mg base CX0 n f fd ["value", "least_index", "count"] (spFrom n)
  | 0, _ => ok_from0
  | n + 1, h => ok_from1 (by omega) F (ok_from F bG mG mi mb mt mn ml n (by omega)) bG F.kp mG mi mb mt mn ml
theorem ok_isdg {n : Nat} (F : Fun K "is_diagram" "is_diagram" sIsDg f fd) (G : FnOk P w K mg base CX0 n g gd ["value", "least_index", "count"] (spFrom n)) (bG : Binds K gd ["value", "least_index", "count"] []) (kG : PySem.W.keepIn K (.ref g) = true)
    (mG : mg "_is_diagram_from" = some (.ref g)) : FnOk P w K mg base CX0 (n + 1) f fd ["value", "count"] (spIsDg n) := by
  refine F.ok scIsDg (fun vs H Q E h => ?_) (fun cdv A outer s H vs Q E hr h => ?_)
  · obtain ⟨v, d, c, rfl, _⟩ := h
    rfl
  obtain ⟨v, d, c, rfl, hv, h0, h1, q⟩ := h
  refine ⟨_, pss_one (ps_ret (pe_call G hr rfl mG kG bG .nil pass0 (pa_cons (pv 0) (pa_cons pe_int (pa_cons (pv 1) pa_nil))))), ?_⟩
  exact ⟨_, rfl, _, rfl, v, d, 0, c, rfl, hv, by omega, h0, by omega, q⟩
end
end Ver

/-! ## The law's own diagram of a list of truths -/
namespace Ver
open PySem L2
abbrev sLDg : Stmt := top 32
def spLDg (n : Nat) : Sp := fun vs H Q _ => ∃ (a : Addr) (k : Nat) (bits : List Bool) (i : Nat), vs = [.ref a, .int i] ∧ H a = some (.lst (bits.map V.bl)) ∧ bits.length = 2 ^ k ∧ k < n ∧
  ∀ v H', Same H H' → Dv H' v (Dg.mk k bits i).toD → Q v H'
theorem cutV_lo {xs : List V} {k : Nat} (h : k ≤ xs.length) : cutV xs none (some (k : Int)) = xs.take k := by
  show (xs.drop 0).take (HT.sIx xs.length xs.length (some (k : Int)) - 0) = xs.take k
  rw [HT.sIx_nat, List.drop_zero, Nat.min_eq_left h]
  rfl
theorem cutV_hi {xs : List V} {k : Nat} (h : k ≤ xs.length) : cutV xs (some (k : Int)) none = xs.drop k := by
  show (xs.drop (HT.sIx xs.length 0 (some (k : Int)))).take (xs.length - HT.sIx xs.length 0 (some (k : Int))) = xs.drop k
  rw [HT.sIx_nat, Nat.min_eq_left h, List.take_of_length_le (by rw [List.length_drop]; exact Nat.le_refl _)]
section
variable {P : Program} {w : World} {K : PySem.W.Frag} {mg : Str → Option Value} {base : Heap} {f g : Addr} {fd gd : FuncData}
theorem scLDg : FnScope ["bits", "i", "half", "low", "high"] ["bits", "i"] (defScope sLDg) := ⟨rfl, rfl, rfl, by decide +kernel, rfl, by decide +kernel, by decide +kernel⟩
theorem ok_ldg1 {n : Nat} (hn : n ≤ 20) (F : Fun K "_law_diagram" "_law_diagram" sLDg f fd) (G : FnOk P w K mg base CX0 n f fd ["bits", "i"] (spLDg n)) (bG : Binds K fd ["bits", "i"] []) (kG : PySem.W.keepIn K (.ref f) = true)
    (mG : mg "_law_diagram" = some (.ref f)) (mi : mg "isinstance" = none) (mt : mg "tuple" = none) (ml : mg "len" = none) : FnOk P w K mg base CX0 (n + 1) f fd ["bits", "i"] (spLDg (n + 1)) := by
  refine F.ok scLDg (fun vs H Q E h => ?_) (fun cdv A outer s H vs Q E hr h => ?_)
  · obtain ⟨a, k, bits, i, rfl, _⟩ := h
    rfl
  obtain ⟨a, k, bits, i, rfl, hb, hl, hk, q⟩ := h
  refine ⟨_, pss_cons (ps_if (pt_cmpR op_eq (pe_callB call_len_seq (by rfl) ml PySem.boot_len (pa_cons (pv 0) pa_nil)) pe_int (nomark _)) (pss_one (ps_ret (pe_ix ix_list (pv 0) pe_int (fun _ _ => rfl)))) pss_nil)
    (pss_cons (ps_set (i := 2) scLDg.nd rfl (.inl rfl) (pe_op op_fdiv (pe_callB call_len_seq (by rfl) ml PySem.boot_len (pa_cons (pv 0) pa_nil)) pe_int))
    (pss_cons (ps_set (i := 3) scLDg.nd rfl (.inl rfl) (pe_call G hr rfl mG kG bG .nil pass0 (pa_cons (pe_slice sl_list (pv 0) po_none (po_some (pv 2))) (pa_cons (pe_op op_add (pv 1) pe_int) pa_nil))))
    (pss_cons (ps_set (i := 4) scLDg.nd rfl (.inl rfl) (pe_call G hr rfl mG kG bG .nil pass0 (pa_cons (pe_slice sl_list (pv 0) (po_some (pv 2)) po_none) (pa_cons (pe_op op_add (pv 1) pe_int) pa_nil))))
    (pss_cons (ps_if (PW.pt (pw_and (pt_cmpR (op_eqD hr.units) (pv 3) (pv 4) (nomark _))
        (pw_and1 (pt_cmpR op_eq (pe_callB call_isi (by rfl) mi (by decide +kernel) (pa_cons (pv 3) (pa_cons (pe_bltn (v := .ty "tuple") (by rfl) mt (by decide +kernel) rfl) pa_nil)))
          (pe_callB call_isi (by rfl) mi (by decide +kernel) (pa_cons (pv 4) (pa_cons (pe_bltn (v := .ty "tuple") (by rfl) mt (by decide +kernel) rfl) pa_nil))) (nomark _))))) (pss_one (ps_ret (pv 3))) pss_nil)
    (pss_one (ps_ret (pe_tup (pa_cons (pv 1) (pa_cons (pv 3) (pa_cons (pv 4) pa_nil)))))))))), ?_⟩
  have hl' : (bits.map V.bl).length = 2 ^ k := by rw [List.length_map, hl]
  refine ⟨_, rfl, a, _, rfl, .inl (SqL.of hb), rfl, _, rfl, ?_⟩
  rw [hl']
  match k, hl, hk, q, hl' with
  | 0, hl, hk, q, hl' =>
    obtain ⟨b, rfl⟩ : ∃ b, bits = [b] := by
      match bits, hl with
      | [b], _ => exact ⟨b, rfl⟩
    refine iteT ⟨_, rfl, a, _, _, _, rfl, rfl, SqL.of hb, at_of (j := 0) (v := .bl b) rfl rfl, ?_⟩
    exact q _ H (Same.refl H) Dv.bool
  | k + 1, hl, hk, q, hl' =>
    have p2 : 2 ^ (k + 1) = 2 * 2 ^ k := by rw [Nat.pow_succ]; omega
    have p1 : 1 ≤ 2 ^ k := Nat.one_le_two_pow
    refine ite2 (fun c => ?_) (fun _ => ?_)
    · exfalso
      have c' := of_decide_eq_true c
      injection c' with c'
      omega
    refine ⟨_, rfl, a, _, rfl, .inl (SqL.of hb), ((2 ^ (k + 1) : Nat) : Int), _, congrArg (fun n : Nat => V.int (n : Int)) hl', rfl, ⟨by decide, by decide⟩, ?_⟩
    have eh : (((2 ^ (k + 1) : Nat) : Int) / 2) = ((2 ^ k : Nat) : Int) := by omega
    have hle : 2 ^ k ≤ (bits.map V.bl).length := by omega
    refine ⟨_, rfl, _, rfl, ((2 ^ k : Nat) : Int), congrArg V.int eh, a, _, rfl, SqL.of hb, fun p1' n1 => ?_⟩
    rw [cutV_lo hle, ← List.map_take]
    have g1 := same_new n1 (.lst ((bits.take (2 ^ k)).map V.bl))
    refine ⟨_, rfl, _, _, rfl, rfl, p1', k, bits.take (2 ^ k), i + 1, rfl, upd_same, by rw [List.length_take]; omega, by omega, fun vlo H2 g2 d1 => ?_⟩
    have g12 := g1.trans g2
    refine ⟨_, rfl, _, rfl, ((2 ^ k : Nat) : Int), congrArg V.int eh, a, _, rfl, SqL.of (g12 _ _ hb), fun p2' n2 => ?_⟩
    rw [cutV_hi hle, ← List.map_drop]
    have g3 := same_new n2 (.lst ((bits.drop (2 ^ k)).map V.bl))
    refine ⟨_, rfl, _, _, rfl, rfl, p2', k, bits.drop (2 ^ k), i + 1, rfl, upd_same, by rw [List.length_drop]; omega, by omega, fun vhi H4 g4 d2 => ?_⟩
    have g34 := g3.trans g4
    have gA := g12.trans g34
    have d1' := Dv.keep (KeepT.of g34) _ _ d1
    have em : Dg.mk (k + 1) bits i = Dg.fork i (Dg.mk k (bits.take (2 ^ k)) (i + 1)) (Dg.mk k (bits.drop (2 ^ k)) (i + 1)) := rfl
    rw [em] at q
    have hlo := Dg.mk_ht k (bits.take (2 ^ k)) (i + 1)
    have hhi := Dg.mk_ht k (bits.drop (2 ^ k)) (i + 1)
    generalize Dg.mk k (bits.take (2 ^ k)) (i + 1) = lo at q d1' hlo
    generalize Dg.mk k (bits.drop (2 ^ k)) (i + 1) = hi at q d2 hhi
    refine ⟨_, rfl, _, rfl, _, _, d1'.dp, d2.dp, Dg.shaped (by omega), Dg.shaped (by omega), _, rfl, ?_⟩
    rw [Dg.eqv_toD]
    unfold Dg.fork at q
    refine ite2 (fun c => ?_) (fun c => ?_)
    · have c' : lo = hi := of_decide_eq_true c
      subst c'
      refine ⟨_, rfl, _, _, _, _, _, rfl, .ty _, d1'.ty, kit_tup _, _, rfl, _, _, _, _, _, rfl, .ty _, d2.ty, kit_tup _, rfl, _, rfl, ?_⟩
      rw [decide_eq_true rfl]
      rw [if_pos rfl] at q
      exact iteT ⟨_, rfl, q _ H4 gA d1'⟩
    · have c' : ¬ lo = hi := of_decide_eq_false (Bool.eq_false_iff.mpr c)
      rw [if_neg c'] at q
      refine iteF ⟨_, rfl, _, rfl, _, rfl, (by show 3 ≤ sizeLine; decide), fun r hr' => ?_⟩
      have g5 := same_new hr' (.tup [.int i, vlo, vhi])
      exact q _ _ (gA.trans g5) (Dv.tup upd_same (DvAll.cons Dv.int (DvAll.cons (Dv.keep (KeepT.of g5) _ _ d1') (DvAll.cons (Dv.keep (KeepT.of g5) _ _ d2) DvAll.nil))))
theorem ok_ldg0 : FnOk P w K mg base CX0 0 f fd ["bits", "i"] (spLDg 0) := by
  have no : ∀ vs H Q E, ¬ spLDg 0 vs H Q E := fun vs H Q E h => by
    obtain ⟨a, k, bits, i, _, _, _, h, _⟩ := h
    omega
  exact ⟨fun vs H Q E h => absurd h (no vs H Q E), fun A outer s H args us vs Q E _ _ _ _ h => absurd h (no vs H Q E)⟩
theorem ok_ldg (F : Fun K "_law_diagram" "_law_diagram" sLDg f fd) (bG : Binds K fd ["bits", "i"] []) (mG : mg "_law_diagram" = some (.ref f)) (mi : mg "isinstance" = none) (mt : mg "tuple" = none) (ml : mg "len" = none) :
    ∀ n, n ≤ 20 → FnOk P w K mg base CX0 n f fd ["bits", "i"] (spLDg n)
  | 0, _ => ok_ldg0
  | n + 1, h => ok_ldg1 (by omega) F (ok_ldg F bG mG mi mt ml n (by omega)) bG F.kp mG mi mt ml
end
end Ver

/-! ## _law_same, _law_fine -/
namespace Ver
open PySem L2
abbrev sSame : Stmt := top 33
abbrev sFine : Stmt := top 34
def spSame (n : Nat) : Sp := fun vs H Q _ => ∃ (v u : V) (d : Dg), vs = [v, u] ∧ Dv H v d.toD ∧ Dv H u d.toD ∧ d.ht < n ∧ Q (.bl true) H
def holdsL (n : Nat) (d : Dg) : List V := ((confs n).map (d.hold 0)).map V.bl
def spFine : Sp := fun vs H Q _ => ∃ (v : V) (b : Addr) (n : Nat) (d : Dg), vs = [v, .ref b, .int n] ∧ Dv H v d.toD ∧ d.Fit n 0 ∧ n ≤ 5 ∧ H b = some (.lst (holdsL n d)) ∧ ∀ H', Same H H' → Q (.bl true) H'
theorem conf_shape (c : List Int) : (confD c).canLay0 = true ∧ (confD c).depth = 1 := by
  have h1 : ∀ c : List Int, PyData.canLayAll0 (c.map PyData.int) = true := by
    intro c
    induction c with
    | nil => simp [PyData.canLayAll0]
    | cons a c ih => simp [PyData.canLayAll0, PyData.canLay0, ih]
  have h2 : ∀ c : List Int, PyData.depthAll (c.map PyData.int) = 0 := by
    intro c
    induction c with
    | nil => simp [PyData.depthAll]
    | cons a c ih => simp [PyData.depthAll, PyData.depth, ih]
  exact ⟨by simp [confD, PyData.canLay0, h1], by simp [confD, PyData.depth, h2]⟩
theorem confs_shape (l : List (List Int)) : SeqAt.shaped (.list (l.map confD)) = true := by
  have h1 : ∀ l : List (List Int), PyData.canLayAll0 (l.map confD) = true := by
    intro l
    induction l with
    | nil => simp [PyData.canLayAll0]
    | cons a c ih => simp [PyData.canLayAll0, (conf_shape a).1, ih]
  have h2 : ∀ l : List (List Int), PyData.depthAll (l.map confD) ≤ 1 := by
    intro l
    induction l with
    | nil => simp [PyData.depthAll]
    | cons a c ih => simp only [List.map_cons, PyData.depthAll, (conf_shape a).2]; omega
  have h3 := h2 l
  unfold SeqAt.shaped
  rw [show (PyData.list (l.map confD)).canLay0 = true by simp [PyData.canLay0, h1], show (PyData.list (l.map confD)).depth = PyData.depthAll (l.map confD) + 1 by simp [PyData.depth]]
  simp
  omega
theorem confs_eqv (l : List (List Int)) : PyData.eqv (.list (l.map confD)) (.list (l.map confD)) = true := by
  refine SeqAt.eqv_refl _ ?_
  have := confs_shape l
  unfold SeqAt.shaped at this
  exact (Bool.and_eq_true_iff.mp this).1
theorem first_shape (l : List (List Int)) : SeqAt.shaped (firstD l) = true := by
  cases l with
  | nil => decide +kernel
  | cons c r =>
    show SeqAt.shaped (confD c) = true
    unfold SeqAt.shaped
    rw [(conf_shape c).1, (conf_shape c).2]
    rfl
theorem first_eqv (l : List (List Int)) : PyData.eqv (firstD l) (firstD l) = true := by
  refine SeqAt.eqv_refl _ ?_
  have := first_shape l
  unfold SeqAt.shaped at this
  exact (Bool.and_eq_true_iff.mp this).1
/-- the value at an index, as V -/
theorem bits_get {n i : Nat} {d : Dg} {r : List Int} (er : (confs n)[i]? = some r) : (holdsL n d)[i]? = some (.bl (d.hold 0 r)) := by
  unfold holdsL
  rw [List.getElem?_map, List.getElem?_map, er]
  rfl
theorem iteNT {A B : Prop} (h : B) : if (!true) = true then A else B := iteF h
section
variable {P : Program} {w : World} {K : PySem.W.Frag} {mg : Str → Option Value} {base : Heap} {f g : Addr} {fd gd : FuncData}
theorem scSame : FnScope ["told", "due"] ["told", "due"] (defScope sSame) := ⟨rfl, rfl, rfl, by decide +kernel, rfl, by decide +kernel, by decide +kernel⟩
theorem scFine : FnScope ["diagram", "bits", "count", "rows", "k", "due", "told"] ["diagram", "bits", "count"] (defScope sFine) := ⟨rfl, rfl, rfl, by decide +kernel, rfl, by decide +kernel, by decide +kernel⟩
theorem ok_same1 {n : Nat} (F : Fun K "_law_same" "_law_same" sSame f fd) (G : FnOk P w K mg base CX0 n f fd ["told", "due"] (spSame n)) (bG : Binds K fd ["told", "due"] []) (kG : PySem.W.keepIn K (.ref f) = true) (mG : mg "_law_same" = some (.ref f))
    (mi : mg "isinstance" = none) (mb : mg "bool" = none) (mt : mg "tuple" = none) (ml : mg "len" = none) : FnOk P w K mg base CX0 (n + 1) f fd ["told", "due"] (spSame (n + 1)) := by
  refine F.ok scSame (fun vs H Q E h => ?_) (fun cdv A outer s H vs Q E hr h => ?_)
  · obtain ⟨v, u, d, rfl, _⟩ := h
    rfl
  obtain ⟨v, u, d, rfl, hv, hu, hn, q⟩ := h
  have isb := fun (i : Nat) (X : Cx) => i
  refine ⟨_, pss_cons (ps_if (PW.pt (pw_or (pt_val (pe_callB call_isi (by rfl) mi (by decide +kernel) (pa_cons (pv 1) (pa_cons (pe_bltn (v := .ty "bool") (by rfl) mb (by decide +kernel) rfl) pa_nil)))) (pw_or1 (pt_val (pe_callB call_isi (by rfl) mi (by decide +kernel) (pa_cons (pv 0) (pa_cons (pe_bltn (v := .ty "bool") (by rfl) mb (by decide +kernel) rfl) pa_nil)))))))
      (pss_one (ps_ret (pe_and (pe_callB call_isi (by rfl) mi (by decide +kernel) (pa_cons (pv 0) (pa_cons (pe_bltn (v := .ty "bool") (by rfl) mb (by decide +kernel) rfl) pa_nil))) (pe_and (pe_callB call_isi (by rfl) mi (by decide +kernel) (pa_cons (pv 1) (pa_cons (pe_bltn (v := .ty "bool") (by rfl) mb (by decide +kernel) rfl) pa_nil))) (pe_one (pe_cmpR op_eq (pv 0) (pv 1) (nomark _))))))) pss_nil)
    (pss_cons (ps_if (PW.pt (pw_or (pt_not (pt_val (pe_callB call_isi (by rfl) mi (by decide +kernel) (pa_cons (pv 0) (pa_cons (pe_bltn (v := .ty "tuple") (by rfl) mt (by decide +kernel) rfl) pa_nil)))))
        (pw_or (pt_cmpR op_ne (pe_callB call_len_seq (by rfl) ml PySem.boot_len (pa_cons (pv 0) pa_nil)) pe_int (nomark _)) (pw_or1 (pt_cmpR op_ne (pe_ix ix_tup (pv 0) pe_int (fun _ _ => rfl)) (pe_ix ix_tup (pv 1) pe_int (fun _ _ => rfl)) (nomark _)))))) (pss_one (ps_ret pe_bl)) pss_nil)
    (pss_one (ps_ret (pe_and (pe_call G hr rfl mG kG bG .nil pass0 (pa_cons (pe_ix ix_tup (pv 0) pe_int (fun _ _ => rfl)) (pa_cons (pe_ix ix_tup (pv 1) pe_int (fun _ _ => rfl)) pa_nil)))
      (pe_one (pe_call G hr rfl mG kG bG .nil pass0 (pa_cons (pe_ix ix_tup (pv 0) pe_int (fun _ _ => rfl)) (pa_cons (pe_ix ix_tup (pv 1) pe_int (fun _ _ => rfl)) pa_nil)))))))), ?_⟩
  refine ⟨_, rfl, _, _, _, _, _, rfl, .ty _, hu.ty, kit_bool _, _, rfl, ?_⟩
  cases d with
  | leaf b =>
    cases hv.of_bool
    cases hu.of_bool
    refine iteT (iteT ⟨_, rfl, _, _, _, _, _, rfl, .ty _, hv.ty, kit_bool _, _, rfl, iteT ⟨_, rfl, _, _, _, _, _, rfl, .ty _, hu.ty, kit_bool _, _, rfl, iteT ⟨_, rfl, _, rfl, rfl, ?_⟩⟩⟩)
    have e : decide (V.bl b = V.bl b) = true := decide_eq_true rfl
    have q2 : Q (.bl (decide (V.bl b = V.bl b))) H := by rw [e]; exact q
    exact q2
  | node i lo hi =>
    have hv' := hv
    have hu' := hu
    obtain ⟨p1, x1, y1, rfl, e1, h1, h2⟩ := Dv.node hv
    obtain ⟨p2, x2, y2, rfl, e2, h3, h4⟩ := Dv.node hu
    have hh : max lo.ht hi.ht + 1 < n + 1 := hn
    refine iteF ⟨_, rfl, _, _, _, _, _, rfl, .ty _, hv'.ty, kit_bool _, _, rfl, iteF ?_⟩
    refine ⟨_, rfl, _, _, _, _, _, rfl, .ty _, hv'.ty, kit_tup _, _, rfl, iteF ⟨_, rfl, p1, _, rfl, .inr (SqT.of e1), rfl, _, rfl, iteF ⟨_, rfl, p1, _, _, _, rfl, rfl, SqT.of e1, at_of (j := 0) (v := .int i) rfl rfl, _, rfl, p2, _, _, _, rfl, rfl, SqT.of e2, at_of (j := 0) (v := .int i) rfl rfl, rfl, _, rfl, iteNS rfl ?_⟩⟩⟩
    refine ⟨_, rfl, p1, _, _, _, rfl, rfl, SqT.of e1, at_of (j := 1) (v := x1) rfl rfl, _, rfl, p2, _, _, _, rfl, rfl, SqT.of e2, at_of (j := 1) (v := x2) rfl rfl, x1, x2, lo, rfl, h1, h3, by omega, _, rfl, iteT ?_⟩
    exact ⟨_, rfl, p1, _, _, _, rfl, rfl, SqT.of e1, at_of (j := 2) (v := y1) rfl rfl, _, rfl, p2, _, _, _, rfl, rfl, SqT.of e2, at_of (j := 2) (v := y2) rfl rfl, y1, y2, hi, rfl, h2, h4, by omega, q⟩
theorem ok_same (F : Fun K "_law_same" "_law_same" sSame f fd) (bG : Binds K fd ["told", "due"] []) (mG : mg "_law_same" = some (.ref f))
    (mi : mg "isinstance" = none) (mb : mg "bool" = none) (mt : mg "tuple" = none) (ml : mg "len" = none) : ∀ n, FnOk P w K mg base CX0 n f fd ["told", "due"] (spSame n)
  | 0 => no_ok fun vs H Q E h => by
    obtain ⟨v, u, d, _, _, _, h, _⟩ := h
    omega
  | n + 1 => ok_same1 F (ok_same F bG mG mi mb mt ml n) bG F.kp mG mi mb mt ml
theorem ok_fine {a1 a2 a3 a4 a5 a6 a7 a8 : Addr} {d1 d2 d3 d4 d5 d6 d7 d8 : FuncData} (F : Fun K "_law_fine" "_law_fine" sFine f fd)
    (GS : FnOk P w K mg base CX0 7 a1 d1 ["told", "due"] (spSame 7)) (bS : Binds K d1 ["told", "due"] []) (kS : PySem.W.keepIn K (.ref a1) = true) (mS : mg "_law_same" = some (.ref a1))
    (GD : FnOk P w K mg base CX0 6 a2 d2 ["bits", "i"] (spLDg 6)) (bD : Binds K d2 ["bits", "i"] []) (kD : PySem.W.keepIn K (.ref a2) = true) (mD : mg "_law_diagram" = some (.ref a2))
    (GI : FnOk P w K mg base CX0 7 a3 d3 ["value", "count"] (spIsDg 6)) (bI : Binds K d3 ["value", "count"] []) (kI : PySem.W.keepIn K (.ref a3) = true) (mI : mg "is_diagram" = some (.ref a3))
    (GA : FnOk P w K mg base CX0 1 a4 d4 ["count"] spAll) (bA : Binds K d4 ["count"] []) (kA : PySem.W.keepIn K (.ref a4) = true) (mA : mg "_law_all" = some (.ref a4))
    (GH : FnOk P w K mg base CX0 1 a5 d5 ["d", "configuration"] (spHolds K)) (bH : Binds K d5 ["d", "configuration"] []) (kH : PySem.W.keepIn K (.ref a5) = true) (mH : mg "holds" = some (.ref a5))
    (GC : FnOk P w K mg base CX0 2 a6 d6 ["d", "count"] spChosen) (bC : Binds K d6 ["d", "count"] []) (kC : PySem.W.keepIn K (.ref a6) = true) (mC : mg "chosen" = some (.ref a6))
    (GM : FnOk P w K mg base CX0 3 a7 d7 ["d", "count"] spMany) (bM : Binds K d7 ["d", "count"] []) (kM : PySem.W.keepIn K (.ref a7) = true) (mM : mg "how_many" = some (.ref a7))
    (GL : FnOk P w K mg base CX0 3 a8 d8 ["d", "count"] spLeast) (bL : Binds K d8 ["d", "count"] []) (kL : PySem.W.keepIn K (.ref a8) = true) (mL : mg "least" = some (.ref a8))
    (mi : mg "isinstance" = none) (mb : mg "bool" = none) (ml : mg "len" = none) (mr : mg "range" = none) : FnOk P w K mg base CX0 8 f fd ["diagram", "bits", "count"] spFine := by
  refine F.ok scFine (fun vs H Q E h => ?_) (fun cdv A outer s H vs Q E hr h => ?_)
  · obtain ⟨v, b, n, d, rfl, _⟩ := h
    rfl
  obtain ⟨v, b, n, d, rfl, hv, hf, hn, hb, q⟩ := h
  have hr1 := hr.mono (show 1 ≤ 7 by decide)
  have hr2 := hr.mono (show 2 ≤ 7 by decide)
  have hr3 := hr.mono (show 3 ≤ 7 by decide)
  have hr6 := hr.mono (show 6 ≤ 7 by decide)
  refine ⟨_, pss_cons (ps_if (PW.pt (pw_or (pt_not (pt_val (pe_call GS hr rfl mS kS bS .nil pass0 (pa_cons (pv 0) (pa_cons (pe_call GD hr6 rfl mD kD bD .nil pass0 (pa_cons (pv 1) (pa_cons pe_int pa_nil))) pa_nil)))))
        (pw_or1 (pt_cmpR op_isnot_bl (pe_call GI hr rfl mI kI bI .nil pass0 (pa_cons (pv 0) (pa_cons (pv 2) pa_nil))) pe_bl (nomark _))))) (pss_one (ps_ret pe_bl)) pss_nil)
    (pss_cons (ps_set (i := 3) scFine.nd rfl (.inr rfl) (pe_call GA hr1 rfl mA kA bA .nil pass0 (pa_cons (pv 2) pa_nil)))
    (pss_cons (ps_setLc (i := 5) (own := [("k", 4)]) (g := gName 4) (by rfl) scFine.nd rfl rfl (sw_true rfl rfl rfl (by decide +kernel)) (pi_range1 rfl mr (pa_cons (pe_callB call_len_seq (by rfl) ml PySem.boot_len (pa_cons (pv 3) pa_nil)) pa_nil))
        (blkOk_by (own := [("k", 4)]) (N := ["diagram", "bits", "count", "rows", "k", "due", "told"]) (sc := defScope sFine) (by decide +kernel)) (fun _ _ _ _ _ => pg_name (i := 4) scFine.nd rfl (Or.inl rfl))
        (fun _ _ _ _ _ => pts_one (pt_val (pe_ix (r := rIxL K) ix_list (pv 1) (pv 4) (fun _ _ => rfl)))) (fun _ _ _ _ _ => pe_ix (r := rIxL K) ix_list (pv 3) (pv 4) (fun _ _ => rfl)))
    (pss_cons (ps_for PassesOwn.never rfl (pi_range1 rfl mr (pa_cons (pe_callB call_len_seq (by rfl) ml PySem.boot_len (pa_cons (pv 3) pa_nil)) pa_nil)) (pg_name (i := 4) scFine.nd rfl (.inl rfl))
      (pss_cons (ps_set (i := 6) scFine.nd rfl (.inl rfl) (pe_call GH hr1 rfl mH kH bH .nil pass0 (pa_cons (pv 0) (pa_cons (pe_ix ix_list (pv 3) (pv 4) (fun _ _ => rfl)) pa_nil))))
      (pss_one (ps_if (PW.pt (pw_or (pt_not (pt_val (pe_callB call_isi (by rfl) mi (by decide +kernel) (pa_cons (pv 6) (pa_cons (pe_bltn (v := .ty "bool") (by rfl) mb (by decide +kernel) rfl) pa_nil)))))
        (pw_or1 (pt_cmpR op_ne (pv 6) (pe_ix ix_list (pv 1) (pv 4) (fun _ _ => rfl)) (nomark _))))) (pss_one (ps_ret pe_bl)) pss_nil))))
    (pss_cons (ps_if (PW.pt (pw_or (pt_cmpR (op_neD hr.units) (pe_call GC hr2 rfl mC kC bC .nil pass0 (pa_cons (pv 0) (pa_cons (pv 2) pa_nil))) (pv 5) (nomark _))
        (pw_or1 (pt_cmpR op_ne (pe_call GM hr3 rfl mM kM bM .nil pass0 (pa_cons (pv 0) (pa_cons (pv 2) pa_nil))) (pe_callB call_len_seq (by rfl) ml PySem.boot_len (pa_cons (pv 5) pa_nil)) (nomark _))))) (pss_one (ps_ret pe_bl)) pss_nil)
    (pss_one (ps_ret (pe_cmpR (op_eqD hr.units) (pe_call GL hr3 rfl mL kL bL .nil pass0 (pa_cons (pv 0) (pa_cons (pv 2) pa_nil)))
      (pe_ifExp (pt_cmpR op_gt (pe_callB call_len_seq (by rfl) ml PySem.boot_len (pa_cons (pv 5) pa_nil)) pe_int (nomark _)) (pe_ix ix_list (pv 5) pe_int (fun _ _ => rfl)) pe_non) (nomark _)))))))), ?_⟩
  have p32 := pow32 hn
  have hcan : Dg.mk n ((confs n).map (d.hold 0)) 0 = d := Dg.canon n d 0 (by rw [Nat.zero_add]; exact hf)
  have hlen : ((confs n).map (d.hold 0)).length = 2 ^ n := by rw [List.length_map, confs_len]
  have hht := Dg.ht5 hf
  refine ⟨_, rfl, _, rfl, b, n, (confs n).map (d.hold 0), 0, rfl, hb, hlen, by omega, fun v1 H1 g1 k1 => ?_⟩
  rw [hcan] at k1
  have hv1 := Dv.keep (KeepT.of g1) _ _ hv
  refine ⟨v, v1, d, rfl, hv1, k1, by omega, _, rfl, iteF ?_⟩
  refine ⟨_, rfl, _, rfl, v, d.toD, (n : Int), rfl, hv1, by omega, by omega, _, _, rfl, rfl, _, rfl, iteNS (isDg_fit (l := 0) 6 hf (by omega) (by omega)) ?_⟩
  refine ⟨_, rfl, n, rfl, hn, fun pr rs H2 np g2 er dr => ?_⟩
  have lr : rs.length = 2 ^ n := by rw [dr.length, List.length_map, confs_len]
  have g12 := g1.trans g2
  -- the rows by their index
  have row : ∀ {i : Nat}, i < 2 ^ n → ∃ (r : List Int) (x : V), (confs n)[i]? = some r ∧ rs[i]? = some x ∧ r.length = n ∧ Dv H2 x (confD r) := fun {i} hi => by
    have hi' : i < (confs n).length := by rw [confs_len]; exact hi
    have e1 : (confs n)[i]? = some (confs n)[i] := List.getElem?_eq_getElem hi'
    obtain ⟨x, e2, e3⟩ := DvAll.get dr (show ((confs n).map confD)[i]? = some (confD (confs n)[i]) by rw [List.getElem?_map, e1]; rfl)
    exact ⟨_, x, e1, e2, (confs_row n _ (List.mem_of_getElem? e1)).1, e3⟩
  refine ⟨_, rfl, pr, _, rfl, .inl (SqL.of er), _, rfl, by omega, by omega, fun D hD => ?_⟩
  have g3 := same_new hD (.lst [])
  have eN : (((rs.length : Nat) : Int)).toNat = 2 ^ n := by omega
  rw [eN]
  refine lc_range (lo := 0) (n := 2 ^ n) (fun i H' => ∃ ys : List V, Same H2 H' ∧ H' D = some (.lst ys) ∧ DvAll H' ys ((((confs n).take i).filter (d.hold 0)).map confD)) ?_ ?_ ?_
  · exact ⟨[], g3, upd_same, DvAll.nil⟩
  · rintro i H3 hi ⟨ys, k2, k3, k4⟩
    obtain ⟨r, x, r1, r2, r3, r4⟩ := row hi
    have ei : (0 : Int) + (i : Nat) = ((i : Nat) : Int) := by omega
    rw [ei]
    have et : ((confs n).take (i + 1)).filter (d.hold 0) = ((confs n).take i).filter (d.hold 0) ++ (if d.hold 0 r then [r] else []) := by
      rw [List.take_succ, r1, List.filter_append]
      congr 1
      show List.filter _ [r] = _
      rw [List.filter_cons]
      rfl
    rw [et]
    have ly := k4.length
    rw [List.length_map] at ly
    have l2 : (((confs n).take i).filter (d.hold 0)).length ≤ 32 := by
      refine Nat.le_trans (List.length_filter_le _ _) ?_
      rw [List.length_take, confs_len]
      exact Nat.le_trans (Nat.min_le_right _ _) p32
    refine ⟨rfl, _, rfl, _, rfl, b, _, _, _, rfl, rfl, SqL.of (k2 _ _ (g12 _ _ hb)), at_of rfl (bits_get r1), _, rfl, ite2 (fun z => ?_) (fun z => ?_)⟩
    · rw [if_pos z]
      refine ⟨_, rfl, _, rfl, pr, _, _, x, rfl, rfl, SqL.of (k2 _ _ er), at_of rfl r2, ys, k3, Nat.lt_of_le_of_lt (show ys.length ≤ 32 by omega) (by decide), ys ++ [x], same_put k2 hD, upd_same, ?_⟩
      have kt : KeepT H3 (upd H3 D (.lst (ys ++ [x]))) := fun a us h => by
        rw [upd_ne (fun z => by rw [z, k3] at h; cases h)]
        exact h
      rw [List.map_append]
      exact DvAll.append (DvAll.keep kt _ _ k4) (DvAll.cons (Dv.keep kt _ _ (Dv.keep (KeepT.of k2) _ _ r4)) DvAll.nil)
    · rw [if_neg z, List.append_nil]
      exact ⟨ys, k2, k3, k4⟩
  rintro H3 ⟨ys, k2, k3, k4⟩
  rw [← confs_len n, List.take_length] at k4
  have k4' : DvAll H3 ys ((whereD n d).map confD) := k4
  have g13 := g12.trans k2
  refine ⟨_, rfl, pr, _, rfl, .inl (SqL.of (k2 _ _ er)), _, rfl, by omega, by omega, ?_⟩
  rw [eN]
  refine for_range (lo := 0) (n := 2 ^ n) (fun i σ H' => H' = H3 ∧ ∃ c4 c6 : Option V, σ = [some v, some (.ref b), some (.int n), some (.ref pr), c4, some (.ref D), c6]) ?_ ?_ ?_
  · exact ⟨rfl, _, _, rfl⟩
  · rintro i σ H' hi ⟨rfl, c4, c6, rfl⟩
    obtain ⟨r, x, r1, r2, r3, r4⟩ := row hi
    have ei : (0 : Int) + (i : Nat) = ((i : Nat) : Int) := by omega
    rw [ei]
    obtain ⟨bc, rfl, hc⟩ := Dv.conf (K := K) (Dv.keep (KeepT.of k2) _ _ r4)
    refine ⟨_, rfl, _, rfl, _, rfl, pr, _, _, _, rfl, rfl, SqL.of (k2 _ _ er), at_of rfl r2, v, d, bc, r, rfl, Dv.keep (KeepT.of g13) _ _ hv, hc, by rw [r3]; exact hf, ?_⟩
    refine ⟨_, rfl, _, _, _, _, _, rfl, .ty _, (Dv.bool (b := d.hold 0 r)).ty, kit_bool _, _, rfl, iteF ?_⟩
    exact ⟨_, rfl, _, rfl, _, rfl, b, _, _, _, rfl, rfl, SqL.of (g13 _ _ hb), at_of rfl (bits_get r1), rfl, _, rfl, iteNS rfl ⟨rfl, _, _, rfl⟩⟩
  · rintro σ H' ⟨rfl, c4, c6, rfl⟩
    have hv3 := Dv.keep (KeepT.of g13) _ _ hv
    refine ⟨_, rfl, _, rfl, v, d, n, rfl, hv3, hf, hn, fun p1 xs1 H4 g4 e4 d4 => ?_⟩
    have k5 := DvAll.keep (KeepT.of g4) _ _ k4'
    refine ⟨_, rfl, _, _, Dp.lst (SqL.of e4) d4.dp, Dp.lst (SqL.of (g4 _ _ k3)) k5.dp, confs_shape _, confs_shape _, _, rfl, ?_⟩
    rw [confs_eqv]
    refine iteF ?_
    have hv4 := Dv.keep (KeepT.of g4) _ _ hv3
    refine ⟨_, rfl, _, rfl, v, d, n, rfl, hv4, hf, hn, fun H5 g5 => ?_⟩
    have ly := k4'.length
    rw [List.length_map] at ly
    have D5 := g5 _ _ (g4 _ _ k3)
    refine ⟨_, rfl, D, _, rfl, .inl (SqL.of D5), rfl, _, rfl, ?_⟩
    rw [ly]
    refine iteNS rfl ?_
    have hv5 := Dv.keep (KeepT.of g5) _ _ hv4
    refine ⟨_, rfl, _, rfl, v, d, n, rfl, hv5, hf, hn, fun v6 H6 g6 d6 => ?_⟩
    have D6 := g6 _ _ D5
    have k6 := DvAll.keep (KeepT.of (g5.trans g6)) _ _ k5
    have fin := q H6 (((g13.trans g4).trans g5).trans g6)
    refine ⟨_, rfl, D, _, rfl, .inl (SqL.of D6), _, _, rfl, rfl, _, rfl, ?_⟩
    generalize whereD n d = l at d6 k6
    cases l with
    | nil =>
      unfold List.map DvAll at k6
      subst k6
      refine iteF ⟨_, _, d6.dp, Dp.non, first_shape _, first_shape [], ?_⟩
      rw [show PyData.eqv (firstD []) PyData.none = true from first_eqv []]
      exact fin
    | cons c r =>
      rw [List.map_cons] at k6
      unfold DvAll at k6
      obtain ⟨x, zs, rfl, k7, _⟩ := k6
      refine ite2 (fun _ => ?_) (fun z => ?_)
      · refine ⟨_, rfl, D, _, _, x, rfl, rfl, SqL.of D6, at_of (j := 0) rfl rfl, _, _, d6.dp, k7.dp, first_shape _, first_shape (c :: r), ?_⟩
        rw [show PyData.eqv (firstD (c :: r)) (confD c) = true from first_eqv (c :: r)]
        exact fin
      · exact absurd (decide_eq_true (show (0 : Int) < (((x :: zs).length : Nat) : Int) by rw [List.length_cons]; omega)) z
end
end Ver

/-! ## The law k01 -/
namespace Ver
open PySem L2
abbrev sLaw : Stmt := top 35
def spLaw (K : PySem.W.Frag) : Sp := fun vs H Q _ => ∃ (a : Addr) (ns : List Int), vs = [.ref a] ∧ SqL K H a (ns.map V.int) ∧ ∀ H', Q (.bl true) H'
namespace Dg
theorem at_ne : ∀ (r : List Int) (i : Nat), at_ i r ≠ leaf false
  | [], i => fun e => by cases e
  | b :: r, i => by
    show (if b = 1 then node i (leaf false) (at_ (i + 1) r) else node i (at_ (i + 1) r) (leaf false)) ≠ leaf false
    split <;> exact fun e => by cases e
theorem at_fit : ∀ (r : List Int) (i : Nat), Fit (i + r.length) i (at_ i r)
  | [], i => True.intro
  | b :: r, i => by
    have h := at_fit r (i + 1)
    rw [show i + 1 + r.length = i + (r.length + 1) by omega] at h
    show Fit (i + (r.length + 1)) i (if b = 1 then node i (leaf false) (at_ (i + 1) r) else node i (at_ (i + 1) r) (leaf false))
    split
    · exact ⟨Nat.le_refl _, by omega, fun e => at_ne r (i + 1) e.symm, True.intro, h⟩
    · exact ⟨Nat.le_refl _, by omega, at_ne r (i + 1), h, True.intro⟩
theorem at_hold : ∀ (r c : List Int) (i : Nat), r.length = c.length → (∀ b ∈ r, b = 0 ∨ b = 1) → (∀ b ∈ c, b = 0 ∨ b = 1) → hold i (at_ i r) c = decide (c = r)
  | [], [], i, _, _, _ => rfl
  | b :: r, x :: c, i, hl, hr, hc => by
    have ih := at_hold r c (i + 1) (by simpa using hl) (fun z hz => hr z (List.mem_cons_of_mem _ hz)) (fun z hz => hc z (List.mem_cons_of_mem _ hz))
    have hf : Fit (i + 1 + r.length) (i + 1) (at_ (i + 1) r) := at_fit r (i + 1)
    have hx := hc x List.mem_cons_self
    have hb := hr b List.mem_cons_self
    have e1 : hold i (at_ (i + 1) r) (x :: c) = decide (c = r) := by rw [hold_cons hf]; exact ih
    have e2 : ∀ lo hi : Dg, hold i (node i lo hi) (x :: c) = if x = 1 then hold i hi (x :: c) else hold i lo (x :: c) := fun lo hi => by
      show (if (x :: c).getD (i - i) 0 = 1 then _ else _) = _
      rw [Nat.sub_self]
      rfl
    show hold i (if b = 1 then node i (leaf false) (at_ (i + 1) r) else node i (at_ (i + 1) r) (leaf false)) (x :: c) = _
    by_cases hb1 : b = 1
    · rw [if_pos hb1, e2, e1]
      subst hb1
      by_cases hx1 : x = 1
      · rw [if_pos hx1, hx1]
        simp
      · rw [if_neg hx1]
        have : ¬ (x :: c) = 1 :: r := fun e => hx1 (List.cons.inj e).1
        rw [decide_eq_false this]
        rfl
    · rw [if_neg hb1, e2, e1]
      have hb0 : b = 0 := hb.resolve_right hb1
      subst hb0
      by_cases hx1 : x = 1
      · rw [if_pos hx1]
        have : ¬ (x :: c) = 0 :: r := fun e => by have := (List.cons.inj e).1; omega
        rw [decide_eq_false this]
        rfl
      · have hx0 : x = 0 := hx.resolve_right hx1
        rw [if_neg hx1, hx0]
        simp
end Dg
/-- one more of a list that is made turn by turn -/
theorem takeG {α : Type} {n i : Nat} {r : List Int} (er : (confs n)[i]? = some r) (G : List Int → α) : ((confs n).take (i + 1)).map G = ((confs n).take i).map G ++ [G r] := by
  rw [List.take_succ, er, List.map_append]
  rfl
/-- G where a diagram holds -/
theorem holdsL_of {n : Nat} {d : Dg} {G : List Int → Bool} (h : ∀ c ∈ confs n, G c = d.hold 0 c) : ((confs n).map fun c => V.bl (G c)) = holdsL n d := by
  unfold holdsL
  rw [List.map_map]
  exact List.map_congr_left fun c hc => by show V.bl (G c) = V.bl (d.hold 0 c); rw [h c hc]
theorem ite_notT {A B : Prop} (h : B) : if (!true) = true then A else B := iteF h
section
variable {P : Program} {w : World} {K : PySem.W.Frag} {mg : Str → Option Value} {base : Heap} {f g : Addr} {fd gd : FuncData}
theorem scLaw : FnScope ["script", "tape", "switches", "count", "one", "two", "rows", "first", "second", "d", "e", "k", "at", "i", "drawn", "other", "row", "bit"] ["script"] (defScope sLaw) := ⟨rfl, rfl, rfl, by decide +kernel, rfl, by decide +kernel, by decide +kernel⟩
abbrev NL : List Str := ["script", "tape", "switches", "count", "one", "two", "rows", "first", "second", "d", "e", "k", "at", "i", "drawn", "other", "row", "bit"]
theorem ok_law {a1 a2 a3 a4 a5 a6 a7 a8 a9 b1 b2 b3 b4 : Addr} {d1 d2 d3 d4 d5 d6 d7 d8 d9 c1 c2 c3 c4 : FuncData} (F : Fun K "law" "law" sLaw f fd)
    (GT : FnOk P w K mg base CX0 1 a1 d1 ["script", "budget"] (spTape K)) (bT : Binds K d1 ["script", "budget"] []) (kT : PySem.W.keepIn K (.ref a1) = true) (mT : mg "_law_tape" = some (.ref a1))
    (GS : FnOk P w K mg base CX0 3 a2 d2 ["tape"] spSws) (bS : Binds K d2 ["tape"] []) (kS : PySem.W.keepIn K (.ref a2) = true) (mS : mg "_law_switches" = some (.ref a2))
    (GF : FnOk P w K mg base CX0 13 a3 d3 ["tape", "switches"] spForm) (bF : Binds K d3 ["tape", "switches"] []) (kF : PySem.W.keepIn K (.ref a3) = true) (mF : mg "_law_formula" = some (.ref a3))
    (GA : FnOk P w K mg base CX0 1 a4 d4 ["count"] spAll) (bA : Binds K d4 ["count"] []) (kA : PySem.W.keepIn K (.ref a4) = true) (mA : mg "_law_all" = some (.ref a4))
    (GU : FnOk P w K mg base CX0 15 a5 d5 ["switches", "formula", "configuration"] (spTrue K 15)) (bU : Binds K d5 ["switches", "formula", "configuration"] []) (kU : PySem.W.keepIn K (.ref a5) = true) (mU : mg "_law_true" = some (.ref a5))
    (GD : FnOk P w K mg base CX0 3 a6 d6 ["switches", "formula"] spDof) (bD : Binds K d6 ["switches", "formula"] []) (kD : PySem.W.keepIn K (.ref a6) = true) (mD : mg "diagram_of" = some (.ref a6))
    (GL : FnOk P w K mg base CX0 8 a7 d7 ["diagram", "bits", "count"] spFine) (bL : Binds K d7 ["diagram", "bits", "count"] []) (kL : PySem.W.keepIn K (.ref a7) = true) (mL : mg "_law_fine" = some (.ref a7))
    (GN : FnOk P w K mg base CX0 6 a8 d8 ["d"] (spNeg 6)) (bN : Binds K d8 ["d"] []) (kN : PySem.W.keepIn K (.ref a8) = true) (mN : mg "negated" = some (.ref a8))
    (GB : FnOk P w K mg base CX0 12 a9 d9 ["d", "e"] (spJoin false 11)) (bB : Binds K d9 ["d", "e"] []) (kB : PySem.W.keepIn K (.ref a9) = true) (mB : mg "both" = some (.ref a9))
    (GE : FnOk P w K mg base CX0 12 b1 c1 ["d", "e"] (spJoin true 11)) (bE : Binds K c1 ["d", "e"] []) (kE : PySem.W.keepIn K (.ref b1) = true) (mE : mg "either" = some (.ref b1))
    (GK : FnOk P w K mg base CX0 2 b2 c2 ["tape", "many"] spTake) (bK : Binds K c2 ["tape", "many"] []) (kK : PySem.W.keepIn K (.ref b2) = true) (mK : mg "_law_take" = some (.ref b2))
    (GX : FnOk P w K mg base CX0 1 b3 c3 ["configuration"] (spDat K)) (bX : Binds K c3 ["configuration"] []) (kX : PySem.W.keepIn K (.ref b3) = true) (mX : mg "diagram_at" = some (.ref b3))
    (GW : FnOk P w K mg base CX0 1 b4 c4 ["i"] spSwitch) (bW : Binds K c4 ["i"] []) (kW : PySem.W.keepIn K (.ref b4) = true) (mW : mg "switch" = some (.ref b4))
    (ml : mg "len" = none) (mr : mg "range" = none) : FnOk P w K mg base CX0 16 f fd ["script"] (spLaw K) := by
  refine F.ok scLaw (fun vs H Q E h => ?_) (fun cdv A outer s H vs Q E hr h => ?_)
  · obtain ⟨a, ns, rfl, _⟩ := h
    rfl
  obtain ⟨a, ns, rfl, hS, q⟩ := h
  have r1 := hr.mono (show 1 ≤ 15 by decide)
  have r2 := hr.mono (show 2 ≤ 15 by decide)
  have r3 := hr.mono (show 3 ≤ 15 by decide)
  have r6 := hr.mono (show 6 ≤ 15 by decide)
  have r8 := hr.mono (show 8 ≤ 15 by decide)
  have r12 := hr.mono (show 12 ≤ 15 by decide)
  have r13 := hr.mono (show 13 ≤ 15 by decide)
  have scn := scLaw.nd
  refine ⟨_, pss_cons (ps_set (i := 1) scn rfl (.inr rfl) (pe_call GT r1 rfl mT kT bT .nil pass0 (pa_cons (pv 0) (pa_cons pe_int pa_nil))))
    (pss_cons (ps_set (i := 2) scn rfl (.inr rfl) (pe_call GS r3 rfl mS kS bS .nil pass0 (pa_cons (pv 1) pa_nil)))
    (pss_cons (ps_set (i := 3) scn rfl (.inl rfl) (pe_callB call_len_seq (by rfl) ml PySem.boot_len (pa_cons (pv 2) pa_nil)))
    (pss_cons (ps_set (i := 4) scn rfl (.inr rfl) (pe_ix ix_tup (pe_call GF r13 rfl mF kF bF .nil pass0 (pa_cons (pv 1) (pa_cons (pv 2) pa_nil))) pe_int (fun _ _ => rfl)))
    (pss_cons (ps_set (i := 5) scn rfl (.inr rfl) (pe_ix ix_tup (pe_call GF r13 rfl mF kF bF .nil pass0 (pa_cons (pv 1) (pa_cons (pv 2) pa_nil))) pe_int (fun _ _ => rfl)))
    (pss_cons (ps_set (i := 6) scn rfl (.inl rfl) (pe_call GA r1 rfl mA kA bA .nil pass0 (pa_cons (pv 3) pa_nil)))
    (C8.pss_cut (ps_set (i := 7) scn rfl (.inr rfl) (pe_lc (own := [("row", 16)]) (g := gName 16) (by rfl) scn (pi_list (pv 6)) (blkOk_by (own := [("row", 16)]) (N := NL) (sc := defScope sLaw) (by decide +kernel)) (fun _ _ _ _ _ => pg_name (i := 16) scn rfl (Or.inl rfl)) (fun _ _ _ _ _ => pts_nil)
      (fun _ _ _ _ _ => pe_call GU hr rfl mU kU bU .nil pass0 (pa_cons (pv 2) (pa_cons (pv 4) (pa_cons (pv 16) pa_nil))))))
    (C8.pss_cut (ps_set (i := 8) scn rfl (.inr rfl) (pe_lc (own := [("row", 16)]) (g := gName 16) (by rfl) scn (pi_list (pv 6)) (blkOk_by (own := [("row", 16)]) (N := NL) (sc := defScope sLaw) (by decide +kernel)) (fun _ _ _ _ _ => pg_name (i := 16) scn rfl (Or.inl rfl)) (fun _ _ _ _ _ => pts_nil)
      (fun _ _ _ _ _ => pe_call GU hr rfl mU kU bU .nil pass0 (pa_cons (pv 2) (pa_cons (pv 5) (pa_cons (pv 16) pa_nil))))))
    (pss_cons (ps_set (i := 9) scn rfl (.inl rfl) (pe_call GD r3 rfl mD kD bD .nil pass0 (pa_cons (pv 2) (pa_cons (pv 4) pa_nil))))
    (pss_cons (ps_set (i := 10) scn rfl (.inl rfl) (pe_call GD r3 rfl mD kD bD .nil pass0 (pa_cons (pv 2) (pa_cons (pv 5) pa_nil))))
    (C8.pss_cut (ps_if (PW.pt (pw_or (pt_not (pt_val (pe_call GL r8 rfl mL kL bL .nil pass0 (pa_cons (pv 9) (pa_cons (pv 7) (pa_cons (pv 3) pa_nil))))))
      (pw_or (pt_not (pt_val (pe_call GL r8 rfl mL kL bL .nil pass0 (pa_cons (pv 10) (pa_cons (pv 8) (pa_cons (pv 3) pa_nil))))))
      (pw_or1 (pt_not (pt_val (pe_call GL r8 rfl mL kL bL .nil pass0 (pa_cons (pe_call GN r6 rfl mN kN bN .nil pass0 (pa_cons (pv 9) pa_nil))
        (pa_cons (pe_lc (own := [("bit", 17)]) (g := gName 17) (by rfl) scn (pi_list (pv 7)) (blkOk_by (own := [("bit", 17)]) (N := NL) (sc := defScope sLaw) (by decide +kernel)) (fun _ _ _ _ _ => pg_name (i := 17) scn rfl (Or.inl rfl)) (fun _ _ _ _ _ => pts_nil)
          (fun _ _ _ _ _ => pe_not (pv 17))) (pa_cons (pv 3) pa_nil)))))))))) (pss_one (ps_ret pe_bl)) pss_nil)
    (C8.pss_cut (ps_if (pt_not (pt_val (pe_call GL r8 rfl mL kL bL .nil pass0 (pa_cons (pe_call GB r12 rfl mB kB bB .nil pass0 (pa_cons (pv 9) (pa_cons (pv 10) pa_nil)))
        (pa_cons (pe_lc (own := [("k", 11)]) (g := gName 11) (by rfl) scn (pi_range1 rfl mr (pa_cons (pe_callB call_len_seq (by rfl) ml PySem.boot_len (pa_cons (pv 6) pa_nil)) pa_nil)) (blkOk_by (own := [("k", 11)]) (N := NL) (sc := defScope sLaw) (by decide +kernel)) (fun _ _ _ _ _ => pg_name (i := 11) scn rfl (Or.inl rfl)) (fun _ _ _ _ _ => pts_nil)
          (fun _ _ _ _ _ => pe_and (pe_ix (r := rIxL K) ix_list (pv 7) (pv 11) (fun _ _ => rfl)) (pe_one (pe_ix (r := rIxL K) ix_list (pv 8) (pv 11) (fun _ _ => rfl))))) (pa_cons (pv 3) pa_nil)))))) (pss_one (ps_ret pe_bl)) pss_nil)
    (C8.pss_cut (ps_if (pt_not (pt_val (pe_call GL r8 rfl mL kL bL .nil pass0 (pa_cons (pe_call GE r12 rfl mE kE bE .nil pass0 (pa_cons (pv 9) (pa_cons (pv 10) pa_nil)))
        (pa_cons (pe_lc (own := [("k", 11)]) (g := gName 11) (by rfl) scn (pi_range1 rfl mr (pa_cons (pe_callB call_len_seq (by rfl) ml PySem.boot_len (pa_cons (pv 6) pa_nil)) pa_nil)) (blkOk_by (own := [("k", 11)]) (N := NL) (sc := defScope sLaw) (by decide +kernel)) (fun _ _ _ _ _ => pg_name (i := 11) scn rfl (Or.inl rfl)) (fun _ _ _ _ _ => pts_nil)
          (fun _ _ _ _ _ => pe_or (pe_ix (r := rIxL K) ix_list (pv 7) (pv 11) (fun _ _ => rfl)) (pe_one (pe_ix (r := rIxL K) ix_list (pv 8) (pv 11) (fun _ _ => rfl))))) (pa_cons (pv 3) pa_nil)))))) (pss_one (ps_ret pe_bl)) pss_nil)
    (pss_cons (ps_set (i := 12) scn rfl (.inr rfl) (pe_call GK r2 rfl mK kK bK .nil pass0 (pa_cons (pv 1) (pa_cons (pe_callB call_len_seq (by rfl) ml PySem.boot_len (pa_cons (pv 6) pa_nil)) pa_nil))))
    (pss_cons (ps_set (i := 13) scn rfl (.inr rfl) (pe_call GK r2 rfl mK kK bK .nil pass0 (pa_cons (pv 1) (pa_cons (pv 3) pa_nil))))
    (C8.pss_cut (ps_if (pt_not (pt_val (pe_call GL r8 rfl mL kL bL .nil pass0 (pa_cons (pe_call GX r1 rfl mX kX bX .nil pass0 (pa_cons (pe_ix ix_list (pv 6) (pv 12) (fun _ _ => rfl)) pa_nil))
        (pa_cons (pe_lc (own := [("k", 11)]) (g := gName 11) (by rfl) scn (pi_range1 rfl mr (pa_cons (pe_callB call_len_seq (by rfl) ml PySem.boot_len (pa_cons (pv 6) pa_nil)) pa_nil)) (blkOk_by (own := [("k", 11)]) (N := NL) (sc := defScope sLaw) (by decide +kernel)) (fun _ _ _ _ _ => pg_name (i := 11) scn rfl (Or.inl rfl)) (fun _ _ _ _ _ => pts_nil)
          (fun _ _ _ _ _ => pe_cmpR op_eq (pv 11) (pv 12) (nomark _))) (pa_cons (pv 3) pa_nil)))))) (pss_one (ps_ret pe_bl)) pss_nil)
    (C8.pss_cut (ps_if (pt_not (pt_val (pe_call GL r8 rfl mL kL bL .nil pass0 (pa_cons (pe_call GW r1 rfl mW kW bW .nil pass0 (pa_cons (pv 13) pa_nil))
        (pa_cons (pe_lc (own := [("row", 16)]) (g := gName 16) (by rfl) scn (pi_list (pv 6)) (blkOk_by (own := [("row", 16)]) (N := NL) (sc := defScope sLaw) (by decide +kernel)) (fun _ _ _ _ _ => pg_name (i := 16) scn rfl (Or.inl rfl)) (fun _ _ _ _ _ => pts_nil)
          (fun _ _ _ _ _ => pe_cmpR op_eq (pe_ix (r := rIxT K) ix_tup (pv 16) (pv 13) (fun _ _ => rfl)) pe_int (nomark _))) (pa_cons (pv 3) pa_nil)))))) (pss_one (ps_ret pe_bl)) pss_nil)
    (C8.pss_cut (ps_setLc (i := 14) (own := [("row", 16)]) (g := gName 16) (by rfl) scn rfl rfl (sw_true rfl rfl rfl (by decide +kernel)) (pi_list (pv 6)) (blkOk_by (own := [("row", 16)]) (N := NL) (sc := defScope sLaw) (by decide +kernel)) (fun _ _ _ _ _ => pg_name (i := 16) scn rfl (Or.inl rfl)) (fun _ _ _ _ _ => pts_nil)
      (fun _ _ _ _ _ => pe_cmpR op_eq (pe_call GK r2 rfl mK kK bK .nil pass0 (pa_cons (pv 1) (pa_cons pe_int pa_nil))) pe_int (nomark _)))
    (pss_cons (ps_set (i := 15) scn rfl (.inl rfl) pe_bl)
    (pss_cons (ps_for PassesOwn.never rfl (pi_range1 rfl mr (pa_cons (pe_callB call_len_seq (by rfl) ml PySem.boot_len (pa_cons (pv 6) pa_nil)) pa_nil)) (pg_name (i := 11) scn rfl (.inl rfl))
      (pss_one (ps_if (pt_val (pe_ix ix_list (pv 14) (pv 11) (fun _ _ => rfl))) (pss_one (ps_set (i := 15) scn rfl (.inl rfl) (pe_call GE r12 rfl mE kE bE .nil pass0 (pa_cons (pv 15) (pa_cons (pe_call GX r1 rfl mX kX bX .nil pass0 (pa_cons (pe_ix ix_list (pv 6) (pv 11) (fun _ _ => rfl)) pa_nil)) pa_nil))))) pss_nil)))
    (pss_one (ps_ret (pe_call GL r8 rfl mL kL bL .nil pass0 (pa_cons (pv 15) (pa_cons (pv 14) (pa_cons (pv 3) pa_nil))))))))))))))))))))))))), ?_⟩
  refine ⟨_, rfl, a, ns, 0, rfl, hS, fun t l H1 _ _ g1 hT1 => ?_⟩
  refine ⟨_, rfl, t, l, rfl, hT1, fun ps H2 sw hw hs2 g2 hT2 => ?_⟩
  obtain ⟨w1, w5⟩ := sws_len hw
  have names := sws_names hw
  refine ⟨_, rfl, ps, _, rfl, .inr hs2.sq, ?_⟩
  rw [List.length_map]
  refine ⟨_, rfl, _, rfl, t, l, ps, sw, rfl, hT2, hs2, hw, fun v3 H3 hv3 g3 hT3 => ?_⟩
  obtain ⟨p3, vf, fm, txt, rfl, e3, df, rf⟩ := hv3
  refine ⟨p3, _, _, _, rfl, rfl, SqT.of e3, at_of (j := 0) (v := vf) rfl rfl, ?_⟩
  have hs3 := hs2.but g3 hT2
  refine ⟨_, rfl, _, rfl, t, l, ps, sw, rfl, hT3, hs3, hw, fun v4 H4 hv4 g4 hT4 => ?_⟩
  obtain ⟨p4, vg, gm, txg, rfl, e4, dg, rg⟩ := hv4
  refine ⟨p4, _, _, _, rfl, rfl, SqT.of e4, at_of (j := 0) (v := vg) rfl rfl, ?_⟩
  have hs4 := hs3.but g4 hT3
  have df4 := Dv.keep (g4.keepT hT3) _ _ df
  generalize hn : sw.length = n at w1 w5
  have p32 := pow32 w5
  have pone : 1 ≤ 2 ^ n := Nat.one_le_two_pow
  refine ⟨_, rfl, n, rfl, w5, fun pr rs H5 np g5 er dr => ?_⟩
  have lr : rs.length = 2 ^ n := by rw [dr.length, List.length_map, confs_len]
  have hT5 := hT4.same g5
  have hs5 := hs4.same g5
  have df5 := Dv.keep (KeepT.of g5) _ _ df4
  have dg5 := Dv.keep (KeepT.of g5) _ _ dg
  have row : ∀ {H' : Hp} {i : Nat}, KeepT H5 H' → i < 2 ^ n → ∃ (r : List Int) (b : Addr), (confs n)[i]? = some r ∧ rs[i]? = some (.ref b) ∧ r ∈ confs n ∧ r.length = n ∧ SqT K H' b (r.map V.int) := fun {H' i} kt hi => by
    have hi' : i < (confs n).length := by rw [confs_len]; exact hi
    have e1 : (confs n)[i]? = some (confs n)[i] := List.getElem?_eq_getElem hi'
    obtain ⟨x, e2, e3⟩ := DvAll.get dr (show ((confs n).map confD)[i]? = some (confD (confs n)[i]) by rw [List.getElem?_map, e1]; rfl)
    obtain ⟨b, rfl, hb⟩ := Dv.conf (K := K) (Dv.keep kt _ _ e3)
    exact ⟨_, b, e1, e2, List.mem_of_getElem? e1, (confs_row n _ (List.mem_of_getElem? e1)).1, hb⟩
  have small : ∀ {α : Type} (i : Nat) (G : List Int → α), (((confs n).take i).map G).length < sizeLine := fun i G => by
    rw [List.length_map, List.length_take, confs_len]
    exact Nat.lt_of_le_of_lt (Nat.le_trans (Nat.min_le_right _ _) p32) (by decide)
  have full : ∀ {α : Type} (G : List Int → α), ((confs n).take (2 ^ n)).map G = (confs n).map G := fun G => by rw [← confs_len n, List.take_length]
  have prt : pr ≠ t := hT4.nt np
  have boundG : ∀ {i : Nat} {G : List Int → V}, (((confs n).take i).map G).length < sizeLine := fun {i G} => small i G
  -- first, second: the truths of the two formulas
  have truths : ∀ {X : Cx} {v : V} {fo : Fm} {σ0 : St} {H6 : Hp} {D : Addr} {Qd : Hp → Prop} {j : Nat}, j = j → Same H5 H6 → H6 D = none → True := fun _ _ _ => trivial
  refine ⟨fun σ' H' => ∃ p7 : Addr, σ' = [some (.ref a), some (.ref t), some (.ref ps), some (.int n), some vf, some vg, some (.ref pr), some (.ref p7), none, none, none, none, none, none, none, none, none, none] ∧ H5 p7 = none ∧ Same H5 H' ∧ H' p7 = some (.lst ((confs n).map fun c => V.bl (ev sw c fm))), ?_, ?_⟩
  · refine ⟨_, rfl, pr, rfl, ⟨_, SqL.of er⟩, fun D hD => ?_⟩
    refine lc_list (xs := rs) (fun i H' => Same H5 H' ∧ H' D = some (.lst (((confs n).take i).map fun c => V.bl (ev sw c fm)))) ?_ ?_ ?_ ?_
    · exact ⟨same_new hD _, upd_same⟩
    · rintro i H' _ ⟨k1, _⟩
      exact SqL.of (k1 _ _ er)
    · rintro i x H6 hx ⟨k1, k2⟩
      have hi : i < 2 ^ n := by rw [← lr]; exact (List.getElem?_eq_some_iff.mp hx).1
      obtain ⟨r, b, r1', r2', r3', r4', r5'⟩ := row (KeepT.of k1) hi
      rw [hx] at r2'
      cases r2'
      refine ⟨rfl, _, rfl, _, rfl, _, rfl, ps, sw, vf, fm, b, r, rfl, ⟨hs5.same k1, Dv.keep (KeepT.of k1) _ _ df5, rf.over, r5', by rw [r4', hn]⟩, rf.dep, _, k2, boundG, same_put k1 hD, ?_⟩
      rw [upd_same, takeG r1']
    · rintro H6 ⟨k1, k2⟩
      rw [lr, full] at k2
      exact ⟨D, rfl, hD, k1, k2⟩
  rintro σ H6 ⟨p7, rfl, n7, g6, e7⟩
  refine ⟨fun σ' H' => ∃ p8 : Addr, σ' = [some (.ref a), some (.ref t), some (.ref ps), some (.int n), some vf, some vg, some (.ref pr), some (.ref p7), some (.ref p8), none, none, none, none, none, none, none, none, none] ∧ H6 p8 = none ∧ Same H6 H' ∧ H' p8 = some (.lst ((confs n).map fun c => V.bl (ev sw c gm))), ?_, ?_⟩
  · refine ⟨_, rfl, pr, rfl, ⟨_, SqL.of (g6 _ _ er)⟩, fun D hD => ?_⟩
    refine lc_list (xs := rs) (fun i H' => Same H6 H' ∧ H' D = some (.lst (((confs n).take i).map fun c => V.bl (ev sw c gm)))) ?_ ?_ ?_ ?_
    · exact ⟨same_new hD _, upd_same⟩
    · rintro i H' _ ⟨k1, _⟩
      exact SqL.of (k1 _ _ (g6 _ _ er))
    · rintro i x H7 hx ⟨k1, k2⟩
      have hi : i < 2 ^ n := by rw [← lr]; exact (List.getElem?_eq_some_iff.mp hx).1
      obtain ⟨r, b, r1', r2', r3', r4', r5'⟩ := row (KeepT.of (g6.trans k1)) hi
      rw [hx] at r2'
      cases r2'
      refine ⟨rfl, _, rfl, _, rfl, _, rfl, ps, sw, vg, gm, b, r, rfl, ⟨hs5.same (g6.trans k1), Dv.keep (KeepT.of (g6.trans k1)) _ _ dg5, rg.over, r5', by rw [r4', hn]⟩, rg.dep, _, k2, boundG, same_put k1 hD, ?_⟩
      rw [upd_same, takeG r1']
    · rintro H7 ⟨k1, k2⟩
      rw [lr, full] at k2
      exact ⟨D, rfl, hD, k1, k2⟩
  rintro σ H7 ⟨p8, rfl, n8, g7, e8⟩
  have g57 := g6.trans g7
  have size5 : ∀ {f : Fm} {tx : Str}, Drawn sw (TE sw) 60 15 1457 f tx → f.size ≤ 100000 := fun h => Nat.le_trans h.size (by decide)
  refine ⟨_, rfl, _, rfl, ps, sw, vf, fm, rfl, hs5.same g57, Dv.keep (KeepT.of g57) _ _ df5, rf.over, by omega, size5 rf, fun vd H8 g8 hd8 => ?_⟩
  have g58 := g57.trans g8
  refine ⟨_, rfl, _, rfl, ps, sw, vg, gm, rfl, hs5.same g58, Dv.keep (KeepT.of g58) _ _ dg5, rg.over, by omega, size5 rg, fun ve H9 g9 he9 => ?_⟩
  rw [hn] at hd8 he9
  have g59 := g58.trans g9
  have hd9 := Dv.keep (KeepT.of g9) _ _ hd8
  have fitd : Dg.Fit n 0 (Dg.mk n ((confs n).map fun c => ev sw c fm) 0) := by have := Dg.mk_fit n ((confs n).map fun c => ev sw c fm) 0; rwa [Nat.zero_add] at this
  have fite : Dg.Fit n 0 (Dg.mk n ((confs n).map fun c => ev sw c gm) 0) := by have := Dg.mk_fit n ((confs n).map fun c => ev sw c gm) 0; rwa [Nat.zero_add] at this
  have b7 := (g7.trans g8).trans g9 _ _ e7
  have b8 := g8.trans g9 _ _ e8
  rw [holdsL_of (fun c hc => (Dg.mk_hold n (fun c => ev sw c fm) c hc).symm)] at b7
  rw [holdsL_of (fun c hc => (Dg.mk_hold n (fun c => ev sw c gm) c hc).symm)] at b8
  generalize Dg.mk n ((confs n).map fun c => ev sw c fm) 0 = dd at hd9 fitd b7
  generalize Dg.mk n ((confs n).map fun c => ev sw c gm) 0 = ee at he9 fite b8
  have htd := Dg.ht5 fitd
  have hte := Dg.ht5 fite
  have p7t : p7 ≠ t := hT5.nt n7
  have p8t : p8 ≠ t := (hT5.same g6).nt n8
  have LN : ∀ d : Dg, (holdsL n d).length = 2 ^ n := fun d => by unfold holdsL; rw [List.length_map, List.length_map, confs_len]
  -- what stays from here on
  have stay : ∀ {H' H'' : Hp}, (H' pr = some (.lst rs) ∧ KeepT H5 H' ∧ H' p7 = some (.lst (holdsL n dd)) ∧ H' p8 = some (.lst (holdsL n ee)) ∧ Dv H' vd dd.toD ∧ Dv H' ve ee.toD ∧ Tape H' t l) → Same H' H'' →
      (H'' pr = some (.lst rs) ∧ KeepT H5 H'' ∧ H'' p7 = some (.lst (holdsL n dd)) ∧ H'' p8 = some (.lst (holdsL n ee)) ∧ Dv H'' vd dd.toD ∧ Dv H'' ve ee.toD ∧ Tape H'' t l) := fun {H' H''} ⟨x1, x2, x3, x4, x5, x6, x7⟩ g =>
    ⟨g _ _ x1, fun a us h => g _ _ (x2 _ _ h), g _ _ x3, g _ _ x4, Dv.keep (KeepT.of g) _ _ x5, Dv.keep (KeepT.of g) _ _ x6, x7.same g⟩
  have stayB : ∀ {H' H'' : Hp}, (H' pr = some (.lst rs) ∧ KeepT H5 H' ∧ H' p7 = some (.lst (holdsL n dd)) ∧ H' p8 = some (.lst (holdsL n ee)) ∧ Dv H' vd dd.toD ∧ Dv H' ve ee.toD ∧ Tape H' t l) → But t H' H'' → Tape H'' t l →
      (H'' pr = some (.lst rs) ∧ KeepT H5 H'' ∧ H'' p7 = some (.lst (holdsL n dd)) ∧ H'' p8 = some (.lst (holdsL n ee)) ∧ Dv H'' vd dd.toD ∧ Dv H'' ve ee.toD ∧ Tape H'' t l) := fun {H' H''} ⟨x1, x2, x3, x4, x5, x6, x7⟩ g T =>
    ⟨g _ _ prt x1, fun a us h => g.keepT x7 _ _ (x2 _ _ h), g _ _ p7t x3, g _ _ p8t x4, Dv.keep (g.keepT x7) _ _ x5, Dv.keep (g.keepT x7) _ _ x6, T⟩
  have F9 : H9 pr = some (.lst rs) ∧ KeepT H5 H9 ∧ H9 p7 = some (.lst (holdsL n dd)) ∧ H9 p8 = some (.lst (holdsL n ee)) ∧ Dv H9 vd dd.toD ∧ Dv H9 ve ee.toD ∧ Tape H9 t l := ⟨g59 _ _ er, KeepT.of g59, b7, b8, hd9, he9, hT5.same g59⟩
  -- the first test: d, e, negated(d)
  refine ⟨fun σ' H' => σ' = [some (.ref a), some (.ref t), some (.ref ps), some (.int n), some vf, some vg, some (.ref pr), some (.ref p7), some (.ref p8), some vd, some ve, none, none, none, none, none, none, none] ∧
      (H' pr = some (.lst rs) ∧ KeepT H5 H' ∧ H' p7 = some (.lst (holdsL n dd)) ∧ H' p8 = some (.lst (holdsL n ee)) ∧ Dv H' vd dd.toD ∧ Dv H' ve ee.toD ∧ Tape H' t l), ?_, ?_⟩
  · refine ⟨_, rfl, _, rfl, _, rfl, vd, p7, n, dd, rfl, hd9, fitd, w5, b7, fun H10 g10 => ⟨_, rfl, iteF ?_⟩⟩
    have F10 := stay F9 g10
    refine ⟨_, rfl, _, rfl, _, rfl, ve, p8, n, ee, rfl, F10.2.2.2.2.2.1, fite, w5, F10.2.2.2.1, fun H11 g11 => ⟨_, rfl, iteF ?_⟩⟩
    have F11 := stay F10 g11
    refine ⟨_, rfl, vd, dd, rfl, F11.2.2.2.2.1, by omega, fun vn H12 g12' hvn => ?_⟩
    have F12 := stay F11 g12'
    refine ⟨_, rfl, p7, rfl, ⟨_, SqL.of F12.2.2.1⟩, fun D hD => ?_⟩
    refine lc_list (xs := holdsL n dd) (fun i H' => Same H12 H' ∧ H' D = some (.lst (((confs n).take i).map fun c => V.bl (!dd.hold 0 c)))) ?_ ?_ ?_ ?_
    · exact ⟨same_new hD _, upd_same⟩
    · rintro i H' _ ⟨k1, _⟩
      exact SqL.of (k1 _ _ F12.2.2.1)
    · rintro i x H13 hx ⟨k1, k2⟩
      have hi : i < 2 ^ n := by rw [← LN dd]; exact (List.getElem?_eq_some_iff.mp hx).1
      obtain ⟨r, b, r1', _⟩ := row (KeepT.of (Same.refl H5)) hi
      rw [bits_get r1'] at hx
      cases hx
      refine ⟨rfl, _, rfl, _, rfl, _, k2, boundG, same_put k1 hD, ?_⟩
      rw [upd_same, takeG r1']
    · rintro H13 ⟨k1, k2⟩
      rw [LN, full, holdsL_of (fun c _ => (Dg.neg_hold 0 c dd).symm)] at k2
      have F13 := stay F12 k1
      refine ⟨_, rfl, vn, D, n, dd.neg, rfl, Dv.keep (KeepT.of k1) _ _ hvn, Dg.neg_fit fitd, w5, k2, fun H14 g14 => ⟨_, rfl, iteF ?_⟩⟩
      exact ⟨rfl, stay F13 g14⟩
  rintro σ H10 ⟨rfl, F10⟩
  refine ⟨fun σ' H' => σ' = [some (.ref a), some (.ref t), some (.ref ps), some (.int n), some vf, some vg, some (.ref pr), some (.ref p7), some (.ref p8), some vd, some ve, none, none, none, none, none, none, none] ∧
      (H' pr = some (.lst rs) ∧ KeepT H5 H' ∧ H' p7 = some (.lst (holdsL n dd)) ∧ H' p8 = some (.lst (holdsL n ee)) ∧ Dv H' vd dd.toD ∧ Dv H' ve ee.toD ∧ Tape H' t l), ?_, ?_⟩
  · refine ⟨_, rfl, _, rfl, vd, ve, dd, ee, 0, rfl, F10.2.2.2.2.1, F10.2.2.2.2.2.1, fitd.mono (by omega) (Nat.le_refl _), fite.mono (by omega) (Nat.le_refl _), by omega, fun vj H11 g11 hvj => ?_⟩
    have F11 := stay F10 g11
    refine ⟨_, rfl, pr, _, rfl, .inl (SqL.of F11.1), _, rfl, by omega, by omega, fun D hD => ?_⟩
    rw [show (((rs.length : Nat) : Int)).toNat = 2 ^ n by omega]
    refine lc_range (lo := 0) (n := 2 ^ n) (fun i H' => Same H11 H' ∧ H' D = some (.lst (((confs n).take i).map fun c => V.bl (dd.hold 0 c && ee.hold 0 c)))) ?_ ?_ ?_
    · exact ⟨same_new hD _, upd_same⟩
    · rintro i H12 hi ⟨k1, k2⟩
      obtain ⟨r, b, r1', _⟩ := row (KeepT.of (Same.refl H5)) hi
      have ei : (0 : Int) + (i : Nat) = ((i : Nat) : Int) := by omega
      rw [ei]
      have nx : Same H11 (upd H12 D (.lst ((((confs n).take i).map fun c => V.bl (dd.hold 0 c && ee.hold 0 c)) ++ [V.bl (dd.hold 0 r && ee.hold 0 r)]))) ∧ (upd H12 D (.lst ((((confs n).take i).map fun c => V.bl (dd.hold 0 c && ee.hold 0 c)) ++ [V.bl (dd.hold 0 r && ee.hold 0 r)]))) D = some (.lst (((confs n).take (i + 1)).map fun c => V.bl (dd.hold 0 c && ee.hold 0 c))) :=
        ⟨same_put k1 hD, by rw [upd_same, takeG r1']⟩
      refine ⟨rfl, _, rfl, _, rfl, p7, _, _, _, rfl, rfl, SqL.of (k1 _ _ F11.2.2.1), at_of rfl (bits_get r1'), _, rfl, ite2 (fun z => ?_) (fun z => ?_)⟩
      · rw [show (dd.hold 0 r && ee.hold 0 r) = ee.hold 0 r by rw [z]; rfl] at nx
        exact ⟨_, rfl, _, rfl, p8, _, _, _, rfl, rfl, SqL.of (k1 _ _ F11.2.2.2.1), at_of rfl (bits_get r1'), _, k2, boundG, nx⟩
      · rw [show (dd.hold 0 r && ee.hold 0 r) = false by rw [Bool.eq_false_iff.mpr z]; rfl] at nx
        exact ⟨_, k2, boundG, nx⟩
    · rintro H12 ⟨k1, k2⟩
      rw [full, holdsL_of (n := n) (d := Dg.join false 11 dd ee) (G := fun c => dd.hold 0 c && ee.hold 0 c) (fun c _ => (Dg.join_hold false 0 c 11 dd ee (by omega)).symm)] at k2
      have F12 := stay F11 k1
      refine ⟨_, rfl, vj, D, n, Dg.join false 11 dd ee, rfl, Dv.keep (KeepT.of k1) _ _ hvj, Dg.join_fit false 11 fitd fite, w5, k2, fun H13 g13 => ⟨_, rfl, iteF ?_⟩⟩
      exact ⟨rfl, stay F12 g13⟩
  clear F10
  rintro σ H10 ⟨rfl, F10⟩
  refine ⟨fun σ' H' => σ' = [some (.ref a), some (.ref t), some (.ref ps), some (.int n), some vf, some vg, some (.ref pr), some (.ref p7), some (.ref p8), some vd, some ve, none, none, none, none, none, none, none] ∧
      (H' pr = some (.lst rs) ∧ KeepT H5 H' ∧ H' p7 = some (.lst (holdsL n dd)) ∧ H' p8 = some (.lst (holdsL n ee)) ∧ Dv H' vd dd.toD ∧ Dv H' ve ee.toD ∧ Tape H' t l), ?_, ?_⟩
  · refine ⟨_, rfl, _, rfl, vd, ve, dd, ee, 0, rfl, F10.2.2.2.2.1, F10.2.2.2.2.2.1, fitd.mono (by omega) (Nat.le_refl _), fite.mono (by omega) (Nat.le_refl _), by omega, fun vj H11 g11 hvj => ?_⟩
    have F11 := stay F10 g11
    refine ⟨_, rfl, pr, _, rfl, .inl (SqL.of F11.1), _, rfl, by omega, by omega, fun D hD => ?_⟩
    rw [show (((rs.length : Nat) : Int)).toNat = 2 ^ n by omega]
    refine lc_range (lo := 0) (n := 2 ^ n) (fun i H' => Same H11 H' ∧ H' D = some (.lst (((confs n).take i).map fun c => V.bl (dd.hold 0 c || ee.hold 0 c)))) ?_ ?_ ?_
    · exact ⟨same_new hD _, upd_same⟩
    · rintro i H12 hi ⟨k1, k2⟩
      obtain ⟨r, b, r1', _⟩ := row (KeepT.of (Same.refl H5)) hi
      have ei : (0 : Int) + (i : Nat) = ((i : Nat) : Int) := by omega
      rw [ei]
      have nx : Same H11 (upd H12 D (.lst ((((confs n).take i).map fun c => V.bl (dd.hold 0 c || ee.hold 0 c)) ++ [V.bl (dd.hold 0 r || ee.hold 0 r)]))) ∧ (upd H12 D (.lst ((((confs n).take i).map fun c => V.bl (dd.hold 0 c || ee.hold 0 c)) ++ [V.bl (dd.hold 0 r || ee.hold 0 r)]))) D = some (.lst (((confs n).take (i + 1)).map fun c => V.bl (dd.hold 0 c || ee.hold 0 c))) :=
        ⟨same_put k1 hD, by rw [upd_same, takeG r1']⟩
      refine ⟨rfl, _, rfl, _, rfl, p7, _, _, _, rfl, rfl, SqL.of (k1 _ _ F11.2.2.1), at_of rfl (bits_get r1'), _, rfl, ite2 (fun z => ?_) (fun z => ?_)⟩
      · rw [show (dd.hold 0 r || ee.hold 0 r) = true by rw [z]; rfl] at nx
        exact ⟨_, k2, boundG, nx⟩
      · rw [show (dd.hold 0 r || ee.hold 0 r) = ee.hold 0 r by rw [Bool.eq_false_iff.mpr z]; rfl] at nx
        exact ⟨_, rfl, _, rfl, p8, _, _, _, rfl, rfl, SqL.of (k1 _ _ F11.2.2.2.1), at_of rfl (bits_get r1'), _, k2, boundG, nx⟩
    · rintro H12 ⟨k1, k2⟩
      rw [full, holdsL_of (n := n) (d := Dg.join true 11 dd ee) (G := fun c => dd.hold 0 c || ee.hold 0 c) (fun c _ => (Dg.join_hold true 0 c 11 dd ee (by omega)).symm)] at k2
      have F12 := stay F11 k1
      refine ⟨_, rfl, vj, D, n, Dg.join true 11 dd ee, rfl, Dv.keep (KeepT.of k1) _ _ hvj, Dg.join_fit true 11 fitd fite, w5, k2, fun H13 g13 => ⟨_, rfl, iteF ?_⟩⟩
      exact ⟨rfl, stay F12 g13⟩
  clear F10
  rintro σ H10 ⟨rfl, F10⟩
  refine ⟨_, rfl, _, rfl, pr, _, rfl, .inl (SqL.of F10.1), t, l, _, rfl, F10.2.2.2.2.2.2, by omega, by omega, fun at_ H11 at0 at1 g11 hT11 => ?_⟩
  have F11 := stayB F10 g11 hT11
  refine ⟨_, rfl, _, rfl, t, l, _, rfl, F11.2.2.2.2.2.2, by omega, by omega, fun ix H12 i0 i1 g12' hT12 => ?_⟩
  have F12 := stayB F11 g12' hT12
  rw [lr] at at1
  obtain ⟨ra, ba, ra1, ra2, ra3, ra4, ra5⟩ := row F12.2.1 (show at_.toNat < 2 ^ n by omega)
  have hra := confs_row n ra ra3
  refine ⟨fun σ' H' => σ' = [some (.ref a), some (.ref t), some (.ref ps), some (.int n), some vf, some vg, some (.ref pr), some (.ref p7), some (.ref p8), some vd, some ve, none, some (.int at_), some (.int ix), none, none, none, none] ∧
      (H' pr = some (.lst rs) ∧ KeepT H5 H' ∧ H' p7 = some (.lst (holdsL n dd)) ∧ H' p8 = some (.lst (holdsL n ee)) ∧ Dv H' vd dd.toD ∧ Dv H' ve ee.toD ∧ Tape H' t l), ?_, ?_⟩
  · refine ⟨_, rfl, _, rfl, pr, _, _, _, rfl, rfl, SqL.of F12.1, at_of (by omega) ra2, ba, ra, rfl, ra5, by omega, fun vx H13 g13 hvx => ?_⟩
    have F13 := stay F12 g13
    refine ⟨_, rfl, pr, _, rfl, .inl (SqL.of F13.1), _, rfl, by omega, by omega, fun D hD => ?_⟩
    rw [show (((rs.length : Nat) : Int)).toNat = 2 ^ n by omega]
    refine lc_range (lo := 0) (n := 2 ^ n) (fun i H' => Same H13 H' ∧ H' D = some (.lst (((confs n).take i).map fun c => V.bl (decide (c = ra))))) ?_ ?_ ?_
    · exact ⟨same_new hD _, upd_same⟩
    · rintro i H14 hi ⟨k1, k2⟩
      obtain ⟨r, b, r1', _, r3', _⟩ := row (KeepT.of (Same.refl H5)) hi
      have e : decide (V.int (0 + (i : Nat)) = V.int at_) = decide (r = ra) := by
        by_cases z : r = ra
        · have : i = at_.toNat := by
            rw [z] at r1'
            exact nd_ix (confs_nodup n) r1' ra1
          rw [decide_eq_true z, decide_eq_true (by rw [this]; congr 1; omega)]
        · rw [decide_eq_false z, decide_eq_false (fun y => z (by
            have y' := V.int.inj y
            have : i = at_.toNat := by omega
            rw [this, ra1] at r1'
            exact (Option.some.inj r1').symm))]
      have nx : Same H13 (upd H14 D (.lst ((((confs n).take i).map fun c => V.bl (decide (c = ra))) ++ [V.bl (decide (V.int (0 + (i : Nat)) = V.int at_))]))) ∧ (upd H14 D (.lst ((((confs n).take i).map fun c => V.bl (decide (c = ra))) ++ [V.bl (decide (V.int (0 + (i : Nat)) = V.int at_))]))) D = some (.lst (((confs n).take (i + 1)).map fun c => V.bl (decide (c = ra)))) :=
        ⟨same_put k1 hD, by rw [upd_same, takeG r1', e]⟩
      exact ⟨rfl, _, rfl, _, rfl, rfl, _, k2, boundG, nx⟩
    · rintro H14 ⟨k1, k2⟩
      have fitx : Dg.Fit n 0 (Dg.at_ 0 ra) := by have := Dg.at_fit ra 0; rwa [Nat.zero_add, ra4] at this
      rw [full, holdsL_of (n := n) (d := Dg.at_ 0 ra) (fun c hc => (Dg.at_hold ra c 0 (by rw [ra4, (confs_row n c hc).1]) hra.2 (confs_row n c hc).2).symm)] at k2
      have F14 := stay F13 k1
      refine ⟨_, rfl, vx, D, n, Dg.at_ 0 ra, rfl, Dv.keep (KeepT.of k1) _ _ hvx, fitx, w5, k2, fun H15 g15 => ⟨_, rfl, iteF ?_⟩⟩
      exact ⟨rfl, stay F14 g15⟩
  clear F12 ra5
  rintro σ H12 ⟨rfl, F12⟩
  obtain ⟨ix, rfl⟩ : ∃ k : Nat, ix = (k : Int) := ⟨ix.toNat, by omega⟩
  refine ⟨fun σ' H' => σ' = [some (.ref a), some (.ref t), some (.ref ps), some (.int n), some vf, some vg, some (.ref pr), some (.ref p7), some (.ref p8), some vd, some ve, none, some (.int at_), some (.int ix), none, none, none, none] ∧
      (H' pr = some (.lst rs) ∧ KeepT H5 H' ∧ H' p7 = some (.lst (holdsL n dd)) ∧ H' p8 = some (.lst (holdsL n ee)) ∧ Dv H' vd dd.toD ∧ Dv H' ve ee.toD ∧ Tape H' t l), ?_, ?_⟩
  · refine ⟨_, rfl, ix, rfl, fun vx H13 g13 hvx => ?_⟩
    have F13 := stay F12 g13
    refine ⟨_, rfl, pr, rfl, ⟨_, SqL.of F13.1⟩, fun D hD => ?_⟩
    have eG : ∀ c : List Int, decide (V.int (c.getD ix 0) = V.int 1) = (Dg.node ix (.leaf false) (.leaf true)).hold 0 c := fun c => by
      show _ = (if c.getD (ix - 0) 0 = 1 then true else false)
      rw [Nat.sub_zero]
      by_cases z : c.getD ix 0 = 1
      · rw [if_pos z, decide_eq_true (by rw [z])]
      · rw [if_neg z, decide_eq_false (fun y => z (V.int.inj y))]
    refine lc_list (xs := rs) (fun i H' => Same H13 H' ∧ H' D = some (.lst (((confs n).take i).map fun c => V.bl (decide (V.int (c.getD ix 0) = V.int 1))))) ?_ ?_ ?_ ?_
    · exact ⟨same_new hD _, upd_same⟩
    · rintro i H' _ ⟨k1, _⟩
      exact SqL.of (k1 _ _ F13.1)
    · rintro i x H14 hx ⟨k1, k2⟩
      have hi : i < 2 ^ n := by rw [← lr]; exact (List.getElem?_eq_some_iff.mp hx).1
      obtain ⟨r, b, r1', r2', r3', r4', r5'⟩ := row (fun a us h => k1 _ _ (F13.2.1 _ _ h)) hi
      rw [hx] at r2'
      cases r2'
      have ec : (r.map V.int)[ix]? = some (.int (r.getD ix 0)) := by
        have hi' : ix < r.length := by omega
        rw [List.getElem?_map, List.getElem?_eq_getElem hi', List.getD_eq_getElem?_getD, List.getElem?_eq_getElem hi']
        rfl
      refine ⟨rfl, _, rfl, _, rfl, b, _, _, _, rfl, rfl, r5', at_of rfl ec, rfl, _, k2, boundG, same_put k1 hD, ?_⟩
      rw [upd_same, takeG r1']
    · rintro H14 ⟨k1, k2⟩
      rw [lr, full, holdsL_of (n := n) (d := Dg.node ix (.leaf false) (.leaf true)) (fun c _ => eG c)] at k2
      have F14 := stay F13 k1
      refine ⟨_, rfl, vx, D, n, Dg.node ix (.leaf false) (.leaf true), rfl, Dv.keep (KeepT.of k1) _ _ hvx, ⟨Nat.zero_le _, by omega, (fun e => by cases e), True.intro, True.intro⟩, w5, k2, fun H15 g15 => ⟨_, rfl, iteF ?_⟩⟩
      exact ⟨rfl, stay F14 g15⟩
  clear F12
  rintro σ H12 ⟨rfl, F12⟩
  refine ⟨fun σ' H' => ∃ (p14 : Addr) (L : List Bool), L.length = 2 ^ n ∧ σ' = [some (.ref a), some (.ref t), some (.ref ps), some (.int n), some vf, some vg, some (.ref pr), some (.ref p7), some (.ref p8), some vd, some ve, none, some (.int at_), some (.int ix), some (.ref p14), none, none, none] ∧
      (H' pr = some (.lst rs) ∧ KeepT H5 H' ∧ H' p7 = some (.lst (holdsL n dd)) ∧ H' p8 = some (.lst (holdsL n ee)) ∧ Dv H' vd dd.toD ∧ Dv H' ve ee.toD ∧ Tape H' t l) ∧ H' p14 = some (.lst (L.map V.bl)), ?_, ?_⟩
  · refine ⟨_, rfl, pr, rfl, ⟨_, SqL.of F12.1⟩, fun D hD => ?_⟩
    have Dt := F12.2.2.2.2.2.2.nt hD
    have Dl := F12.2.2.2.2.2.2.nl hD
    refine lc_list (xs := rs) (fun i H' => ∃ L : List Bool, L.length = i ∧ But t H12 H' ∧ Tape H' t l ∧ H' D = some (.lst (L.map V.bl))) ?_ ?_ ?_ ?_
    · exact ⟨[], rfl, But.of (same_new hD _), F12.2.2.2.2.2.2.same (same_new hD _), upd_same⟩
    · rintro i H' _ ⟨L, _, k1, _⟩
      exact SqL.of (k1 _ _ prt F12.1)
    · rintro i x H13 hx ⟨L, k0, k1, k2, k3⟩
      have hi : i < 2 ^ n := by rw [← lr]; exact (List.getElem?_eq_some_iff.mp hx).1
      refine ⟨rfl, _, rfl, t, l, 2, rfl, k2, by decide, by decide, fun y H14 _ _ k4 k5 => ?_⟩
      refine ⟨rfl, _, k4 _ _ Dt k3, by rw [List.length_map]; exact Nat.lt_of_le_of_lt (show L.length ≤ 32 by omega) (by decide), L ++ [decide (V.int y = V.int 0)], by rw [List.length_append, k0]; rfl, (k1.trans k4).put hD, k5.put Dt Dl, ?_⟩
      rw [upd_same, List.map_append]
      rfl
    · rintro H13 ⟨L, k0, k1, k2, k3⟩
      exact ⟨D, L, by omega, rfl, stayB F12 k1 k2, k3⟩
  clear F12
  rintro σ H12 ⟨p14, L, hL, rfl, F12, b14⟩
  refine ⟨_, rfl, pr, _, rfl, .inl (SqL.of F12.1), _, rfl, by omega, by omega, ?_⟩
  rw [show (((rs.length : Nat) : Int)).toNat = 2 ^ n by omega]
  refine for_range (lo := 0) (n := 2 ^ n) (fun k σ H' => ∃ (vo : V) (o : Dg) (c11 : Option V), σ = [some (.ref a), some (.ref t), some (.ref ps), some (.int n), some vf, some vg, some (.ref pr), some (.ref p7), some (.ref p8), some vd, some ve, c11, some (.int at_), some (.int ix), some (.ref p14), some vo, none, none] ∧
      (H' pr = some (.lst rs) ∧ KeepT H5 H' ∧ H' p7 = some (.lst (holdsL n dd)) ∧ H' p8 = some (.lst (holdsL n ee)) ∧ Dv H' vd dd.toD ∧ Dv H' ve ee.toD ∧ Tape H' t l) ∧ H' p14 = some (.lst (L.map V.bl)) ∧ Dv H' vo o.toD ∧ o.Fit n 0 ∧
      ∀ j r, (confs n)[j]? = some r → o.hold 0 r = (decide (j < k) && L.getD j false)) ?_ ?_ ?_
  · exact ⟨_, .leaf false, none, rfl, F12, b14, Dv.bool, True.intro, fun j r _ => by rw [decide_eq_false (by omega)]; rfl⟩
  · rintro k σ H13 hk ⟨vo, o, c11, rfl, F13, b14', k1, k2, k3⟩
    have ei : (0 : Int) + (k : Nat) = ((k : Nat) : Int) := by omega
    rw [ei]
    have hLk : k < L.length := by omega
    have eL : (L.map V.bl)[k]? = some (.bl (L.getD k false)) := by
      rw [List.getElem?_map, List.getElem?_eq_getElem hLk, List.getD_eq_getElem?_getD, List.getElem?_eq_getElem hLk]
      rfl
    obtain ⟨r, b, r1', r2', r3', r4', r5'⟩ := row F13.2.1 hk
    have hr' := confs_row n r r3'
    have fitx : Dg.Fit n 0 (Dg.at_ 0 r) := by have := Dg.at_fit r 0; rwa [Nat.zero_add, r4'] at this
    have hto := Dg.ht5 k2
    have htx := Dg.ht5 fitx
    refine ⟨_, rfl, _, rfl, p14, _, _, _, rfl, rfl, SqL.of b14', at_of rfl eL, _, rfl, ite2 (fun z => ?_) (fun z => ?_)⟩
    · refine ⟨_, rfl, _, rfl, _, rfl, pr, _, _, _, rfl, rfl, SqL.of F13.1, at_of rfl r2', b, r, rfl, r5', by omega, fun vx H14 g14 hvx => ?_⟩
      refine ⟨vo, vx, o, Dg.at_ 0 r, 0, rfl, Dv.keep (KeepT.of g14) _ _ k1, hvx, k2.mono (by omega) (Nat.le_refl _), fitx.mono (by omega) (Nat.le_refl _), by omega, fun vj H15 g15 hvj => ?_⟩
      refine ⟨vj, Dg.join true 11 o (Dg.at_ 0 r), _, rfl, stay F13 (g14.trans g15), g15 _ _ (g14 _ _ b14'), hvj, Dg.join_fit true 11 k2 fitx, fun j c hc => ?_⟩
      have hcm := List.mem_of_getElem? hc
      rw [Dg.join_hold true 0 c 11 o (Dg.at_ 0 r) (by omega), k3 j c hc, Dg.at_hold r c 0 (by rw [r4', (confs_row n c hcm).1]) hr'.2 (confs_row n c hcm).2]
      show ((decide (j < k) && L.getD j false) || decide (c = r)) = _
      by_cases ejk : j = k
      · subst ejk
        rw [hc] at r1'
        rw [decide_eq_true (Option.some.inj r1'), decide_eq_true (show j < j + 1 by omega), z]
        simp
      · have : ¬ c = r := fun e => ejk (nd_ix (confs_nodup n) hc (e ▸ r1'))
        rw [decide_eq_false this, Bool.or_false]
        by_cases lt : j < k
        · rw [decide_eq_true lt, decide_eq_true (show j < k + 1 by omega)]
        · rw [decide_eq_false lt, decide_eq_false (show ¬ j < k + 1 by omega)]
    · refine ⟨vo, o, _, rfl, F13, b14', k1, k2, fun j c hc => ?_⟩
      rw [k3 j c hc]
      by_cases ejk : j = k
      · subst ejk
        rw [Bool.eq_false_iff.mpr z, Bool.and_false, Bool.and_false]
      · by_cases lt : j < k
        · rw [decide_eq_true lt, decide_eq_true (show j < k + 1 by omega)]
        · rw [decide_eq_false lt, decide_eq_false (show ¬ j < k + 1 by omega)]
  · rintro σ H13 ⟨vo, o, c11, rfl, F13, b14', k1, k2, k3⟩
    have eL : L.map V.bl = holdsL n o := by
      unfold holdsL
      rw [List.map_map]
      refine List.ext_getElem? fun j => ?_
      by_cases hj : j < 2 ^ n
      · have hj' : j < (confs n).length := by rw [confs_len]; exact hj
        have hc : (confs n)[j]? = some (confs n)[j] := List.getElem?_eq_getElem hj'
        have hLj : j < L.length := by omega
        rw [List.getElem?_map, List.getElem?_map, hc, List.getElem?_eq_getElem hLj]
        show some (V.bl L[j]) = some (V.bl (o.hold 0 (confs n)[j]))
        rw [k3 j _ hc, decide_eq_true hj, List.getD_eq_getElem?_getD, List.getElem?_eq_getElem hLj]
        rfl
      · rw [List.getElem?_eq_none (by rw [List.length_map]; omega), List.getElem?_eq_none (by rw [List.length_map, confs_len]; omega)]
    rw [eL] at b14'
    exact ⟨_, rfl, _, rfl, _, rfl, vo, p14, n, o, rfl, k1, k2, w5, b14', fun H14 _ => q H14⟩
end
end Ver

/-! ## The end: where the defs stand, and the law -/
namespace Ver
open PySem PySem.Spec PyProof.Rows L2
def dD (st : Stmt) (x : Str) : He.DefD := ⟨(x, none), x, x, defArgs st, defBody st, defScope st, [], []⟩
theorem funD_to {K : PySem.W.Frag} {x : Str} {st : Stmt} {f : Addr} {fd : FuncData} (F : FunD K x x (defArgs st) (defBody st) (defScope st) [] [] f fd) : Fun K x x st f fd := by
  obtain ⟨oc, od, dV, kV, doc, pm, an, cdv, ct, osl, rfl, lk, hc, hd, _⟩ := F.ex
  rcases hd with ⟨_, rfl⟩ | ⟨h, _⟩
  · exact ⟨⟨oc, od, kV, doc, pm, an, cdv, ct, osl, rfl, lk, hc⟩, F.kp⟩
  · exact absurd rfl h
def fnL : List He.DefD := [dD sConf "configurations", dD sIst "is_true", dD sFin "_formulas_in", dD sSwitch "switch", dD sNeg "negated", dD sBoth2 "both", dD sEith2 "either", dD sHalf "_half", dD sFork "_fork", dD sDof "diagram_of", dD sDor "diagram_of_row", dD sHolds "holds", dD sChosen "chosen", dD sLeast "least", dD sMany "how_many", dD sDat "diagram_at", dD sIsDg "is_diagram", dD sFrom "_is_diagram_from", dD sMix "_law_mix", dD sTape "_law_tape", dD sTake "_law_take", dD sSws "_law_switches", dD sGap "_law_gap", dD sPart "_law_part", dD sBoth "_law_both", dD sEither "_law_either", dD sForm "_law_formula", dD sAll "_law_all", dD sTrue "_law_true", dD sLDg "_law_diagram", dD sSame "_law_same", dD sFine "_law_fine", dD sLaw "law"]
def faL : List He.Fa := [.glo "configurations", .glo "is_true", .glo "_formulas_in", .glo "switch", .glo "negated", .glo "both", .glo "either", .glo "_half", .glo "_fork", .glo "diagram_of", .glo "diagram_of_row", .glo "holds", .glo "chosen", .glo "least", .glo "how_many", .glo "diagram_at", .glo "is_diagram", .glo "_is_diagram_from", .glo "_law_mix", .glo "_law_tape", .glo "_law_take", .glo "_law_switches", .glo "_law_gap", .glo "_law_part", .glo "_law_both", .glo "_law_either", .glo "_law_formula", .glo "_law_all", .glo "_law_true", .glo "_law_diagram", .glo "_law_same", .glo "_law_fine", .glo "law", .free "isinstance", .free "tuple", .free "bool", .free "int", .free "len", .free "list", .free "range", .free "reversed", .free "min"]
def tfL : List He.Defn := []
def exL (K : PySem.W.Frag) : Bool := true
abbrev RL : PySem.W.OpenRow := PySem.W.OpenLaw.row PySem.Challenge.rw_oncefolded_k01_whole_diagrams
abbrev hkL : PySem.W.Hook := He.hookX 6 faL fnL [] tfL exL
def obL (s : PySem.W.SharedT) : He.AlX := He.obsX 6 faL fnL [] tfL exL (HandSHeadRun.getT s)
theorem obL_eq (s : PySem.W.SharedT) : obL s = hkL.obs s.abs := He.obsX_eq (HandSHeadRun.getT_eq s)
def lo0 : List Str := ["configurations", "is_true", "_formulas_in", "switch", "negated", "both", "either", "_half", "_fork", "diagram_of", "diagram_of_row", "holds", "chosen", "least", "how_many", "diagram_at", "is_diagram", "_is_diagram_from", "_law_mix", "_law_tape", "_law_take", "_law_switches", "_law_gap", "_law_part", "_law_both", "_law_either", "_law_formula", "_law_all", "_law_true", "_law_diagram"]
def lo1 : List Str := ["_law_same", "_law_fine"]
abbrev loL : List Str := lo0 ++ lo1
theorem runL (w : World) : HandSHeadRun.RunEq RL (PySem.W.view RL.prog [35]) hkL obL 20000 loL w := by
  intro os
  kernel_rfl
section
variable {P : Program} {w : World} {K : PySem.W.Frag} {h : Heap} {mg : Str → Option Value} {fa : Addr}
theorem factsL (X : K.In h) (G : h.Ns mainGlobals mg) (hfa : mg ("law" : Str) = some (.ref fa)) (c : He.SaysX faL fnL [] tfL exL w h K) :
    ∃ fd : FuncData, (∀ (s : Shared) (v : Value), BindsTo s fd ⟨[v], []⟩ [("script", v)]) ∧ ∀ base : Heap, K.In base → base.Ns mainGlobals mg → (∀ p ∈ tfL.map (He.cT K), LamX.TabB base mg p.1 p.2) → FnOk P w K mg base (CX0) 16 fa fd ["script"] (spLaw K) := by
  obtain ⟨fd_cf, D_cf⟩ := c.t.d.def_ 0 (d := dD sConf "configurations") rfl
  have F_cf := funD_to (x := "configurations") (st := sConf) D_cf
  obtain ⟨fd_it, D_it⟩ := c.t.d.def_ 1 (d := dD sIst "is_true") rfl
  have F_it := funD_to (x := "is_true") (st := sIst) D_it
  obtain ⟨fd_fi, D_fi⟩ := c.t.d.def_ 2 (d := dD sFin "_formulas_in") rfl
  have F_fi := funD_to (x := "_formulas_in") (st := sFin) D_fi
  obtain ⟨fd_sv, D_sv⟩ := c.t.d.def_ 3 (d := dD sSwitch "switch") rfl
  have F_sv := funD_to (x := "switch") (st := sSwitch) D_sv
  obtain ⟨fd_ne, D_ne⟩ := c.t.d.def_ 4 (d := dD sNeg "negated") rfl
  have F_ne := funD_to (x := "negated") (st := sNeg) D_ne
  obtain ⟨fd_bo, D_bo⟩ := c.t.d.def_ 5 (d := dD sBoth2 "both") rfl
  have F_bo := funD_to (x := "both") (st := sBoth2) D_bo
  obtain ⟨fd_ei, D_ei⟩ := c.t.d.def_ 6 (d := dD sEith2 "either") rfl
  have F_ei := funD_to (x := "either") (st := sEith2) D_ei
  obtain ⟨fd_ha, D_ha⟩ := c.t.d.def_ 7 (d := dD sHalf "_half") rfl
  have F_ha := funD_to (x := "_half") (st := sHalf) D_ha
  obtain ⟨fd_fo, D_fo⟩ := c.t.d.def_ 8 (d := dD sFork "_fork") rfl
  have F_fo := funD_to (x := "_fork") (st := sFork) D_fo
  obtain ⟨fd_do, D_do⟩ := c.t.d.def_ 9 (d := dD sDof "diagram_of") rfl
  have F_do := funD_to (x := "diagram_of") (st := sDof) D_do
  obtain ⟨fd_dr, D_dr⟩ := c.t.d.def_ 10 (d := dD sDor "diagram_of_row") rfl
  have F_dr := funD_to (x := "diagram_of_row") (st := sDor) D_dr
  obtain ⟨fd_ho, D_ho⟩ := c.t.d.def_ 11 (d := dD sHolds "holds") rfl
  have F_ho := funD_to (x := "holds") (st := sHolds) D_ho
  obtain ⟨fd_ch, D_ch⟩ := c.t.d.def_ 12 (d := dD sChosen "chosen") rfl
  have F_ch := funD_to (x := "chosen") (st := sChosen) D_ch
  obtain ⟨fd_le, D_le⟩ := c.t.d.def_ 13 (d := dD sLeast "least") rfl
  have F_le := funD_to (x := "least") (st := sLeast) D_le
  obtain ⟨fd_hm, D_hm⟩ := c.t.d.def_ 14 (d := dD sMany "how_many") rfl
  have F_hm := funD_to (x := "how_many") (st := sMany) D_hm
  obtain ⟨fd_da, D_da⟩ := c.t.d.def_ 15 (d := dD sDat "diagram_at") rfl
  have F_da := funD_to (x := "diagram_at") (st := sDat) D_da
  obtain ⟨fd_is, D_is⟩ := c.t.d.def_ 16 (d := dD sIsDg "is_diagram") rfl
  have F_is := funD_to (x := "is_diagram") (st := sIsDg) D_is
  obtain ⟨fd_fr, D_fr⟩ := c.t.d.def_ 17 (d := dD sFrom "_is_diagram_from") rfl
  have F_fr := funD_to (x := "_is_diagram_from") (st := sFrom) D_fr
  obtain ⟨fd_mx, D_mx⟩ := c.t.d.def_ 18 (d := dD sMix "_law_mix") rfl
  have F_mx := funD_to (x := "_law_mix") (st := sMix) D_mx
  obtain ⟨fd_tp, D_tp⟩ := c.t.d.def_ 19 (d := dD sTape "_law_tape") rfl
  have F_tp := funD_to (x := "_law_tape") (st := sTape) D_tp
  obtain ⟨fd_tk, D_tk⟩ := c.t.d.def_ 20 (d := dD sTake "_law_take") rfl
  have F_tk := funD_to (x := "_law_take") (st := sTake) D_tk
  obtain ⟨fd_sw, D_sw⟩ := c.t.d.def_ 21 (d := dD sSws "_law_switches") rfl
  have F_sw := funD_to (x := "_law_switches") (st := sSws) D_sw
  obtain ⟨fd_gp, D_gp⟩ := c.t.d.def_ 22 (d := dD sGap "_law_gap") rfl
  have F_gp := funD_to (x := "_law_gap") (st := sGap) D_gp
  obtain ⟨fd_pa, D_pa⟩ := c.t.d.def_ 23 (d := dD sPart "_law_part") rfl
  have F_pa := funD_to (x := "_law_part") (st := sPart) D_pa
  obtain ⟨fd_lb, D_lb⟩ := c.t.d.def_ 24 (d := dD sBoth "_law_both") rfl
  have F_lb := funD_to (x := "_law_both") (st := sBoth) D_lb
  obtain ⟨fd_lx, D_lx⟩ := c.t.d.def_ 25 (d := dD sEither "_law_either") rfl
  have F_lx := funD_to (x := "_law_either") (st := sEither) D_lx
  obtain ⟨fd_fm, D_fm⟩ := c.t.d.def_ 26 (d := dD sForm "_law_formula") rfl
  have F_fm := funD_to (x := "_law_formula") (st := sForm) D_fm
  obtain ⟨fd_al, D_al⟩ := c.t.d.def_ 27 (d := dD sAll "_law_all") rfl
  have F_al := funD_to (x := "_law_all") (st := sAll) D_al
  obtain ⟨fd_tr, D_tr⟩ := c.t.d.def_ 28 (d := dD sTrue "_law_true") rfl
  have F_tr := funD_to (x := "_law_true") (st := sTrue) D_tr
  obtain ⟨fd_ld, D_ld⟩ := c.t.d.def_ 29 (d := dD sLDg "_law_diagram") rfl
  have F_ld := funD_to (x := "_law_diagram") (st := sLDg) D_ld
  obtain ⟨fd_sm, D_sm⟩ := c.t.d.def_ 30 (d := dD sSame "_law_same") rfl
  have F_sm := funD_to (x := "_law_same") (st := sSame) D_sm
  obtain ⟨fd_fn, D_fn⟩ := c.t.d.def_ 31 (d := dD sFine "_law_fine") rfl
  have F_fn := funD_to (x := "_law_fine") (st := sFine) D_fn
  obtain ⟨fd_la, D_la⟩ := c.t.d.def_ 32 (d := dD sLaw "law") rfl
  have F_la := funD_to (x := "law") (st := sLaw) D_la
  have e := hfa.symm.trans (He.glo_ok X G (c.t.d.fact 32 (f := .glo "law") rfl))
  cases e
  have b_cf := F_cf.binds (ps := ["count"]) fun _ _ _ _ _ _ us hl => match us, hl with | [_], _ => rfl
  have k_cf := F_cf.kp
  have m_cf : mg ("configurations" : Str) = some (.ref (He.fAd K ("configurations", none))) := He.glo_ok X G (c.t.d.fact 0 (f := .glo "configurations") rfl)
  have b_it := F_it.binds (ps := ["switches", "formula", "configuration"]) fun _ _ _ _ _ _ us hl => match us, hl with | [_, _, _], _ => rfl
  have k_it := F_it.kp
  have m_it : mg ("is_true" : Str) = some (.ref (He.fAd K ("is_true", none))) := He.glo_ok X G (c.t.d.fact 1 (f := .glo "is_true") rfl)
  have b_fi := F_fi.binds (ps := ["formula"]) fun _ _ _ _ _ _ us hl => match us, hl with | [_], _ => rfl
  have k_fi := F_fi.kp
  have m_fi : mg ("_formulas_in" : Str) = some (.ref (He.fAd K ("_formulas_in", none))) := He.glo_ok X G (c.t.d.fact 2 (f := .glo "_formulas_in") rfl)
  have b_sv := F_sv.binds (ps := ["i"]) fun _ _ _ _ _ _ us hl => match us, hl with | [_], _ => rfl
  have k_sv := F_sv.kp
  have m_sv : mg ("switch" : Str) = some (.ref (He.fAd K ("switch", none))) := He.glo_ok X G (c.t.d.fact 3 (f := .glo "switch") rfl)
  have b_ne := F_ne.binds (ps := ["d"]) fun _ _ _ _ _ _ us hl => match us, hl with | [_], _ => rfl
  have k_ne := F_ne.kp
  have m_ne : mg ("negated" : Str) = some (.ref (He.fAd K ("negated", none))) := He.glo_ok X G (c.t.d.fact 4 (f := .glo "negated") rfl)
  have b_bo := F_bo.binds (ps := ["d", "e"]) fun _ _ _ _ _ _ us hl => match us, hl with | [_, _], _ => rfl
  have k_bo := F_bo.kp
  have m_bo : mg ("both" : Str) = some (.ref (He.fAd K ("both", none))) := He.glo_ok X G (c.t.d.fact 5 (f := .glo "both") rfl)
  have b_ei := F_ei.binds (ps := ["d", "e"]) fun _ _ _ _ _ _ us hl => match us, hl with | [_, _], _ => rfl
  have k_ei := F_ei.kp
  have m_ei : mg ("either" : Str) = some (.ref (He.fAd K ("either", none))) := He.glo_ok X G (c.t.d.fact 6 (f := .glo "either") rfl)
  have b_ha := F_ha.binds (ps := ["d", "i", "bit"]) fun _ _ _ _ _ _ us hl => match us, hl with | [_, _, _], _ => rfl
  have k_ha := F_ha.kp
  have m_ha : mg ("_half" : Str) = some (.ref (He.fAd K ("_half", none))) := He.glo_ok X G (c.t.d.fact 7 (f := .glo "_half") rfl)
  have b_fo := F_fo.binds (ps := ["i", "low", "high"]) fun _ _ _ _ _ _ us hl => match us, hl with | [_, _, _], _ => rfl
  have k_fo := F_fo.kp
  have m_fo : mg ("_fork" : Str) = some (.ref (He.fAd K ("_fork", none))) := He.glo_ok X G (c.t.d.fact 8 (f := .glo "_fork") rfl)
  have b_do := F_do.binds (ps := ["switches", "formula"]) fun _ _ _ _ _ _ us hl => match us, hl with | [_, _], _ => rfl
  have k_do := F_do.kp
  have m_do : mg ("diagram_of" : Str) = some (.ref (He.fAd K ("diagram_of", none))) := He.glo_ok X G (c.t.d.fact 9 (f := .glo "diagram_of") rfl)
  have b_dr := F_dr.binds (ps := ["row", "count"]) fun _ _ _ _ _ _ us hl => match us, hl with | [_, _], _ => rfl
  have k_dr := F_dr.kp
  have m_dr : mg ("diagram_of_row" : Str) = some (.ref (He.fAd K ("diagram_of_row", none))) := He.glo_ok X G (c.t.d.fact 10 (f := .glo "diagram_of_row") rfl)
  have b_ho := F_ho.binds (ps := ["d", "configuration"]) fun _ _ _ _ _ _ us hl => match us, hl with | [_, _], _ => rfl
  have k_ho := F_ho.kp
  have m_ho : mg ("holds" : Str) = some (.ref (He.fAd K ("holds", none))) := He.glo_ok X G (c.t.d.fact 11 (f := .glo "holds") rfl)
  have b_ch := F_ch.binds (ps := ["d", "count"]) fun _ _ _ _ _ _ us hl => match us, hl with | [_, _], _ => rfl
  have k_ch := F_ch.kp
  have m_ch : mg ("chosen" : Str) = some (.ref (He.fAd K ("chosen", none))) := He.glo_ok X G (c.t.d.fact 12 (f := .glo "chosen") rfl)
  have b_le := F_le.binds (ps := ["d", "count"]) fun _ _ _ _ _ _ us hl => match us, hl with | [_, _], _ => rfl
  have k_le := F_le.kp
  have m_le : mg ("least" : Str) = some (.ref (He.fAd K ("least", none))) := He.glo_ok X G (c.t.d.fact 13 (f := .glo "least") rfl)
  have b_hm := F_hm.binds (ps := ["d", "count"]) fun _ _ _ _ _ _ us hl => match us, hl with | [_, _], _ => rfl
  have k_hm := F_hm.kp
  have m_hm : mg ("how_many" : Str) = some (.ref (He.fAd K ("how_many", none))) := He.glo_ok X G (c.t.d.fact 14 (f := .glo "how_many") rfl)
  have b_da := F_da.binds (ps := ["configuration"]) fun _ _ _ _ _ _ us hl => match us, hl with | [_], _ => rfl
  have k_da := F_da.kp
  have m_da : mg ("diagram_at" : Str) = some (.ref (He.fAd K ("diagram_at", none))) := He.glo_ok X G (c.t.d.fact 15 (f := .glo "diagram_at") rfl)
  have b_is := F_is.binds (ps := ["value", "count"]) fun _ _ _ _ _ _ us hl => match us, hl with | [_, _], _ => rfl
  have k_is := F_is.kp
  have m_is : mg ("is_diagram" : Str) = some (.ref (He.fAd K ("is_diagram", none))) := He.glo_ok X G (c.t.d.fact 16 (f := .glo "is_diagram") rfl)
  have b_fr := F_fr.binds (ps := ["value", "least_index", "count"]) fun _ _ _ _ _ _ us hl => match us, hl with | [_, _, _], _ => rfl
  have k_fr := F_fr.kp
  have m_fr : mg ("_is_diagram_from" : Str) = some (.ref (He.fAd K ("_is_diagram_from", none))) := He.glo_ok X G (c.t.d.fact 17 (f := .glo "_is_diagram_from") rfl)
  have b_mx := F_mx.binds (ps := ["number"]) fun _ _ _ _ _ _ us hl => match us, hl with | [_], _ => rfl
  have k_mx := F_mx.kp
  have m_mx : mg ("_law_mix" : Str) = some (.ref (He.fAd K ("_law_mix", none))) := He.glo_ok X G (c.t.d.fact 18 (f := .glo "_law_mix") rfl)
  have b_tp := F_tp.binds (ps := ["script", "budget"]) fun _ _ _ _ _ _ us hl => match us, hl with | [_, _], _ => rfl
  have k_tp := F_tp.kp
  have m_tp : mg ("_law_tape" : Str) = some (.ref (He.fAd K ("_law_tape", none))) := He.glo_ok X G (c.t.d.fact 19 (f := .glo "_law_tape") rfl)
  have b_tk := F_tk.binds (ps := ["tape", "many"]) fun _ _ _ _ _ _ us hl => match us, hl with | [_, _], _ => rfl
  have k_tk := F_tk.kp
  have m_tk : mg ("_law_take" : Str) = some (.ref (He.fAd K ("_law_take", none))) := He.glo_ok X G (c.t.d.fact 20 (f := .glo "_law_take") rfl)
  have b_sw := F_sw.binds (ps := ["tape"]) fun _ _ _ _ _ _ us hl => match us, hl with | [_], _ => rfl
  have k_sw := F_sw.kp
  have m_sw : mg ("_law_switches" : Str) = some (.ref (He.fAd K ("_law_switches", none))) := He.glo_ok X G (c.t.d.fact 21 (f := .glo "_law_switches") rfl)
  have b_gp := F_gp.binds (ps := ["tape"]) fun _ _ _ _ _ _ us hl => match us, hl with | [_], _ => rfl
  have k_gp := F_gp.kp
  have m_gp : mg ("_law_gap" : Str) = some (.ref (He.fAd K ("_law_gap", none))) := He.glo_ok X G (c.t.d.fact 22 (f := .glo "_law_gap") rfl)
  have b_pa := F_pa.binds (ps := ["tape", "switches", "deep"]) fun _ _ _ _ _ _ us hl => match us, hl with | [_, _, _], _ => rfl
  have k_pa := F_pa.kp
  have m_pa : mg ("_law_part" : Str) = some (.ref (He.fAd K ("_law_part", none))) := He.glo_ok X G (c.t.d.fact 23 (f := .glo "_law_part") rfl)
  have b_lb := F_lb.binds (ps := ["tape", "switches", "deep"]) fun _ _ _ _ _ _ us hl => match us, hl with | [_, _, _], _ => rfl
  have k_lb := F_lb.kp
  have m_lb : mg ("_law_both" : Str) = some (.ref (He.fAd K ("_law_both", none))) := He.glo_ok X G (c.t.d.fact 24 (f := .glo "_law_both") rfl)
  have b_lx := F_lx.binds (ps := ["tape", "switches", "deep"]) fun _ _ _ _ _ _ us hl => match us, hl with | [_, _, _], _ => rfl
  have k_lx := F_lx.kp
  have m_lx : mg ("_law_either" : Str) = some (.ref (He.fAd K ("_law_either", none))) := He.glo_ok X G (c.t.d.fact 25 (f := .glo "_law_either") rfl)
  have b_fm := F_fm.binds (ps := ["tape", "switches"]) fun _ _ _ _ _ _ us hl => match us, hl with | [_, _], _ => rfl
  have k_fm := F_fm.kp
  have m_fm : mg ("_law_formula" : Str) = some (.ref (He.fAd K ("_law_formula", none))) := He.glo_ok X G (c.t.d.fact 26 (f := .glo "_law_formula") rfl)
  have b_al := F_al.binds (ps := ["count"]) fun _ _ _ _ _ _ us hl => match us, hl with | [_], _ => rfl
  have k_al := F_al.kp
  have m_al : mg ("_law_all" : Str) = some (.ref (He.fAd K ("_law_all", none))) := He.glo_ok X G (c.t.d.fact 27 (f := .glo "_law_all") rfl)
  have b_tr := F_tr.binds (ps := ["switches", "formula", "configuration"]) fun _ _ _ _ _ _ us hl => match us, hl with | [_, _, _], _ => rfl
  have k_tr := F_tr.kp
  have m_tr : mg ("_law_true" : Str) = some (.ref (He.fAd K ("_law_true", none))) := He.glo_ok X G (c.t.d.fact 28 (f := .glo "_law_true") rfl)
  have b_ld := F_ld.binds (ps := ["bits", "i"]) fun _ _ _ _ _ _ us hl => match us, hl with | [_, _], _ => rfl
  have k_ld := F_ld.kp
  have m_ld : mg ("_law_diagram" : Str) = some (.ref (He.fAd K ("_law_diagram", none))) := He.glo_ok X G (c.t.d.fact 29 (f := .glo "_law_diagram") rfl)
  have b_sm := F_sm.binds (ps := ["told", "due"]) fun _ _ _ _ _ _ us hl => match us, hl with | [_, _], _ => rfl
  have k_sm := F_sm.kp
  have m_sm : mg ("_law_same" : Str) = some (.ref (He.fAd K ("_law_same", none))) := He.glo_ok X G (c.t.d.fact 30 (f := .glo "_law_same") rfl)
  have b_fn := F_fn.binds (ps := ["diagram", "bits", "count"]) fun _ _ _ _ _ _ us hl => match us, hl with | [_, _, _], _ => rfl
  have k_fn := F_fn.kp
  have m_fn : mg ("_law_fine" : Str) = some (.ref (He.fAd K ("_law_fine", none))) := He.glo_ok X G (c.t.d.fact 31 (f := .glo "_law_fine") rfl)
  have b_la := F_la.binds (ps := ["script"]) fun _ _ _ _ _ _ us hl => match us, hl with | [_], _ => rfl
  have n_isinstance := He.free_ok X G (c.t.d.fact 33 (f := .free "isinstance") rfl)
  have n_tuple := He.free_ok X G (c.t.d.fact 34 (f := .free "tuple") rfl)
  have n_bool := He.free_ok X G (c.t.d.fact 35 (f := .free "bool") rfl)
  have n_int := He.free_ok X G (c.t.d.fact 36 (f := .free "int") rfl)
  have n_len := He.free_ok X G (c.t.d.fact 37 (f := .free "len") rfl)
  have n_list := He.free_ok X G (c.t.d.fact 38 (f := .free "list") rfl)
  have n_range := He.free_ok X G (c.t.d.fact 39 (f := .free "range") rfl)
  have n_reversed := He.free_ok X G (c.t.d.fact 40 (f := .free "reversed") rfl)
  have n_min := He.free_ok X G (c.t.d.fact 41 (f := .free "min") rfl)
  refine ⟨fd_la, fun s v => ?_, fun base _ _ TB => ?_⟩
  · obtain ⟨oc, od, kV, doc, pm, an, cdv, ct, osl, rfl, _, _⟩ := F_la.ex
    exact .of_eq rfl
  have T_mx := ok_mix (P := P) (w := w) (base := base) F_mx n_int
  have T_tp := ok_tape (P := P) (w := w) (mg := mg) (base := base) F_tp n_list
  have T_tk := ok_take F_tk T_mx b_mx k_mx m_mx n_int n_len
  have T_sw := ok_sws F_sw T_tk b_tk k_tk m_tk n_tuple n_len
  have T_gp := ok_gap F_gp T_tk b_tk k_tk m_tk
  have T_gn := (ok_gens F_pa b_pa m_pa F_lb b_lb m_lb F_lx b_lx m_lx T_tk b_tk k_tk m_tk T_gp b_gp k_gp m_gp n_len n_range 2 (by decide)).2
  have T_fm := ok_form F_fm T_gn b_lx k_lx m_lx n_len
  have T_al := ok_all (P := P) (w := w) (mg := mg) (base := base) F_al n_range
  have T_cf := ok_conf (P := P) (w := w) (mg := mg) (base := base) F_cf n_range
  have T_tr := ok_true (P := P) (w := w) (base := base) F_tr b_tr m_tr 15
  have T_fi := ok_fin (P := P) (w := w) (mg := mg) (base := base) F_fi
  have T_it := ok_ist F_it T_fi b_fi k_fi m_fi n_reversed
  have T_sv := ok_switch (P := P) (w := w) (mg := mg) (base := base) F_sv
  have T_ne := ok_neg (P := P) (w := w) (base := base) F_ne b_ne m_ne n_isinstance n_tuple 6
  have T_ha := ok_half (P := P) (w := w) (mg := mg) (base := base) F_ha n_isinstance n_tuple
  have T_fo := ok_fork (P := P) (w := w) (mg := mg) (base := base) F_fo
  have T_bo := ok_both2 F_bo b_bo m_bo T_ha b_ha k_ha m_ha T_fo b_fo k_fo m_fo n_min 11
  have T_ei := ok_eith2 F_ei b_ei m_ei T_ha b_ha k_ha m_ha T_fo b_fo k_fo m_fo n_min 11
  have T_ho := ok_holds (P := P) (w := w) (mg := mg) (base := base) F_ho n_isinstance n_tuple
  have T_da := ok_dat (P := P) (w := w) (mg := mg) (base := base) F_da n_reversed n_range n_len
  have T_ch := ok_chosen F_ch T_cf b_cf k_cf m_cf T_ho b_ho k_ho m_ho
  have T_le := ok_least F_le T_ch b_ch k_ch m_ch
  have T_hm := ok_many F_hm T_ch b_ch k_ch m_ch n_len
  have T_dr := ok_dor (P := P) (w := w) (base := base) F_dr T_fo b_fo k_fo m_fo n_reversed n_range n_len
  have T_do := ok_dof F_do T_cf b_cf k_cf m_cf T_it b_it k_it m_it T_dr b_dr k_dr m_dr n_len
  have T_fr := ok_from (P := P) (w := w) (base := base) F_fr b_fr m_fr n_isinstance n_bool n_tuple n_int n_len 6 (by decide)
  have T_is := ok_isdg F_is T_fr b_fr k_fr m_fr
  have T_ld := ok_ldg (P := P) (w := w) (base := base) F_ld b_ld m_ld n_isinstance n_tuple n_len 6 (by decide)
  have T_sm := ok_same (P := P) (w := w) (base := base) F_sm b_sm m_sm n_isinstance n_bool n_tuple n_len 7
  have T_fn := ok_fine F_fn T_sm b_sm k_sm m_sm T_ld b_ld k_ld m_ld T_is b_is k_is m_is T_al b_al k_al m_al T_ho b_ho k_ho m_ho T_ch b_ch k_ch m_ch T_hm b_hm k_hm m_hm T_le b_le k_le m_le n_isinstance n_bool n_len n_range
  exact ok_law F_la T_tp b_tp k_tp m_tp T_sw b_sw k_sw m_sw T_fm b_fm k_fm m_fm T_al b_al k_al m_al T_tr b_tr k_tr m_tr T_do b_do k_do m_do T_fn b_fn k_fn m_fn T_ne b_ne k_ne m_ne T_bo b_bo k_bo m_bo T_ei b_ei k_ei m_ei T_tk b_tk k_tk m_tk T_da b_da k_da m_da T_sv b_sv k_sv m_sv n_len n_range
end
end Ver
open PySem PySem.W PySem.Calls PyProof.Rows
set_option maxRecDepth 100000 in
set_option maxHeartbeats 0 in
theorem PySem.Challenge.cw_oncefolded_k01_whole_diagrams_holds : PySem.Challenge.rw_oncefolded_k01_whole_diagrams.Holds := by
  w_on; o_law
  refine HandSHeadRun.head_any (r := OpenLaw.row PySem.Challenge.rw_oncefolded_k01_whole_diagrams) (q := view (OpenLaw.row PySem.Challenge.rw_oncefolded_k01_whole_diagrams).prog [35]) (H := Ver.hkL) (ob := Ver.obL) (M := 20000) (loose := Ver.loL) (d := HandSHeadRun.topDef (OpenLaw.row PySem.Challenge.rw_oncefolded_k01_whole_diagrams).prog 35) (kwd := []) Ver.obL_eq
    (by kernel_rfl) (fun s => by kernel_rfl) Ver.runL (by kernel_rfl) (by kernel_rfl) (by kernel_rfl) (by rfl) (by first | assumption | decide +kernel) (by decide +kernel) ⟨rfl, rfl, rfl, rfl, rfl, by decide +kernel⟩ ?hw ?hc
  case hw => w_witness2
  case hc =>
    refine LamX.walk_ofTsE (l := PySem.Challenge.rw_oncefolded_k01_whole_diagrams) (n := 63) (k := 16) (x := "script") (CX := fun w => L2.CX0) rfl (by decide) (by kernel_rfl) ⟨rfl, by decide, by decide⟩ ?F ?hCX
    case F =>
      intro w mg fa h Y G hmg0
      obtain ⟨K, KX, c⟩ := Y
      have hmg : mg ("law" : PySem.Str) = some (.ref fa) := by
        have e : (HandSHeadRun.topDef (OpenLaw.row PySem.Challenge.rw_oncefolded_k01_whole_diagrams).prog 35).name = ("law" : PySem.Str) := by kernel_rfl
        rw [← e]
        exact hmg0
      obtain ⟨fd, hb, hF⟩ := Ver.factsL (P := (PySem.Challenge.rw_oncefolded_k01_whole_diagrams).prog) (w := w) KX G hmg c
      refine ⟨K, KX, fd, Ver.tfL.map (He.cT K), Ver.spLaw K, fun p hp => ?_, fun p hp => ?_, fun p hp => ?_, hb, fun H a ns hl hbits hT hS => ?_, hF⟩
      · obtain ⟨q, hq, rfl⟩ := List.mem_map.mp hp
        exact c.empty q hq
      · obtain ⟨q, hq, rfl⟩ := List.mem_map.mp hp
        exact c.out q hq
      · obtain ⟨q, hq, rfl⟩ := List.mem_map.mp hp
        exact codeHd_of_K KX (c.hd q hq)
      · exact ⟨a, ns, rfl, hS, fun _ => rfl⟩
    case hCX => exact fun w H s e s1 z => z

