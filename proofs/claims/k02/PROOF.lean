import PyProof.Rows.All
import Wide.All
import OpenK.AllK
import Wide.FinOn
import HandS.Base
import HandS.Call
import HandS.List
import HandS.Comp
import HandS.Ends
import HandS.Words
import HandS.WordsList
import HandS.Wide
import HandS.Codes
import HandS.IsInst
import HandS.FStr
import HandS.TupLe
import HandS.TupAny
import PyProof.StrLaws
import PySem.Challenge.RW_oncefolded_k02_forms_of_diagrams
set_option Elab.async false
set_option linter.all false
set_option maxRecDepth 100000
set_option maxHeartbeats 1500000
/-! ## What is the same in every program: heaps that keep, data -/
namespace Ver
open PySem L2
/-- all that was tracked is as it was, but for the list at t -/
def But (t : Addr) (H H' : Hp) : Prop := ∀ b o, b ≠ t → H b = some o → H' b = some o
theorem But.refl {t : Addr} (H : Hp) : But t H H := fun _ _ _ h => h
theorem But.trans {t : Addr} {H H1 H2 : Hp} (a : But t H H1) (b : But t H1 H2) : But t H H2 := fun c o n h => b c o n (a c o n h)
theorem But.of {t : Addr} {H H' : Hp} (a : Same H H') : But t H H' := fun c o _ h => a c o h
theorem But.wr {t : Addr} {H : Hp} {o : HO} : But t H (upd H t o) := fun b u n h => by rw [upd_ne n]; exact h
theorem same_new {H : Hp} {p : Addr} (h : H p = none) (o : HO) : Same H (upd H p o) := fun b u q => by rw [upd_ne (ne_of_none q h)]; exact q
theorem But.seq {K : PySem.W.Frag} {t : Addr} {H H' : Hp} {a : Addr} {xs : List V} (e : But t H H') (n : a ≠ t) (h : SqL K H a xs) : SqL K H' a xs := by
  rcases h with (h | ⟨o, h⟩) | h
  · exact .inl (.inl (e _ _ n h))
  · exact .inl (.inr ⟨o, e _ _ n h⟩)
  · exact .inr h
theorem But.free {t : Addr} {H H' : Hp} (e : But t H H') {l : Addr} (n : l ≠ t) (h : H' l = none) : H l = none := by
  cases q : H l with
  | none => rfl
  | some o =>
    rw [e l o n q] at h
    cases h
theorem room5 {n : Nat} (h : n ≤ 1000) : n ≤ sizeLine := Nat.le_of_lt (small1000 h)
theorem But.put {t D : Addr} {H H' : Hp} {o : HO} (e : But t H H') (h : H D = none) : But t H (upd H' D o) := fun b u n q => by
  rw [upd_ne (ne_of_none q h)]
  exact e b u n q
theorem same_put {D : Addr} {H H' : Hp} {o : HO} (e : Same H H') (h : H D = none) : Same H (upd H' D o) := fun b u q => by
  rw [upd_ne (ne_of_none q h)]
  exact e b u q
/-- the tape of a law: a list at t that holds the script's own copy, at l, and four numbers -/
structure Tape (H : Hp) (t l : Addr) : Prop where
  cells : ∃ ns : List Int, H l = some (.lst (ns.map V.int))
  head : ∃ p v s b : Int, 0 ≤ p ∧ H t = some (.lst [.ref l, .int p, .int v, .int s, .int b])
  ne : l ≠ t
theorem Tape.same {H H' : Hp} {t l : Addr} (h : Tape H t l) (e : Same H H') : Tape H' t l := by
  obtain ⟨⟨ns, h1⟩, ⟨p, v, s, b, h2, h3⟩, h4⟩ := h
  exact ⟨⟨ns, e _ _ h1⟩, ⟨p, v, s, b, h2, e _ _ h3⟩, h4⟩
theorem Tape.nt {H : Hp} {t l a : Addr} (h : Tape H t l) (q : H a = none) : a ≠ t := by
  obtain ⟨_, ⟨p, v, s, b, _, h1⟩, _⟩ := h
  exact fun e => ne_of_none h1 q e.symm
theorem Tape.nl {H : Hp} {t l a : Addr} (h : Tape H t l) (q : H a = none) : a ≠ l := by
  obtain ⟨⟨ns, h1⟩, _, _⟩ := h
  exact fun e => ne_of_none h1 q e.symm
theorem Tape.put {H : Hp} {t l a : Addr} {o : HO} (h : Tape H t l) (q1 : a ≠ t) (q2 : a ≠ l) : Tape (upd H a o) t l := by
  obtain ⟨⟨ns, h1⟩, ⟨p, v, s, b, h2, h3⟩, h4⟩ := h
  exact ⟨⟨ns, by rw [upd_ne fun e => q2 e.symm]; exact h1⟩, ⟨p, v, s, b, h2, by rw [upd_ne fun e => q1 e.symm]; exact h3⟩, h4⟩
end Ver

/-! ## Data: bools, ints, texts, tuples of data, as they stand in a heap -/
namespace Ver
open PySem L2
mutual
def Dv (H : Hp) : V → PyData → Prop
  | v, .none => v = .non
  | v, .bool b => v = .bl b
  | v, .int i => v = .int i
  | v, .str x => v = .str x
  | v, .tuple ds => ∃ a xs, v = .ref a ∧ H a = some (.tup xs) ∧ DvAll H xs ds
  | _, .list _ => False
  | _, .dict _ => False
def DvAll (H : Hp) : List V → List PyData → Prop
  | xs, [] => xs = []
  | xs, d :: ds => ∃ x r, xs = x :: r ∧ Dv H x d ∧ DvAll H r ds
end
/-- the tuples are as they were -/
def KeepT (H H' : Hp) : Prop := ∀ a xs, H a = some (.tup xs) → H' a = some (.tup xs)
theorem KeepT.of {H H' : Hp} (e : Same H H') : KeepT H H' := fun a _ h => e a _ h
theorem But.keepT {t l : Addr} {H H' : Hp} (e : But t H H') (h : Tape H t l) : KeepT H H' := fun a xs q => e a _ (fun z => by
  obtain ⟨_, ⟨p, v, s, b, _, h1⟩, _⟩ := h
  rw [z, h1] at q
  cases q) q
mutual
theorem Dv.keep {H H' : Hp} (e : KeepT H H') : ∀ (d : PyData) (v : V), Dv H v d → Dv H' v d
  | .none, _, h => h
  | .bool _, _, h => h
  | .int _, _, h => h
  | .str _, _, h => h
  | .tuple ds, _, h => by
    unfold Dv at h ⊢
    obtain ⟨a, xs, h1, h2, h3⟩ := h
    exact ⟨a, xs, h1, e _ _ h2, DvAll.keep e ds xs h3⟩
  | .list _, _, h => by unfold Dv at h; exact h.elim
  | .dict _, _, h => by unfold Dv at h; exact h.elim
theorem DvAll.keep {H H' : Hp} (e : KeepT H H') : ∀ (ds : List PyData) (xs : List V), DvAll H xs ds → DvAll H' xs ds
  | [], _, h => h
  | d :: ds, _, h => by
    unfold DvAll at h ⊢
    obtain ⟨x, r, h1, h2, h3⟩ := h
    exact ⟨x, r, h1, Dv.keep e d x h2, DvAll.keep e ds r h3⟩
end
mutual
theorem Dv.dp {K : PySem.W.Frag} {H : Hp} : ∀ (d : PyData) (v : V), Dv H v d → Dp K H v d
  | .none, _, h => by unfold Dv at h; subst h; exact .non
  | .bool _, _, h => by unfold Dv at h; subst h; exact .bl _
  | .int _, _, h => by unfold Dv at h; subst h; exact .int _
  | .str _, _, h => by unfold Dv at h; subst h; exact .str _
  | .tuple ds, _, h => by
    unfold Dv at h
    obtain ⟨a, xs, rfl, h2, h3⟩ := h
    exact .tup (SqT.of h2) (DvAll.dp ds xs h3)
  | .list _, _, h => by unfold Dv at h; exact h.elim
  | .dict _, _, h => by unfold Dv at h; exact h.elim
theorem DvAll.dp {K : PySem.W.Frag} {H : Hp} : ∀ (ds : List PyData) (xs : List V), DvAll H xs ds → DpAll K H xs ds
  | [], _, h => by unfold DvAll at h; subst h; exact .nil
  | d :: ds, _, h => by
    unfold DvAll at h
    obtain ⟨x, r, rfl, h2, h3⟩ := h
    exact .cons (Dv.dp d x h2) (DvAll.dp ds r h3)
end
theorem DvAll.get {H : Hp} : ∀ {ds : List PyData} {xs : List V} {j : Nat} {d : PyData}, DvAll H xs ds → ds[j]? = some d → ∃ x, xs[j]? = some x ∧ Dv H x d
  | [], _, _, _, _, e => by simp at e
  | d0 :: ds, _, 0, d, h, e => by
    unfold DvAll at h
    obtain ⟨x, r, rfl, h2, _⟩ := h
    have : d0 = d := by simpa using e
    subst this
    exact ⟨x, rfl, h2⟩
  | d0 :: ds, _, j + 1, d, h, e => by
    unfold DvAll at h
    obtain ⟨x, r, rfl, _, h3⟩ := h
    obtain ⟨y, e1, e2⟩ := DvAll.get (j := j) (d := d) h3 (by simpa using e)
    exact ⟨y, by simpa using e1, e2⟩
theorem DvAll.length {H : Hp} : ∀ {ds : List PyData} {xs : List V}, DvAll H xs ds → xs.length = ds.length
  | [], _, h => by unfold DvAll at h; subst h; rfl
  | _ :: ds, _, h => by
    unfold DvAll at h
    obtain ⟨x, r, rfl, _, h3⟩ := h
    rw [List.length_cons, List.length_cons, DvAll.length h3]
theorem DvAll.append {H : Hp} : ∀ {ds es : List PyData} {xs ys : List V}, DvAll H xs ds → DvAll H ys es → DvAll H (xs ++ ys) (ds ++ es)
  | [], _, _, _, h, k => by unfold DvAll at h; subst h; exact k
  | _ :: ds, _, _, _, h, k => by
    unfold DvAll at h
    obtain ⟨x, r, rfl, h2, h3⟩ := h
    show DvAll H (x :: (r ++ _)) (_ :: (ds ++ _))
    unfold DvAll
    exact ⟨x, _, rfl, h2, DvAll.append h3 k⟩
theorem DvAll.take {H : Hp} : ∀ {ds : List PyData} {xs : List V} (n : Nat), DvAll H xs ds → DvAll H (xs.take n) (ds.take n)
  | _, _, 0, _ => by rw [List.take_zero, List.take_zero]; unfold DvAll; rfl
  | [], _, n + 1, h => by unfold DvAll at h; subst h; rw [List.take_nil, List.take_nil]; unfold DvAll; rfl
  | _ :: ds, _, n + 1, h => by
    unfold DvAll at h
    obtain ⟨x, r, rfl, h2, h3⟩ := h
    rw [List.take_succ_cons, List.take_succ_cons]
    unfold DvAll
    exact ⟨x, _, rfl, h2, DvAll.take n h3⟩
theorem DvAll.nil {H : Hp} : DvAll H [] [] := by unfold DvAll; rfl
theorem DvAll.cons {H : Hp} {x : V} {xs : List V} {d : PyData} {ds : List PyData} (a : Dv H x d) (b : DvAll H xs ds) : DvAll H (x :: xs) (d :: ds) := by
  unfold DvAll
  exact ⟨x, xs, rfl, a, b⟩
theorem Dv.tup {H : Hp} {a : Addr} {xs : List V} {ds : List PyData} (h : H a = some (.tup xs)) (k : DvAll H xs ds) : Dv H (.ref a) (.tuple ds) := by
  unfold Dv
  exact ⟨a, xs, rfl, h, k⟩
theorem Dv.of_tup {H : Hp} {v : V} {ds : List PyData} (h : Dv H v (.tuple ds)) : ∃ a xs, v = .ref a ∧ H a = some (.tup xs) ∧ DvAll H xs ds := by
  unfold Dv at h
  exact h
theorem Dv.of_bool {H : Hp} {v : V} {b : Bool} (h : Dv H v (.bool b)) : v = .bl b := by unfold Dv at h; exact h
theorem Dv.of_int {H : Hp} {v : V} {b : Int} (h : Dv H v (.int b)) : v = .int b := by unfold Dv at h; exact h
theorem Dv.of_str {H : Hp} {v : V} {b : Str} (h : Dv H v (.str b)) : v = .str b := by unfold Dv at h; exact h
theorem Dv.bool {H : Hp} {b : Bool} : Dv H (.bl b) (.bool b) := by unfold Dv; rfl
theorem Dv.int {H : Hp} {b : Int} : Dv H (.int b) (.int b) := by unfold Dv; rfl
theorem Dv.str {H : Hp} {b : Str} : Dv H (.str b) (.str b) := by unfold Dv; rfl
theorem Dv.non {H : Hp} : Dv H .non .none := by unfold Dv; rfl
/-- the class of a datum -/
def dTy : PyData → String
  | .none => "NoneType" | .bool _ => "bool" | .int _ => "int" | .str _ => "str" | .tuple _ => "tuple" | .list _ => "list" | .dict _ => "dict"
theorem Dv.ty {K : PySem.W.Frag} {H : Hp} : ∀ {d : PyData} {v : V}, Dv H v d → TyX K H v (.type (dTy d))
  | .none, _, h => by unfold Dv at h; subst h; exact .base .non
  | .bool _, _, h => by unfold Dv at h; subst h; exact .base (.bl _)
  | .int _, _, h => by unfold Dv at h; subst h; exact .base (.int _)
  | .str _, _, h => by unfold Dv at h; subst h; exact .base (.str _)
  | .tuple ds, _, h => by
    unfold Dv at h
    obtain ⟨a, xs, rfl, h2, h3⟩ := h
    exact .base (.tup h2)
  | .list _, _, h => by unfold Dv at h; exact h.elim
  | .dict _, _, h => by unfold Dv at h; exact h.elim
def isTup : PyData → Bool
  | .tuple _ => true
  | _ => false
def isBool : PyData → Bool
  | .bool _ => true
  | _ => false
def isInt : PyData → Bool
  | .int _ => true
  | .bool _ => true
  | _ => false
def isStr : PyData → Bool
  | .str _ => true
  | _ => false
theorem kit_tup {K : PySem.W.Frag} (d : PyData) : PySem.W.kitOne K (.type (dTy d)) (.type "tuple") = some (isTup d) := by cases d <;> simp only [dTy, isTup] <;> exact kit_ty (by decide +kernel)
theorem kit_bool {K : PySem.W.Frag} (d : PyData) : PySem.W.kitOne K (.type (dTy d)) (.type "bool") = some (isBool d) := by cases d <;> simp only [dTy, isBool] <;> exact kit_ty (by decide +kernel)
theorem kit_int {K : PySem.W.Frag} (d : PyData) : PySem.W.kitOne K (.type (dTy d)) (.type "int") = some (isInt d) := by cases d <;> simp only [dTy, isInt] <;> exact kit_ty (by decide +kernel)
theorem kit_str {K : PySem.W.Frag} (d : PyData) : PySem.W.kitOne K (.type (dTy d)) (.type "str") = some (isStr d) := by cases d <;> simp only [dTy, isStr] <;> exact kit_ty (by decide +kernel)
/-- what the slots of a def hold, as data -/
def EnvOk (σ : St) (H : Hp) (env : List (Nat × PyData)) : Prop := ∀ i d, (i, d) ∈ env → ∃ v, σ[i]? = some (some v) ∧ Dv H v d
theorem EnvOk.same {σ : St} {H H' : Hp} {env : List (Nat × PyData)} (h : EnvOk σ H env) (e : Same H H') : EnvOk σ H' env := fun i d m => by
  obtain ⟨v, h1, h2⟩ := h i d m
  exact ⟨v, h1, Dv.keep (KeepT.of e) d v h2⟩
/-- an expression that gives a datum, and lays new tuples alone -/
structure PD (X : Cx) (e : Expr) (env : List (Nat × PyData)) (d : PyData) : Prop where
  pe : PE X e (fun σ H Q => EnvOk σ H env ∧ ∀ v H', Same H H' → Dv H' v d → Q v H')
structure PDs (X : Cx) (es : List Expr) (env : List (Nat × PyData)) (ds : List PyData) : Prop where
  pa : PA X es (fun σ H Q => EnvOk σ H env ∧ ∀ xs H', Same H H' → DvAll H' xs ds → Q xs H')
/-- one reading given by another -/
theorem PE.weak {X : Cx} {e : Expr} {t u : TE} (h : PE X e t) (k : ∀ σ H Q, u σ H Q → t σ H Q) : PE X e u := ⟨fun pins s σ H Q I q => h.run pins s σ H Q I (k σ H Q q)⟩
theorem PA.weak {X : Cx} {es : List Expr} {t u : TA} (h : PA X es t) (k : ∀ σ H Q, u σ H Q → t σ H Q) : PA X es u := ⟨fun pos pins s σ H Q I q => h.run pos pins s σ H Q I (k σ H Q q)⟩
section
variable {X : Cx} {env : List (Nat × PyData)}
theorem pd_int {i j pos} : PD X (.Constant (.int i) j pos) env (.int i) := ⟨PE.weak pe_int fun _ H _ q => q.2 _ H (Same.refl H) Dv.int⟩
theorem pd_bl {b j pos} : PD X (.Constant (.bool b) j pos) env (.bool b) := ⟨PE.weak pe_bl fun _ H _ q => q.2 _ H (Same.refl H) Dv.bool⟩
theorem pd_str {x j pos} : PD X (.Constant (.str x) j pos) env (.str x) := ⟨PE.weak pe_str fun _ H _ q => q.2 _ H (Same.refl H) Dv.str⟩
theorem pd_non {j pos} : PD X (.Constant .none j pos) env .none := ⟨PE.weak pe_non fun _ H _ q => q.2 _ H (Same.refl H) Dv.non⟩
theorem pd_neg {i : Int} {j pos pos2} : PD X (.UnaryOp .USub (.Constant (.int i) j pos) pos2) env (.int (-i)) := ⟨PE.weak (pe_un un_neg pe_int) fun _ H _ q => ⟨_, rfl, q.2 _ H (Same.refl H) Dv.int⟩⟩
theorem pd_v (i : Nat) {d : PyData} {x : Str} {pos : Pos} (h : PE X (.Name x pos) (tVar i)) (m : (i, d) ∈ env) : PD X (.Name x pos) env d := ⟨PE.weak h fun σ H Q q => by
  obtain ⟨v, h1, h2⟩ := q.1 i d m
  exact ⟨v, h1, q.2 v H (Same.refl H) h2⟩⟩
theorem pds_nil : PDs X [] env [] := ⟨PA.weak pa_nil fun _ H _ q => q.2 [] H (Same.refl H) DvAll.nil⟩
theorem pds_cons {e : Expr} {es : List Expr} {d : PyData} {ds : List PyData} (a : PD X e env d) (b : PDs X es env ds) (hs : starEach (e :: es) X.env = (false, eval e X.env) :: starEach es X.env := by rfl) : PDs X (e :: es) env (d :: ds) :=
  ⟨PA.weak (pa_cons a.pe b.pa hs) fun σ H Q q => ⟨q.1, fun v H1 g1 h1 => ⟨q.1.same g1, fun xs H2 g2 h2 => q.2 _ H2 (g1.trans g2) (DvAll.cons (Dv.keep (KeepT.of g2) d v h1) h2)⟩⟩⟩
theorem pd_tup {es : List Expr} {ds : List PyData} {x1 pos} (h : PDs X es env ds) (hl : ds.length ≤ 1000) : PD X (.Tuple es x1 pos) env (.tuple ds) :=
  ⟨PE.weak (pe_tup h.pa) fun σ H Q q => ⟨q.1, fun xs H1 g1 h1 => ⟨by rw [h1.length]; exact room5 hl, fun p hp => q.2 _ _ (g1.trans (same_new hp _)) (Dv.tup upd_same (DvAll.keep (KeepT.of (same_new hp _)) _ _ h1))⟩⟩⟩
theorem pd_ix {a : Expr} {ds : List PyData} {d : PyData} {i j : Nat} {p1 pos} (h : PD X a env (.tuple ds)) (e : ds[i]? = some d) (hs : PlainIx (Expr.Constant (.int i) j p1) := by exact fun _ _ => rfl) : PD X (.Subscript a (.Constant (.int i) j p1) pos) env d :=
  ⟨PE.weak (pe_ix ix_tup h.pe pe_int hs) fun σ H Q q => ⟨q.1, fun v H1 g1 h1 => by
    obtain ⟨b, xs, rfl, h2, h3⟩ := Dv.of_tup h1
    obtain ⟨x, e1, e2⟩ := DvAll.get h3 e
    exact ⟨b, xs, _, x, rfl, rfl, SqT.of h2, at_of rfl e1, q.2 x H1 g1 e2⟩⟩⟩
/-- a list of data -/
theorem pe_lstD {es : List Expr} {ds : List PyData} {pos} (h : PDs X es env ds) (hl : ds.length ≤ 1000) : PE X (.List es pos) (fun σ H Q => EnvOk σ H env ∧ ∀ p xs H', H p = none → Same H H' → H' p = some (.lst xs) → DvAll H' xs ds → Q (.ref p) H') :=
  PE.weak (pe_lst h.pa) fun σ H Q q => ⟨q.1, fun xs H1 g1 h1 => ⟨by rw [h1.length]; exact room5 hl, fun p hp => q.2 p xs _ (g1.free hp) (g1.trans (same_new hp _)) upd_same (DvAll.keep (KeepT.of (same_new hp _)) _ _ h1)⟩⟩
/-- d + (..) -/
theorem pd_cat {a b : Expr} {ds es : List PyData} {pos} (h : PD X a env (.tuple ds)) (k : PD X b env (.tuple es)) (h0 : ds ≠ []) (k0 : es ≠ []) (hl : ds.length + es.length ≤ 1000) : PD X (.BinOp a .Add b pos) env (.tuple (ds ++ es)) :=
  ⟨PE.weak (pe_op op_catT h.pe k.pe) fun σ H Q q => ⟨q.1, fun v H1 g1 h1 => ⟨q.1.same g1, fun u H2 g2 h2 => by
    obtain ⟨a1, xs, rfl, e1, e2⟩ := Dv.of_tup h1
    obtain ⟨a2, ys, rfl, e3, e4⟩ := Dv.of_tup h2
    refine ⟨a1, a2, xs, ys, rfl, rfl, SqT.of (g2 _ _ e1), SqT.of e3, ?_, ?_, ?_, fun _ p hp => ?_⟩
    · rintro rfl
      have := e2.length
      cases ds with
      | nil => exact h0 rfl
      | cons _ _ => cases this
    · rw [e2.length, e4.length]
      exact room5 hl
    · rintro rfl
      have := e4.length
      cases es with
      | nil => exact absurd rfl k0
      | cons _ _ => cases this
    · exact q.2 _ _ ((g1.trans g2).trans (same_new hp _)) (Dv.tup upd_same (DvAll.keep (KeepT.of (same_new hp _)) _ _ (DvAll.append (DvAll.keep (KeepT.of g2) _ _ e2) e4)))⟩⟩⟩
end
end Ver
namespace Ver
open PySem L2
section
variable {X : Cx} {env : List (Nat × PyData)}
/-- d[:n], n below the length -/
theorem pd_take {a : Expr} {ds : List PyData} {n j : Nat} {p1 p2 pos} (h : PD X a env (.tuple ds)) (hl : n < ds.length) : PD X (.Subscript a (.Slice none (some (.Constant (.int n) j p1)) none p2) pos) env (.tuple (ds.take n)) :=
  ⟨PE.weak (pe_slice sl_tup h.pe po_none (po_some pe_int)) fun σ H Q q => ⟨q.1, fun v H1 g1 h1 => by
    obtain ⟨b, xs, rfl, h2, h3⟩ := Dv.of_tup h1
    have e := h3.length
    refine ⟨_, rfl, b, xs, rfl, SqT.of h2, ?_, fun p hp => ?_⟩
    · rw [HT.sIx_nat]
      omega
    · refine q.2 _ _ (g1.trans (same_new hp _)) (Dv.tup upd_same (DvAll.keep (KeepT.of (same_new hp _)) _ _ ?_))
      have ec : cutV xs none (some (n : Int)) = xs.take n := by
        show (xs.drop 0).take (HT.sIx xs.length xs.length (some (n : Int)) - 0) = xs.take n
        rw [HT.sIx_nat, List.drop_zero, Nat.min_eq_left (by omega)]
        rfl
      rw [ec]
      exact DvAll.take n h3⟩⟩
end
end Ver

/-! ## Diagrams: the mathematics -/
namespace Ver
open PySem L2
inductive Dg where
  | leaf (b : Bool)
  | node (i : Nat) (lo hi : Dg)
  deriving DecidableEq
namespace Dg
def toD : Dg → PyData
  | leaf b => .bool b
  | node i lo hi => .tuple [.int (i : Int), toD lo, toD hi]
theorem eqv_toD : ∀ a b : Dg, PyData.eqv (toD a) (toD b) = decide (a = b)
  | leaf a, leaf b => by cases a <;> cases b <;> decide
  | leaf a, node i lo hi => by simp [toD, PyData.eqv]
  | node i lo hi, leaf b => by simp [toD, PyData.eqv]
  | node i a b, node j c d => by
    have h1 := eqv_toD a c
    have h2 := eqv_toD b d
    simp only [toD, PyData.eqv, PyData.eqvAll, h1, h2, Bool.and_true]
    by_cases e1 : i = j <;> by_cases e2 : a = c <;> by_cases e3 : b = d <;> simp [e1, e2, e3, Int.natCast_inj]
/-- indexes from l on, below n, ascending; parts that differ -/
def Fit (n : Nat) : Nat → Dg → Prop
  | _, leaf _ => True
  | l, node i lo hi => l ≤ i ∧ i < n ∧ lo ≠ hi ∧ Fit n (i + 1) lo ∧ Fit n (i + 1) hi
theorem Fit.mono {n m : Nat} (hn : n ≤ m) : ∀ {d : Dg} {l k : Nat}, k ≤ l → Fit n l d → Fit m k d
  | leaf _, _, _, _, _ => True.intro
  | node i lo hi, l, k, hl, h => ⟨by have := h.1; omega, by have := h.2.1; omega, h.2.2.1, Fit.mono hn (Nat.le_refl _) h.2.2.2.1, Fit.mono hn (Nat.le_refl _) h.2.2.2.2⟩
def ht : Dg → Nat
  | leaf _ => 0
  | node _ lo hi => max (ht lo) (ht hi) + 1
theorem Fit.ht {n : Nat} : ∀ {d : Dg} {l : Nat}, Fit n l d → ht d + l ≤ max n l
  | leaf _, l, _ => by show 0 + l ≤ _; omega
  | node i lo hi, l, h => by
    have h1 := Fit.ht h.2.2.2.1
    have h2 := Fit.ht h.2.2.2.2
    have h3 := h.1
    have h4 := h.2.1
    show max (Dg.ht lo) (Dg.ht hi) + 1 + l ≤ _
    omega
theorem shaped {d : Dg} (h : ht d ≤ 30) : SeqAt.shaped (toD d) = true := by
  have h1 : ∀ d : Dg, (toD d).canLay0 = true := by
    intro d
    induction d with
    | leaf b => simp [toD, PyData.canLay0]
    | node i lo hi a b => simp [toD, PyData.canLay0, PyData.canLayAll0, a, b]
  have h2 : ∀ d : Dg, (toD d).depth = ht d := by
    intro d
    induction d with
    | leaf b => simp [toD, PyData.depth, ht]
    | node i lo hi a b => simp [toD, PyData.depth, PyData.depthAll, ht, a, b]
  unfold SeqAt.shaped
  rw [h1, h2]
  simp
  omega
theorem isTup_toD (d : Dg) : isTup (toD d) = match d with | leaf _ => false | node .. => true := by cases d <;> rfl
theorem isBool_toD (d : Dg) : isBool (toD d) = match d with | leaf _ => true | node .. => false := by cases d <;> rfl
def fork (i : Nat) (lo hi : Dg) : Dg := if lo = hi then lo else node i lo hi
theorem fork_fit {n l i : Nat} {lo hi : Dg} (h0 : l ≤ i) (h1 : i < n) (h2 : Fit n (i + 1) lo) (h3 : Fit n (i + 1) hi) : Fit n l (fork i lo hi) := by
  unfold fork
  split
  · exact Fit.mono (Nat.le_refl n) (by omega) h2
  · exact ⟨h0, h1, by assumption, h2, h3⟩
/-- the diagram of a list of 2 ^ k truths, by the switches from i on -/
def mk : Nat → List Bool → Nat → Dg
  | 0, bits, _ => leaf (bits.headD false)
  | k + 1, bits, i => fork i (mk k (bits.take (2 ^ k)) (i + 1)) (mk k (bits.drop (2 ^ k)) (i + 1))
theorem mk_fit : ∀ (k : Nat) (bits : List Bool) (i : Nat), Fit (i + k) i (mk k bits i)
  | 0, _, _ => True.intro
  | k + 1, bits, i => fork_fit (Nat.le_refl _) (by omega) (by have := mk_fit k (bits.take (2 ^ k)) (i + 1); rwa [show i + 1 + k = i + (k + 1) by omega] at this)
      (by have := mk_fit k (bits.drop (2 ^ k)) (i + 1); rwa [show i + 1 + k = i + (k + 1) by omega] at this)
/-- the written form -/
def wr (sw : List Str) : Dg → Str
  | leaf b => if b then "1" else "0"
  | node i lo hi =>
    sw.getD i "" ++ "?" ++ (match hi with | leaf _ => wr sw hi | node .. => "(" ++ wr sw hi ++ ")") ++ ":" ++ (match lo with | leaf _ => wr sw lo | node .. => "(" ++ wr sw lo ++ ")")
def wi (sw : List Str) : Dg → Str
  | leaf b => wr sw (leaf b)
  | node i lo hi => "(" ++ wr sw (node i lo hi) ++ ")"
theorem wr_node (sw : List Str) (i : Nat) (lo hi : Dg) : wr sw (node i lo hi) = sw.getD i "" ++ "?" ++ wi sw hi ++ ":" ++ wi sw lo := by
  cases lo <;> cases hi <;> rfl
theorem wi_len (sw : List Str) : ∀ d : Dg, (wi sw d).length ≤ (wr sw d).length + 2
  | leaf b => Nat.le_add_right _ _
  | node i lo hi => by
    show ("(" ++ wr sw (node i lo hi) ++ ")" : Str).length ≤ _
    rw [Str.length_append, Str.length_append]
    show 1 + _ + 1 ≤ _
    omega
theorem wr_len {sw : List Str} (h : ∀ x ∈ sw, x.length ≤ 6) : ∀ d : Dg, (wr sw d).length + 12 ≤ 13 * 2 ^ ht d
  | leaf b => by
    show (if b then "1" else "0" : Str).length + 12 ≤ 13 * 2 ^ 0
    cases b <;> decide
  | node i lo hi => by
    have h1 := wr_len h lo
    have h2 := wr_len h hi
    have h3 := wi_len sw lo
    have h4 := wi_len sw hi
    have h5 : (sw.getD i "").length ≤ 6 := by
      by_cases e : i < sw.length
      · rw [List.getD_eq_getElem?_getD, List.getElem?_eq_getElem e]
        exact h _ (List.getElem_mem e)
      · rw [List.getD_eq_getElem?_getD, List.getElem?_eq_none (by omega)]
        decide
    rw [wr_node]
    simp only [Str.length_append]
    have e1 : ("?" : Str).length = 1 := rfl
    have e2 : (":" : Str).length = 1 := rfl
    rw [e1, e2]
    have p1 : 2 ^ ht lo ≤ 2 ^ max (ht lo) (ht hi) := Nat.pow_le_pow_right (by omega) (Nat.le_max_left _ _)
    have p2 : 2 ^ ht hi ≤ 2 ^ max (ht lo) (ht hi) := Nat.pow_le_pow_right (by omega) (Nat.le_max_right _ _)
    show _ ≤ 13 * 2 ^ (max (ht lo) (ht hi) + 1)
    rw [Nat.pow_succ]
    omega
end Dg
/-- is_diagram, from an index on, with a number of calls -/
def isDg : Nat → PyData → Int → Int → Bool
  | 0, _, _, _ => false
  | n + 1, d, l, c => match d with
    | .bool _ => true
    | .tuple [.int i, lo, hi] => decide (l ≤ i) && decide (i < c) && isDg n lo (i + 1) c && isDg n hi (i + 1) c && !PyData.eqv lo hi
    | _ => false
theorem isDg_fit {c : Nat} : ∀ (n : Nat) {d : Dg} {l : Nat}, d.Fit c l → c < n + l → l ≤ c → isDg n d.toD l c = true
  | 0, d, l, h, hn, hl => by omega
  | n + 1, .leaf b, l, h, hn, hl => rfl
  | n + 1, .node i lo hi, l, h, hn, hl => by
    have h1 := isDg_fit n (d := lo) (l := i + 1) h.2.2.2.1 (by have := h.1; omega) h.2.1
    have h2 := isDg_fit n (d := hi) (l := i + 1) h.2.2.2.2 (by have := h.1; omega) h.2.1
    show (decide ((l : Int) ≤ (i : Int)) && decide ((i : Int) < (c : Int)) && isDg n lo.toD ((i : Int) + 1) c && isDg n hi.toD ((i : Int) + 1) c && !PyData.eqv lo.toD hi.toD) = true
    rw [Dg.eqv_toD, decide_eq_true (show (l : Int) ≤ (i : Int) by have := h.1; omega), decide_eq_true (show (i : Int) < (c : Int) by have := h.2.1; omega), decide_eq_false h.2.2.1]
    rw [show ((i : Int) + 1) = ((i + 1 : Nat) : Int) by omega, h1, h2]
    rfl
/-- what is_diagram takes is a diagram (so its data may be compared) -/
theorem isDg_dg {c : Int} : ∀ (n : Nat) {d : PyData} {l : Int}, isDg n d l c = true → 0 ≤ l → ∃ g : Dg, d = g.toD ∧ g.ht ≤ n
  | 0, d, l, h, _ => by cases h
  | n + 1, .bool b, l, h, _ => ⟨.leaf b, rfl, Nat.zero_le _⟩
  | n + 1, .tuple [.int i, lo, hi], l, h, h0 => by
    have h' : (decide (l ≤ i) && decide (i < c) && isDg n lo (i + 1) c && isDg n hi (i + 1) c && !PyData.eqv lo hi) = true := h
    simp only [Bool.and_eq_true, decide_eq_true_eq] at h'
    obtain ⟨⟨⟨⟨h1, h2⟩, h3⟩, h4⟩, h5⟩ := h'
    obtain ⟨a, rfl, ha⟩ := isDg_dg n h3 (by omega)
    obtain ⟨b, rfl, hb⟩ := isDg_dg n h4 (by omega)
    refine ⟨.node i.toNat a b, ?_, ?_⟩
    · show _ = PyData.tuple [.int ((i.toNat : Nat) : Int), a.toD, b.toD]
      rw [show ((i.toNat : Nat) : Int) = i by omega]
    · show max a.ht b.ht + 1 ≤ n + 1
      omega
  | n + 1, .none, l, h, _ => by cases h
  | n + 1, .int _, l, h, _ => by cases h
  | n + 1, .str _, l, h, _ => by cases h
  | n + 1, .list _, l, h, _ => by cases h
  | n + 1, .dict _, l, h, _ => by cases h
  | n + 1, .tuple [], l, h, _ => by cases h
  | n + 1, .tuple [_], l, h, _ => by simp [isDg] at h
  | n + 1, .tuple [_, _], l, h, _ => by simp [isDg] at h
  | n + 1, .tuple (_ :: _ :: _ :: _ :: _), l, h, _ => by simp [isDg] at h
  | n + 1, .tuple [.none, _, _], l, h, _ => by cases h
  | n + 1, .tuple [.bool _, _, _], l, h, _ => by cases h
  | n + 1, .tuple [.str _, _, _], l, h, _ => by cases h
  | n + 1, .tuple [.list _, _, _], l, h, _ => by cases h
  | n + 1, .tuple [.dict _, _, _], l, h, _ => by cases h
  | n + 1, .tuple [.tuple _, _, _], l, h, _ => by cases h
theorem isDg_len {n : Nat} {ds : List PyData} {l c : Int} (h : ds.length ≠ 3) : isDg (n + 1) (.tuple ds) l c = false := by
  match ds, h with
  | [], _ => rfl
  | [_], _ => simp [isDg]
  | [_, _], _ => simp [isDg]
  | [_, _, _], h => exact absurd rfl h
  | _ :: _ :: _ :: _ :: r, _ => simp [isDg]
theorem isDg_head {n : Nat} {i lo hi : PyData} {l c : Int} (h : ∀ k, i ≠ .int k) : isDg (n + 1) (.tuple [i, lo, hi]) l c = false := by
  match i, h with
  | .none, _ => rfl
  | .str _, _ => rfl
  | .list _, _ => rfl
  | .dict _, _ => rfl
  | .tuple _, _ => rfl
  | .bool _, _ => rfl
  | .int k, h => exact absurd rfl (h k)
theorem isInt_cases {i : PyData} (h : isInt i = true) (k : isBool i = false) : ∃ z, i = .int z := by
  match i, h, k with
  | .int z, _, _ => exact ⟨z, rfl⟩
theorem not_int_of {i : PyData} (h : isInt i = false) : ∀ k, i ≠ .int k := fun k e => by rw [e] at h; cases h
theorem not_int_of' {i : PyData} (h : isBool i = true) : ∀ k, i ≠ .int k := fun k e => by rw [e] at h; cases h
theorem b_of {b : Bool} (h : ¬ (!b) = true) : b = true := by
  cases b with
  | true => rfl
  | false => exact absurd rfl h
theorem b_of' {b : Bool} (h : (!b) = true) : b = false := by
  cases b with
  | true => cases h
  | false => rfl
end Ver

namespace Ver
open PySem
def top (i : Nat) : Stmt := PySem.Challenge.pw_oncefolded_k02_forms_of_diagrams.main.body.getD i (.Pass ⟨0, 0, 0, 0⟩)
end Ver

/-! ## The tape: _law_mix, _law_tape, _law_take -/
namespace Ver
open PySem L2
abbrev sMix : Stmt := top 6
abbrev sTape : Stmt := top 7
abbrev sTake : Stmt := top 8
def spMix : Sp := fun vs H Q _ => ∃ n : Int, vs = [.int n] ∧ ∀ r : Int, Q (.int r) H
def spTape (K : PySem.W.Frag) : Sp := fun vs H Q _ => ∃ (a : Addr) (ns : List Int) (b : Int), vs = [.ref a, .int b] ∧ SqL K H a (ns.map V.int) ∧
  ∀ (t l : Addr) (H' : Hp), H t = none → H l = none → Same H H' → Tape H' t l → Q (.ref t) H'
def spTake : Sp := fun vs H Q _ => ∃ (t l : Addr) (m : Int), vs = [.ref t, .int m] ∧ Tape H t l ∧ 0 < m ∧ m < 1073741824 ∧
  ∀ (d : Int) (H' : Hp), 0 ≤ d → d < m → But t H H' → Tape H' t l → Q (.int d) H'
section
variable {P : Program} {w : World} {K : PySem.W.Frag} {mg : Str → Option Value} {base : Heap} {f g : Addr} {fd gd : FuncData}
theorem scMix : FnScope ["number"] ["number"] (defScope sMix) := ⟨rfl, rfl, rfl, by decide +kernel, rfl, by decide +kernel, by decide +kernel⟩
theorem scTape : FnScope ["script", "budget"] ["script", "budget"] (defScope sTape) := ⟨rfl, rfl, rfl, by decide +kernel, rfl, by decide +kernel, by decide +kernel⟩
theorem scTake : FnScope ["tape", "many", "cell", "digit"] ["tape", "many"] (defScope sTake) := ⟨rfl, rfl, rfl, by decide +kernel, rfl, by decide +kernel, by decide +kernel⟩
theorem ok_mix (F : Fun K "_law_mix" "_law_mix" sMix f fd) (mi : mg "int" = none) : FnOk P w K mg base CX0 1 f fd ["number"] spMix := by
  refine F.ok scMix (fun vs H Q E h => ?_) (fun cdv A outer s H vs Q E hr h => ?_)
  · obtain ⟨n, rfl, _⟩ := h
    rfl
  obtain ⟨n, rfl, q⟩ := h
  refine ⟨_, pss_cons (ps_set (i := 0) scMix.nd rfl (.inl rfl) (pe_op op_mod (pe_callTy call_int1 (by rfl) mi (by decide +kernel) (pa_cons (pe_op op_add (pe_op op_mul (pv 0) pe_int) pe_int) pa_nil)) pe_int))
    (pss_one (ps_ret (pe_op op_mod (pe_callTy call_int1 (by rfl) mi (by decide +kernel) (pa_cons (pe_op op_add (pe_op op_fdivW (pe_op op_mul (pv 0) (pv 0)) pe_int) (pe_op op_mul (pv 0) pe_int)) pa_nil)) pe_int))), ?_⟩
  refine ⟨_, rfl, _, _, rfl, rfl, .inr ⟨by decide, by decide⟩, _, _, rfl, rfl, .inl ⟨_, rfl, _, _, rfl, rfl, (by show (0 : Int) < 18446744073709551616; decide), ?_⟩⟩
  generalize hm : (n * 6364136223846793005 + 1442695040888963407) % 18446744073709551616 = m
  have m0 : 0 ≤ m := by omega
  have m1 : m < 18446744073709551616 := by omega
  refine ⟨_, rfl, _, rfl, _, _, rfl, rfl, .inl ⟨by omega, by omega⟩, _, _, rfl, rfl, wide_div (b := 40) (by decide) (by decide) (by decide) (by decide), _, rfl, _, _, rfl, rfl, .inr ⟨by decide, by decide⟩, _, _, rfl, rfl, .inl ⟨_, rfl, _, _, rfl, rfl, (by show (0 : Int) < 18446744073709551557; decide), ?_⟩⟩
  exact q _
theorem ok_tape (F : Fun K "_law_tape" "_law_tape" sTape f fd) (ml : mg "list" = none) : FnOk P w K mg base CX0 1 f fd ["script", "budget"] (spTape K) := by
  refine F.ok scTape (fun vs H Q E h => ?_) (fun cdv A outer s H vs Q E hr h => ?_)
  · obtain ⟨a, ns, b, rfl, _⟩ := h
    rfl
  obtain ⟨a, ns, b, rfl, hS, q⟩ := h
  refine ⟨_, pss_one (ps_ret (pe_lst (pa_cons (pe_callTy call_list_of (by rfl) ml (by decide +kernel) (pa_cons (pv 0) pa_nil)) (pa_cons pe_int (pa_cons pe_int (pa_cons pe_int (pa_cons (pv 1) pa_nil))))))), ?_⟩
  refine ⟨_, rfl, a, _, rfl, .inl hS, fun l hl => ?_⟩
  refine ⟨_, rfl, (by show 5 ≤ sizeLine; decide), fun t ht => ?_⟩
  have n1 : t ≠ l := fun e => by rw [e, upd_same] at ht; cases ht
  have n2 : H t = none := by rw [upd_ne n1] at ht; exact ht
  exact q t l _ n2 hl ((same_new hl _).trans (same_new ht _)) ⟨⟨ns, by rw [upd_ne (fun e => n1 e.symm)]; exact upd_same⟩, ⟨0, 0, 1, b, Int.le_refl 0, upd_same⟩, fun e => n1 e.symm⟩
theorem ok_take (F : Fun K "_law_take" "_law_take" sTake f fd) (G : FnOk P w K mg base CX0 1 g gd ["number"] spMix) (bG : Binds K gd ["number"] []) (kG : PySem.W.keepIn K (.ref g) = true)
    (mG : mg "_law_mix" = some (.ref g)) (mi : mg "int" = none) (ml : mg "len" = none) : FnOk P w K mg base CX0 2 f fd ["tape", "many"] spTake := by
  refine F.ok scTake (fun vs H Q E h => ?_) (fun cdv A outer s H vs Q E hr h => ?_)
  · obtain ⟨a, l, m, rfl, _⟩ := h
    rfl
  obtain ⟨t, l, m, rfl, ⟨⟨ns, hl⟩, ⟨p, v, s, b, h4, h1⟩, h3⟩, m0, m1, q⟩ := h
  have h2 : SqL K H l (ns.map V.int) := SqL.of hl
  refine ⟨_, C8.pss_cut (ps_if (pt_cmpR op_lt (pe_ix ix_list (pv 0) pe_int (fun _ _ => rfl)) (pv 1) (nomark _))
      (pss_one (ps_if (pt_cmpR op_lt (pe_ix ix_list (pv 0) pe_int (fun _ _ => rfl)) (pe_callB call_len_seq (by rfl) ml PySem.boot_len (pa_cons (pe_ix ix_list (pv 0) pe_int (fun _ _ => rfl)) pa_nil)) (nomark _))
        (pss_cons (ps_set (i := 2) scTake.nd rfl (.inl rfl) (pe_ix ix_list (pe_ix ix_list (pv 0) pe_int (fun _ _ => rfl)) (pe_ix ix_list (pv 0) pe_int (fun _ _ => rfl)) (fun _ _ => rfl)))
        (C8.pss_cut (ps_set (i := 2) scTake.nd rfl (.inl rfl) (pe_ifExp (pt_cmpR op_ge (pv 2) pe_int (nomark _)) (pe_op op_mul pe_int (pv 2)) (pe_op op_sub (pe_op op_mul (pe_un un_neg pe_int) (pv 2)) pe_int)))
        (pss_cons (ps_asg (pe_op op_add (pe_ix ix_list (pv 0) pe_int (fun _ _ => rfl)) pe_int) (pg_sub (pv 0) pe_int set_list))
        (pss_cons (ps_asg (pe_call G hr rfl mG kG bG .nil pass0 (pa_cons (pe_op op_add (pe_ix ix_list (pv 0) pe_int (fun _ _ => rfl)) (pv 2)) pa_nil)) (pg_sub (pv 0) pe_int set_list))
        (pss_one (ps_asg (pe_ifExp (pt_cmpR op_ge (pv 2) (pe_op op_pow pe_int pe_int) (nomark _)) (pv 2) (pe_call G hr rfl mG kG bG .nil pass0 (pa_cons (pe_call G hr rfl mG kG bG .nil pass0 (pa_cons (pv 2) pa_nil)) pa_nil))) (pg_sub (pv 0) pe_int set_list)))))))
        (pss_cons (ps_asg (pe_call G hr rfl mG kG bG .nil pass0 (pa_cons (pe_op op_add (pe_ix ix_list (pv 0) pe_int (fun _ _ => rfl)) pe_int) pa_nil)) (pg_sub (pv 0) pe_int set_list))
        (pss_one (ps_asg (pe_ix ix_list (pv 0) pe_int (fun _ _ => rfl)) (pg_sub (pv 0) pe_int set_list))))))
      pss_nil)
    (pss_cons (ps_set (i := 3) scTake.nd rfl (.inl rfl) (pe_op op_mod (pe_callTy call_int1 (by rfl) mi (by decide +kernel) (pa_cons (pe_ix ix_list (pv 0) pe_int (fun _ _ => rfl)) pa_nil)) (pv 1)))
    (pss_cons (ps_asg (pe_op op_fdiv (pe_ix ix_list (pv 0) pe_int (fun _ _ => rfl)) (pv 1)) (pg_sub (pv 0) pe_int set_list))
    (pss_one (ps_ret (pv 3))))), ?_⟩
  refine ⟨fun σ H' => ∃ (c : Option V) (p' v' s' : Int), σ = [some (.ref t), some (.int m), c, none] ∧ But t H H' ∧ H' t = some (.lst [.ref l, .int p', .int v', .int s', .int b]) ∧ 0 ≤ p', ?_, ?_⟩
  · refine ⟨_, rfl, t, _, _, _, rfl, rfl, SqL.of h1, rfl, _, rfl, _, _, rfl, rfl, _, rfl, ?_⟩
    refine ite2 (fun _ => ?_) (fun _ => ⟨none, p, v, s, rfl, But.refl H, h1, h4⟩)
    refine ⟨_, rfl, t, _, _, _, rfl, rfl, SqL.of h1, rfl, _, rfl, t, _, _, _, rfl, rfl, SqL.of h1, rfl, l, _, rfl, .inl h2, _, _, rfl, rfl, _, rfl, ?_⟩
    refine ite2 (fun c => ?_) (fun _ => ?_)
    · have c1 : p < (((ns.map V.int).length : Nat) : Int) := of_decide_eq_true c
      rw [List.length_map] at c1
      have hk : p.toNat < ns.length := by omega
      have hx : (ns.map V.int)[p.toNat]? = some (.int ns[p.toNat]) := by rw [List.getElem?_map, List.getElem?_eq_getElem hk]; rfl
      refine ⟨_, rfl, t, _, _, _, rfl, rfl, SqL.of h1, rfl, _, rfl, t, _, _, _, rfl, rfl, SqL.of h1, rfl, l, _, _, _, rfl, rfl, h2, at_of (by omega) hx, ?_⟩
      generalize ns[p.toNat] = x
      refine ⟨fun σ H' => ∃ y : Int, σ = [some (.ref t), some (.int m), some (.int y), none] ∧ H' = H, ?_, ?_⟩
      · refine ⟨_, rfl, _, _, rfl, rfl, _, rfl, ite2 (fun _ => ?_) (fun _ => ?_)⟩
        · exact ⟨_, rfl, _, _, rfl, rfl, .inl ⟨by decide, by decide⟩, _, rfl, rfl⟩
        · exact ⟨_, rfl, _, rfl, _, _, rfl, rfl, .inl ⟨by decide, by decide⟩, _, _, rfl, rfl, _, rfl, rfl⟩
      · rintro σ H' ⟨y, rfl, rfl⟩
        refine ⟨_, rfl, t, _, _, _, rfl, rfl, SqL.of h1, rfl, _, _, rfl, rfl, _, rfl, t, _, _, _, rfl, rfl, h1, rfl, ?_⟩
        have k1 := But.wr (t := t) (H := H') (o := .lst [.ref l, .int (p + 1), .int v, .int s, .int b])
        refine ⟨_, rfl, t, _, _, _, rfl, rfl, SqL.of upd_same, rfl, _, rfl, _, _, rfl, rfl, _, rfl, fun r => ?_⟩
        refine ⟨_, rfl, t, _, _, _, rfl, rfl, upd_same, rfl, ?_⟩
        have k2 := k1.trans (But.wr (t := t) (o := .lst [.ref l, .int (p + 1), .int v, .int r, .int b]))
        refine ⟨_, rfl, _, _, rfl, rfl, ⟨by decide, by decide, by decide⟩, _, _, rfl, rfl, _, rfl, ite2 (fun _ => ?_) (fun _ => ?_)⟩
        · refine ⟨_, rfl, _, rfl, t, _, _, _, rfl, rfl, upd_same, rfl, ?_⟩
          exact ⟨_, p + 1, y, r, rfl, k2.trans But.wr, upd_same, by omega⟩
        · refine ⟨_, rfl, _, rfl, fun r1 => ⟨_, rfl, fun r2 => ⟨_, rfl, t, _, _, _, rfl, rfl, upd_same, rfl, ?_⟩⟩⟩
          exact ⟨_, p + 1, r2, r, rfl, k2.trans But.wr, upd_same, by omega⟩
    · refine ⟨_, rfl, t, _, _, _, rfl, rfl, SqL.of h1, rfl, _, _, rfl, rfl, _, rfl, fun r => ?_⟩
      refine ⟨_, rfl, t, _, _, _, rfl, rfl, h1, rfl, ?_⟩
      have k1 := But.wr (t := t) (H := H) (o := .lst [.ref l, .int p, .int v, .int r, .int b])
      refine ⟨_, rfl, t, _, _, _, rfl, rfl, SqL.of upd_same, rfl, _, rfl, t, _, _, _, rfl, rfl, upd_same, rfl, ?_⟩
      exact ⟨_, p, r, r, rfl, k1.trans But.wr, upd_same, h4⟩
  · rintro σ H' ⟨c, p', v', s', rfl, g, e1, e4⟩
    refine ⟨_, rfl, t, _, _, _, rfl, rfl, SqL.of e1, rfl, .inl ⟨_, rfl, _, rfl, _, _, rfl, rfl, m0, ?_⟩⟩
    refine ⟨_, rfl, t, _, _, _, rfl, rfl, SqL.of e1, rfl, _, rfl, _, _, rfl, rfl, ⟨m0, m1⟩, _, rfl, t, _, _, _, rfl, rfl, e1, rfl, _, rfl, ?_⟩
    exact q _ _ (Int.emod_nonneg _ (by omega)) (Int.emod_lt_of_pos _ m0) (g.trans But.wr) ⟨⟨ns, (g.trans But.wr) _ _ h3 hl⟩, ⟨p', _, s', b, e4, upd_same⟩, h3⟩
end
end Ver

/-! ## The switches that a law draws -/
namespace Ver
open PySem L2
abbrev sSws : Stmt := top 9
def pools : List (List Str) := [["a", "b", "c", "d", "e"], ["aa", "ab", "b", "ba", "zz"], ["big", "debug", "posix", "win", "x"]]
def Sws (sw : List Str) : Prop := sw ≠ [] ∧ ∃ names ∈ pools, sw.Sublist names
def subs {α : Type} : List α → List (List α)
  | [] => [[]]
  | x :: r => (subs r).map (x :: ·) ++ subs r
theorem mem_subs {α : Type} {l m : List α} (h : l.Sublist m) : l ∈ subs m := by
  induction h with
  | slnil => exact List.mem_singleton.mpr rfl
  | cons a _ ih => exact List.mem_append_right _ ih
  | cons_cons a _ ih => exact List.mem_append_left _ (List.mem_map.mpr ⟨_, ih, rfl⟩)
def swsAll : List (List Str) := (pools.flatMap subs).filter fun l => !l.isEmpty
theorem Sws.mem {sw : List Str} (h : Sws sw) : sw ∈ swsAll := by
  obtain ⟨h0, names, hn, hs⟩ := h
  refine List.mem_filter.mpr ⟨List.mem_flatMap.mpr ⟨names, hn, mem_subs hs⟩, ?_⟩
  cases sw with
  | nil => exact absurd rfl h0
  | cons a r => rfl
theorem Sws.all {sw : List Str} (h : Sws sw) {p : List Str → Bool} (d : swsAll.all p = true) : p sw = true := List.all_eq_true.mp d _ h.mem
def spSws : Sp := fun vs H Q _ => ∃ t l : Addr, vs = [.ref t] ∧ Tape H t l ∧
  ∀ (q : Addr) (H' : Hp) (sw : List Str), Sws sw → H' q = some (.tup (sw.map V.str)) → But t H H' → Tape H' t l → Q (.ref q) H'
section
variable {P : Program} {w : World} {K : PySem.W.Frag} {mg : Str → Option Value} {base : Heap} {f g : Addr} {fd gd : FuncData}
theorem scSws : FnScope ["tape", "pool", "kept", "name"] ["tape"] (defScope sSws) := ⟨rfl, rfl, rfl, by decide +kernel, rfl, by decide +kernel, by decide +kernel⟩
theorem ok_sws (F : Fun K "_law_switches" "_law_switches" sSws f fd) (G : FnOk P w K mg base CX0 2 g gd ["tape", "many"] spTake) (bG : Binds K gd ["tape", "many"] []) (kG : PySem.W.keepIn K (.ref g) = true)
    (mG : mg "_law_take" = some (.ref g)) (mt : mg "tuple" = none) (ml : mg "len" = none) : FnOk P w K mg base CX0 3 f fd ["tape"] spSws := by
  refine F.ok scSws (fun vs H Q E h => ?_) (fun cdv A outer s H vs Q E hr h => ?_)
  · obtain ⟨a, l, rfl, _⟩ := h
    rfl
  obtain ⟨t, l, rfl, hT, q⟩ := h
  refine ⟨_, C8.pss_cut (ps_set (i := 1) scSws.nd rfl (.inl rfl) (pe_ix ix_list (pe_lst (pa_cons (pe_lst (pa_cons pe_str (pa_cons pe_str (pa_cons pe_str (pa_cons pe_str (pa_cons pe_str pa_nil))))))
        (pa_cons (pe_lst (pa_cons pe_str (pa_cons pe_str (pa_cons pe_str (pa_cons pe_str (pa_cons pe_str pa_nil)))))) (pa_cons (pe_lst (pa_cons pe_str (pa_cons pe_str (pa_cons pe_str (pa_cons pe_str (pa_cons pe_str pa_nil)))))) pa_nil))))
        (pe_call G hr rfl mG kG bG .nil pass0 (pa_cons (pv 0) (pa_cons pe_int pa_nil))) (fun _ _ => rfl)))
    (pss_cons (ps_setLc (i := 2) (own := [("name", 3)]) (g := gName 3) (by rfl) scSws.nd rfl rfl (sw_true rfl rfl rfl (by decide +kernel)) (pi_list (pv 1)) (blkOk_by (own := [("name", 3)]) (N := ["tape", "pool", "kept", "name"]) (sc := defScope sSws) (by decide +kernel))
        (fun _ _ _ _ _ => pg_name (i := 3) scSws.nd rfl (Or.inl rfl)) (fun _ _ _ _ _ => pts_one (pt_cmpR op_eq (pe_call G hr rfl mG kG bG .nil pass0 (pa_cons (pv 0) (pa_cons pe_int pa_nil))) pe_int (nomark _))) (fun _ _ _ _ _ => pv 3))
    (pss_one (ps_ret (pe_ifExp (pt_cmpR op_gt (pe_callB call_len_seq (by rfl) ml PySem.boot_len (pa_cons (pv 2) pa_nil)) pe_int (nomark _)) (pe_callTy call_tuple_of (by rfl) mt (by decide +kernel) (pa_cons (pv 2) pa_nil))
        (pe_tup (pa_cons (pe_ix ix_list (pv 1) pe_int (fun _ _ => rfl)) pa_nil)))))), ?_⟩
  refine ⟨fun σ H' => ∃ (p : Addr) (names : List Str), σ = [some (.ref t), some (.ref p), none, none] ∧ names ∈ pools ∧ H' p = some (.lst (names.map V.str)) ∧ p ≠ t ∧ But t H H' ∧ Tape H' t l, ?_, ?_⟩
  · refine ⟨(by show 5 ≤ sizeLine; decide), fun p1 n1 => ⟨(by show 5 ≤ sizeLine; decide), fun p2 n2 => ⟨(by show 5 ≤ sizeLine; decide), fun p3 n3 => ⟨(by show 3 ≤ sizeLine; decide), fun p4 n4 => ?_⟩⟩⟩⟩
    have g1 := same_new n1 (.lst [.str "a", .str "b", .str "c", .str "d", .str "e"])
    have g2 := same_new n2 (.lst [.str "aa", .str "ab", .str "b", .str "ba", .str "zz"])
    have g3 := same_new n3 (.lst [.str "big", .str "debug", .str "posix", .str "win", .str "x"])
    have g4 := same_new n4 (.lst [.ref p1, .ref p2, .ref p3])
    have gA := ((g1.trans g2).trans g3).trans g4
    have hT' := hT.same gA
    refine ⟨_, rfl, t, l, 3, rfl, hT', by decide, by decide, fun d H' d0 d1 gB hB => ?_⟩
    have t1 : p1 ≠ t := hT.nt n1
    have t2 : p2 ≠ t := (hT.same g1).nt n2
    have t3 : p3 ≠ t := (hT.same (g1.trans g2)).nt n3
    have t4 : p4 ≠ t := (hT.same ((g1.trans g2).trans g3)).nt n4
    have e1 := gB _ _ t1 (g4 _ _ (g3 _ _ (g2 _ _ (upd_same (H := H) (a := p1) (o := .lst [.str "a", .str "b", .str "c", .str "d", .str "e"])))))
    have e2 := gB _ _ t2 (g4 _ _ (g3 _ _ (upd_same (a := p2) (o := .lst [.str "aa", .str "ab", .str "b", .str "ba", .str "zz"]))))
    have e3 := gB _ _ t3 (g4 _ _ (upd_same (a := p3) (o := .lst [.str "big", .str "debug", .str "posix", .str "win", .str "x"])))
    have e4 := gB _ _ t4 (upd_same (a := p4) (o := .lst [.ref p1, .ref p2, .ref p3]))
    have gC := (But.of gA (t := t)).trans gB
    have c : d = 0 ∨ d = 1 ∨ d = 2 := by omega
    rcases c with rfl | rfl | rfl
    · exact ⟨p4, _, _, _, rfl, rfl, SqL.of e4, rfl, p1, _, rfl, List.mem_cons_self, e1, t1, gC, hB⟩
    · exact ⟨p4, _, _, _, rfl, rfl, SqL.of e4, rfl, p2, _, rfl, List.mem_cons_of_mem _ List.mem_cons_self, e2, t2, gC, hB⟩
    · exact ⟨p4, _, _, _, rfl, rfl, SqL.of e4, rfl, p3, _, rfl, List.mem_cons_of_mem _ (List.mem_cons_of_mem _ List.mem_cons_self), e3, t3, gC, hB⟩
  · rintro σ H1 ⟨p, names, rfl, hn, hp, hpt, g1, hT1⟩
    refine ⟨_, rfl, p, rfl, ⟨_, SqL.of hp⟩, fun D hD => ?_⟩
    have dt : D ≠ t := hT1.nt hD
    have hlen : names.length = 5 := List.all_eq_true.mp (show pools.all (fun l => decide (l.length = 5)) = true by decide +kernel) _ hn |> of_decide_eq_true
    refine lc_list (xs := names.map V.str) (fun i H' => ∃ kept : List Str, kept.Sublist (names.take i) ∧ H' D = some (.lst (kept.map V.str)) ∧ H' p = some (.lst (names.map V.str)) ∧ But t H1 H' ∧ Tape H' t l) ?_ ?_ ?_ ?_
    · exact ⟨[], List.nil_sublist _, upd_same, same_new hD _ _ _ hp, But.of (same_new hD _), hT1.same (same_new hD _)⟩
    · rintro i H' _ ⟨kept, _, _, h3, _⟩
      exact SqL.of h3
    · rintro i x H2 hx ⟨kept, k1, k2, k3, k4, k5⟩
      have hi : i < names.length := by
        obtain ⟨z, _⟩ := List.getElem?_eq_some_iff.mp hx
        rw [List.length_map] at z
        exact z
      have ex : x = .str names[i] := by
        rw [List.getElem?_map, List.getElem?_eq_getElem hi] at hx
        exact (Option.some.inj hx).symm
      subst ex
      have tk : names.take (i + 1) = names.take i ++ [names[i]] := by rw [List.take_succ, List.getElem?_eq_getElem hi]; rfl
      refine ⟨rfl, _, rfl, t, l, 2, rfl, k5, by decide, by decide, fun d H3 _ _ g2 hT3 => ?_⟩
      refine ⟨rfl, _, rfl, ite2 (fun _ => ?_) (fun _ => ?_)⟩
      · refine ⟨_, rfl, _, g2 _ _ dt k2, ?_, kept ++ [names[i]], ?_, ?_, ?_, ?_, ?_⟩
        · have z := k1.length_le
          rw [List.length_take] at z
          rw [List.length_map]
          exact Nat.lt_of_le_of_lt (show kept.length ≤ 5 by omega) (by decide)
        · rw [tk]
          exact k1.append (List.Sublist.refl _)
        · rw [upd_same, List.map_append]
          rfl
        · rw [upd_ne (fun e => ?_)]
          · exact g2 _ _ hpt k3
          · rw [e, hD] at hp
            cases hp
        · exact (k4.trans g2).put hD
        · exact hT3.put dt (hT1.nl hD)
      · exact ⟨kept, k1.trans (by rw [tk]; exact List.sublist_append_left _ _), g2 _ _ dt k2, g2 _ _ hpt k3, k4.trans g2, hT3⟩
    · rintro H2 ⟨kept, k1, k2, k3, k4, k5⟩
      rw [List.length_map, List.take_length] at k1
      have g3 := g1.trans k4
      refine ⟨_, rfl, D, _, rfl, .inl (SqL.of k2), _, _, rfl, rfl, _, rfl, ite2 (fun c => ?_) (fun _ => ?_)⟩
      · refine ⟨_, rfl, D, _, rfl, .inl ⟨SqL.of k2, fun r hr => ?_⟩⟩
        refine q r _ kept ⟨?_, names, hn, k1⟩ upd_same (g3.trans (But.of (same_new hr _))) (k5.same (same_new hr _))
        have c1 : (0 : Int) < (((kept.map V.str).length : Nat) : Int) := of_decide_eq_true c
        rintro rfl
        exact absurd c1 (by decide)
      · obtain ⟨n0, r0, rfl⟩ : ∃ n0 r0, names = n0 :: r0 := by
          cases names with
          | nil => cases hlen
          | cons a r => exact ⟨a, r, rfl⟩
        refine ⟨_, rfl, p, _, _, _, rfl, rfl, SqL.of k3, at_of (j := 0) (v := .str n0) rfl rfl, (by show 1 ≤ sizeLine; decide), fun r hr => ?_⟩
        refine q r _ [n0] ⟨List.cons_ne_nil _ _, _, hn, ?_⟩ upd_same (g3.trans (But.of (same_new hr _))) (k5.same (same_new hr _))
        exact (List.nil_sublist r0).cons_cons n0
end
end Ver

/-! ## is_diagram -/
namespace Ver
open PySem L2
abbrev sFrom : Stmt := top 4
abbrev sIsDg : Stmt := top 3
def spFrom (n : Nat) : Sp := fun vs H Q _ => ∃ (v : V) (d : PyData) (l c : Int), vs = [v, .int l, .int c] ∧ Dv H v d ∧ 0 ≤ l ∧ l ≤ c ∧ c < n + l ∧ Q (.bl (isDg n d l c)) H
def spIsDg (n : Nat) : Sp := fun vs H Q _ => ∃ (v : V) (d : PyData) (c : Int), vs = [v, .int c] ∧ Dv H v d ∧ 0 ≤ c ∧ c < n ∧ Q (.bl (isDg n d 0 c)) H
section
variable {P : Program} {w : World} {K : PySem.W.Frag} {mg : Str → Option Value} {base : Heap} {f g : Addr} {fd gd : FuncData}
theorem scFrom : FnScope ["value", "least_index", "count", "i", "low", "high"] ["value", "least_index", "count"] (defScope sFrom) := ⟨rfl, rfl, rfl, by decide +kernel, rfl, by decide +kernel, by decide +kernel⟩
theorem scIsDg : FnScope ["value", "count"] ["value", "count"] (defScope sIsDg) := ⟨rfl, rfl, rfl, by decide +kernel, rfl, by decide +kernel, by decide +kernel⟩
theorem ok_from1 {n : Nat} (hn : n ≤ 30) (F : Fun K "_is_diagram_from" "_is_diagram_from" sFrom f fd) (G : FnOk P w K mg base CX0 n f fd ["value", "least_index", "count"] (spFrom n)) (bG : Binds K fd ["value", "least_index", "count"] []) (kG : PySem.W.keepIn K (.ref f) = true)
    (mG : mg "_is_diagram_from" = some (.ref f)) (mi : mg "isinstance" = none) (mb : mg "bool" = none) (mt : mg "tuple" = none) (mn : mg "int" = none) (ml : mg "len" = none) : FnOk P w K mg base CX0 (n + 1) f fd ["value", "least_index", "count"] (spFrom (n + 1)) := by
  refine F.ok scFrom (fun vs H Q E h => ?_) (fun cdv A outer s H vs Q E hr h => ?_)
  · obtain ⟨v, d, l, c, rfl, _⟩ := h
    rfl
  obtain ⟨v, d, l, c, rfl, hv, h0, h1, h2, q⟩ := h
  refine ⟨_, pss_cons (ps_if (pt_val (pe_callB call_isi (by rfl) mi (by decide +kernel) (pa_cons (pv 0) (pa_cons (pe_bltn (v := .ty "bool") (by rfl) mb (by decide +kernel) rfl) pa_nil)))) (pss_one (ps_ret pe_bl)) pss_nil)
    (pss_cons (ps_if (PW.pt (pw_or (pt_not (pt_val (pe_callB call_isi (by rfl) mi (by decide +kernel) (pa_cons (pv 0) (pa_cons (pe_bltn (v := .ty "tuple") (by rfl) mt (by decide +kernel) rfl) pa_nil)))))
        (pw_or1 (pt_cmpR op_ne (pe_callB call_len_seq (by rfl) ml PySem.boot_len (pa_cons (pv 0) pa_nil)) pe_int (nomark _))))) (pss_one (ps_ret pe_bl)) pss_nil)
    (pss_cons (ps_asg (pv 0) (pg_tup rfl (pgs_cons (pg_name (i := 3) scFrom.nd rfl (.inl rfl)) (pgs_cons (pg_name (i := 4) scFrom.nd rfl (.inl rfl)) (pgs_cons (pg_name (i := 5) scFrom.nd rfl (.inl rfl)) pgs_nil)))))
    (pss_cons (ps_if (PW.pt (pw_or (pt_not (pt_val (pe_callB call_isi (by rfl) mi (by decide +kernel) (pa_cons (pv 3) (pa_cons (pe_bltn (v := .ty "int") (by rfl) mn (by decide +kernel) rfl) pa_nil)))))
        (pw_or (pt_val (pe_callB call_isi (by rfl) mi (by decide +kernel) (pa_cons (pv 3) (pa_cons (pe_bltn (v := .ty "bool") (by rfl) mb (by decide +kernel) rfl) pa_nil))))
        (pw_or1 (pt_not (pt_chain op_le op_lt (pv 1) (pv 3) (pv 2))))))) (pss_one (ps_ret pe_bl)) pss_nil)
    (pss_cons (ps_if (PW.pt (pw_or (pt_not (pt_val (pe_call G hr rfl mG kG bG .nil pass0 (pa_cons (pv 4) (pa_cons (pe_op op_add (pv 3) pe_int) (pa_cons (pv 2) pa_nil))))))
        (pw_or1 (pt_not (pt_val (pe_call G hr rfl mG kG bG .nil pass0 (pa_cons (pv 5) (pa_cons (pe_op op_add (pv 3) pe_int) (pa_cons (pv 2) pa_nil))))))))) (pss_one (ps_ret pe_bl)) pss_nil)
    (pss_one (ps_ret (pe_cmpR (op_neD hr.units) (pv 4) (pv 5) (nomark _)))))))), ?_⟩
  refine ⟨_, rfl, _, _, _, _, _, rfl, .ty _, hv.ty, kit_bool d, _, rfl, ?_⟩
  match d, hv, q with
  | .bool b, hv, q => exact iteT q
  | .none, hv, q => exact iteF ⟨_, rfl, _, _, _, _, _, rfl, .ty _, hv.ty, kit_tup _, _, rfl, iteT (iteT q)⟩
  | .int _, hv, q => exact iteF ⟨_, rfl, _, _, _, _, _, rfl, .ty _, hv.ty, kit_tup _, _, rfl, iteT (iteT q)⟩
  | .str _, hv, q => exact iteF ⟨_, rfl, _, _, _, _, _, rfl, .ty _, hv.ty, kit_tup _, _, rfl, iteT (iteT q)⟩
  | .list _, hv, q => unfold Dv at hv; exact hv.elim
  | .dict _, hv, q => unfold Dv at hv; exact hv.elim
  | .tuple ds, hv, q =>
    obtain ⟨a, xs, rfl, e1, e2⟩ := hv.of_tup
    have el := e2.length
    refine iteF ⟨_, rfl, _, _, _, _, _, rfl, .ty _, hv.ty, kit_tup _, _, rfl, iteF ⟨_, rfl, a, xs, rfl, .inr (SqT.of e1), rfl, _, rfl, ?_⟩⟩
    refine ite2 (fun c0 => ?_) (fun c0 => ?_)
    · have e3 : ds.length ≠ 3 := fun e => by
        rw [el, e] at c0
        exact absurd c0 (by decide)
      rw [isDg_len e3] at q
      exact q
    have e3 : ds.length = 3 := by
      rw [el] at c0
      by_cases e : ds.length = 3
      · exact e
      · exfalso
        apply c0
        simp
        omega
    obtain ⟨i, lo, hi, rfl⟩ : ∃ i lo hi, ds = [i, lo, hi] := by
      match ds, e3 with
      | [i, lo, hi], _ => exact ⟨i, lo, hi, rfl⟩
    unfold DvAll DvAll DvAll DvAll at e2
    obtain ⟨vi, _, rfl, hi', vlo, _, rfl, hlo, vhi, _, rfl, hhi, rfl⟩ := e2
    refine ⟨_, rfl, a, _, rfl, SqT.of e1, rfl, _, _, rfl, _, _, rfl, _, _, rfl, rfl, ?_⟩
    refine ⟨_, rfl, _, _, _, _, _, rfl, .ty _, hi'.ty, kit_int _, _, rfl, ?_⟩
    refine ite2 (fun a1 => ?_) (fun a1 => ?_)
    · rw [isDg_head (not_int_of (b_of' a1))] at q
      exact iteT q
    refine ⟨_, rfl, _, _, _, _, _, rfl, .ty _, hi'.ty, kit_bool _, _, rfl, ?_⟩
    refine ite2 (fun a2 => ?_) (fun a2 => ?_)
    · rw [isDg_head (not_int_of' a2)] at q
      exact iteT q
    obtain ⟨i, rfl⟩ := isInt_cases (b_of a1) (Bool.eq_false_iff.mpr a2)
    cases hi'.of_int
    have eq : isDg (n + 1) (.tuple [.int i, lo, hi]) l c = (decide (l ≤ i) && decide (i < c) && isDg n lo (i + 1) c && isDg n hi (i + 1) c && !PyData.eqv lo hi) := rfl
    rw [eq] at q
    refine ⟨_, rfl, _, rfl, _, _, rfl, rfl, _, rfl, ite2 (fun c1 => ?_) (fun c1 => ?_)⟩
    · have c1' : l ≤ i := of_decide_eq_true c1
      refine ⟨_, rfl, _, _, rfl, rfl, _, rfl, ite2 (fun c2 => ?_) (fun c2 => ?_)⟩
      · have c2' : ¬ i < c := fun z => by
          rw [decide_eq_true z] at c2
          cases c2
        rw [decide_eq_false c2', Bool.and_false] at q
        exact q
      · have c2' : i < c := by
          by_cases z : i < c
          · exact z
          · rw [decide_eq_false z] at c2
            exact absurd rfl c2
        rw [c1, decide_eq_true c2'] at q
        refine ⟨_, rfl, _, rfl, _, _, rfl, rfl, _, rfl, vlo, lo, i + 1, c, rfl, hlo, by omega, by omega, by omega, _, rfl, ite2 (fun c3 => ?_) (fun c3 => ?_)⟩
        · have c3' : isDg n lo (i + 1) c = false := by
            cases z : isDg n lo (i + 1) c with
            | true => rw [z] at c3; cases c3
            | false => rfl
          rw [c3'] at q
          exact iteT q
        · have c3' : isDg n lo (i + 1) c = true := by
            cases z : isDg n lo (i + 1) c with
            | true => rfl
            | false => rw [z] at c3; exact absurd rfl c3
          refine ⟨_, rfl, _, rfl, _, _, rfl, rfl, _, rfl, vhi, hi, i + 1, c, rfl, hhi, by omega, by omega, by omega, _, rfl, ite2 (fun c4 => ?_) (fun c4 => ?_)⟩
          · have c4' : isDg n hi (i + 1) c = false := by
              cases z : isDg n hi (i + 1) c with
              | true => rw [z] at c4; cases c4
              | false => rfl
            rw [c3', c4'] at q
            exact q
          · have c4' : isDg n hi (i + 1) c = true := by
              cases z : isDg n hi (i + 1) c with
              | true => rfl
              | false => rw [z] at c4; exact absurd rfl c4
            obtain ⟨g1, rfl, k1⟩ := isDg_dg n c3' (by omega)
            obtain ⟨g2, rfl, k2⟩ := isDg_dg n c4' (by omega)
            rw [c3', c4'] at q
            exact ⟨_, rfl, _, rfl, _, _, hlo.dp, hhi.dp, Dg.shaped (by omega), Dg.shaped (by omega), q⟩
    · have c1' : decide (l ≤ i) = false := Bool.eq_false_iff.mpr c1
      rw [c1'] at q
      exact ⟨false, rfl, iteT q⟩
theorem ok_from0 : FnOk P w K mg base CX0 0 f fd ["value", "least_index", "count"] (spFrom 0) := by
  have no : ∀ vs H Q E, ¬ spFrom 0 vs H Q E := fun vs H Q E h => by
    obtain ⟨v, d, l, c, _, _, _, _, h, _⟩ := h
    omega
  exact ⟨fun vs H Q E h => absurd h (no vs H Q E), fun A outer s H args us vs Q E _ _ _ _ h => absurd h (no vs H Q E)⟩
theorem ok_from (F : Fun K "_is_diagram_from" "_is_diagram_from" sFrom f fd) (bG : Binds K fd ["value", "least_index", "count"] []) (mG : mg "_is_diagram_from" = some (.ref f)) (mi : mg "isinstance" = none) (mb : mg "bool" = none) (mt : mg "tuple" = none) (mn : mg "int" = none) (ml : mg "len" = none) :
    ∀ n, n ≤ 30 → FnOk P w K mg base CX0 n f fd ["value", "least_index", "count"] (spFrom n)
  | 0, _ => ok_from0
  | n + 1, h => ok_from1 (by omega) F (ok_from F bG mG mi mb mt mn ml n (by omega)) bG F.kp mG mi mb mt mn ml
theorem ok_isdg {n : Nat} (F : Fun K "is_diagram" "is_diagram" sIsDg f fd) (G : FnOk P w K mg base CX0 n g gd ["value", "least_index", "count"] (spFrom n)) (bG : Binds K gd ["value", "least_index", "count"] []) (kG : PySem.W.keepIn K (.ref g) = true)
    (mG : mg "_is_diagram_from" = some (.ref g)) : FnOk P w K mg base CX0 (n + 1) f fd ["value", "count"] (spIsDg n) := by
  refine F.ok scIsDg (fun vs H Q E h => ?_) (fun cdv A outer s H vs Q E hr h => ?_)
  · obtain ⟨v, d, c, rfl, _⟩ := h
    rfl
  obtain ⟨v, d, c, rfl, hv, h0, h1, q⟩ := h
  refine ⟨_, pss_one (ps_ret (pe_call G hr rfl mG kG bG .nil pass0 (pa_cons (pv 0) (pa_cons pe_int (pa_cons (pv 1) pa_nil))))), ?_⟩
  exact ⟨_, rfl, _, rfl, v, d, 0, c, rfl, hv, by omega, h0, by omega, q⟩
end
end Ver

/-! ## written -/
namespace Ver
open PySem L2
abbrev sWr : Stmt := top 1
abbrev sWi : Stmt := top 2
/-- what the two ask of the switches and the diagram -/
structure WrOk (K : PySem.W.Frag) (H : Hp) (a : Addr) (sw : List Str) (v : V) (d : Dg) : Prop where
  sws : SqT K H a (sw.map V.str)
  dat : Dv H v d.toD
  fit : d.Fit sw.length 0
  len : ∀ x ∈ sw, x.length ≤ 6
  ht : d.ht ≤ 6
theorem Dg.wr_1000 {sw : List Str} {d : Dg} (h : ∀ x ∈ sw, x.length ≤ 6) (k : d.ht ≤ 6) : (Dg.wr sw d).length + 12 ≤ 900 := by
  have := Dg.wr_len h d
  have p : 2 ^ d.ht ≤ 2 ^ 6 := Nat.pow_le_pow_right (by omega) k
  omega
theorem Dv.node {H : Hp} {v : V} {i : Nat} {lo hi : Dg} (h : Dv H v (Dg.node i lo hi).toD) : ∃ a x y, v = .ref a ∧ H a = some (.tup [.int i, x, y]) ∧ Dv H x lo.toD ∧ Dv H y hi.toD := by
  obtain ⟨a, xs, rfl, e1, e2⟩ := Dv.of_tup h
  unfold DvAll DvAll DvAll DvAll at e2
  obtain ⟨vi, _, rfl, h1, vlo, _, rfl, h2, vhi, _, rfl, h3, rfl⟩ := e2
  cases h1.of_int
  exact ⟨a, vlo, vhi, rfl, e1, h2, h3⟩
def spWr (K : PySem.W.Frag) (n : Nat) : Sp := fun vs H Q _ => ∃ (a : Addr) (sw : List Str) (v : V) (d : Dg), vs = [.ref a, v] ∧ WrOk K H a sw v d ∧ d.ht < n ∧ Q (.str (Dg.wr sw d)) H
def spWi (K : PySem.W.Frag) (n : Nat) : Sp := fun vs H Q _ => ∃ (a : Addr) (sw : List Str) (v : V) (d : Dg), vs = [.ref a, v] ∧ WrOk K H a sw v d ∧ d.ht < n ∧ Q (.str (Dg.wi sw d)) H
section
variable {P : Program} {w : World} {K : PySem.W.Frag} {mg : Str → Option Value} {base : Heap} {f g : Addr} {fd gd : FuncData}
theorem scWr : FnScope ["switches", "d", "i", "low", "high"] ["switches", "d"] (defScope sWr) := ⟨rfl, rfl, rfl, by decide +kernel, rfl, by decide +kernel, by decide +kernel⟩
theorem scWi : FnScope ["switches", "d", "text"] ["switches", "d"] (defScope sWi) := ⟨rfl, rfl, rfl, by decide +kernel, rfl, by decide +kernel, by decide +kernel⟩
theorem ok_wr {n k : Nat} (F : Fun K "written" "written" sWr f fd) (G : FnOk P w K mg base CX0 k g gd ["switches", "d"] (spWi K n)) (bG : Binds K gd ["switches", "d"] []) (kG : PySem.W.keepIn K (.ref g) = true)
    (mG : mg "_written_inside" = some (.ref g)) (mi : mg "isinstance" = none) (mt : mg "tuple" = none) : FnOk P w K mg base CX0 (k + 1) f fd ["switches", "d"] (spWr K (n + 1)) := by
  refine F.ok scWr (fun vs H Q E h => ?_) (fun cdv A outer s H vs Q E hr h => ?_)
  · obtain ⟨a, sw, v, d, rfl, _⟩ := h
    rfl
  obtain ⟨a, sw, v, d, rfl, ok, hn, q⟩ := h
  refine ⟨_, pss_cons (ps_if (pt_not (pt_val (pe_callB call_isi (by rfl) mi (by decide +kernel) (pa_cons (pv 1) (pa_cons (pe_bltn (v := .ty "tuple") (by rfl) mt (by decide +kernel) rfl) pa_nil)))))
      (pss_one (ps_ret (pe_ifExp (pt_val (pv 1)) pe_str pe_str))) pss_nil)
    (pss_cons (ps_asg (pv 1) (pg_tup rfl (pgs_cons (pg_name (i := 2) scWr.nd rfl (.inl rfl)) (pgs_cons (pg_name (i := 3) scWr.nd rfl (.inl rfl)) (pgs_cons (pg_name (i := 4) scWr.nd rfl (.inl rfl)) pgs_nil)))))
    (pss_one (ps_ret (pe_joined (PJ.cons (pe_fmt (pe_ix ix_tup (pv 0) (pv 2) (fun _ _ => rfl))) (PJ.cons pe_str (PJ.cons (pe_fmt (pe_call G hr rfl mG kG bG .nil pass0 (pa_cons (pv 0) (pa_cons (pv 4) pa_nil))))
      (PJ.cons pe_str (PJ.cons (pe_fmt (pe_call G hr rfl mG kG bG .nil pass0 (pa_cons (pv 0) (pa_cons (pv 3) pa_nil)))) PJ.nil))))))))), ?_⟩
  refine ⟨_, rfl, _, _, _, _, _, rfl, .ty _, ok.dat.ty, kit_tup _, _, rfl, ?_⟩
  match d, ok, hn, q with
  | .leaf b, ok, hn, q =>
    cases ok.dat.of_bool
    refine iteT ⟨_, rfl, _, rfl, ?_⟩
    have e : Dg.wr sw (.leaf b) = if b then ("1" : Str) else ("0" : Str) := rfl
    rw [e] at q
    cases b with
    | true => exact iteT q
    | false => exact iteF q
  | .node i lo hi, ok, hn, q =>
    obtain ⟨p, x, y, rfl, e1, hx, hy⟩ := ok.dat.node
    obtain ⟨f1, f2, f3, f4, f5⟩ := ok.fit
    have hh : max lo.ht hi.ht + 1 < n + 1 := hn
    have h6 : max lo.ht hi.ht + 1 ≤ 6 := ok.ht
    refine iteF ⟨_, rfl, p, _, rfl, SqT.of e1, rfl, _, _, rfl, _, _, rfl, _, _, rfl, rfl, ?_⟩
    have t := Dg.wr_1000 ok.len ok.ht
    rw [Dg.wr_node] at t q
    simp only [Str.length_append] at t
    have ei : (sw.map V.str)[i]? = some (.str (sw.getD i "")) := by
      rw [List.getElem?_map, List.getElem?_eq_getElem f2, List.getD_eq_getElem?_getD, List.getElem?_eq_getElem f2]
      rfl
    have l1 : (sw.getD i "").length ≤ 900 := by omega
    have l2 : (Dg.wi sw hi).length ≤ 900 := by omega
    have l3 : (Dg.wi sw lo).length ≤ 900 := by omega
    have l0 : Str.empty.length = 0 := rfl
    refine ⟨_, rfl, _, rfl, a, _, _, _, rfl, rfl, ok.sws, at_of rfl ei, .inl ⟨_, rfl, room5 (by omega), _, rfl, by rw [Str.length_append]; exact room5 (by omega), ?_⟩⟩
    refine ⟨_, rfl, by simp only [Str.length_append]; exact room5 (by omega), ?_⟩
    refine ⟨_, rfl, _, rfl, a, sw, y, hi, rfl, ⟨ok.sws, hy, f5.mono (Nat.le_refl _) (Nat.zero_le _), ok.len, by omega⟩, by omega, .inl ⟨_, rfl, room5 (by omega), _, rfl, by simp only [Str.length_append]; exact room5 (by omega), ?_⟩⟩
    refine ⟨_, rfl, by simp only [Str.length_append]; exact room5 (by omega), ?_⟩
    refine ⟨_, rfl, _, rfl, a, sw, x, lo, rfl, ⟨ok.sws, hx, f4.mono (Nat.le_refl _) (Nat.zero_le _), ok.len, by omega⟩, by omega, .inl ⟨_, rfl, room5 (by omega), _, rfl, by simp only [Str.length_append]; exact room5 (by omega), ?_⟩⟩
    show Q (.str (Str.empty ++ sw.getD i "" ++ "?" ++ Dg.wi sw hi ++ ":" ++ Dg.wi sw lo)) H
    rw [Str.empty_append]
    exact q
theorem ok_wi {n k : Nat} (F : Fun K "_written_inside" "_written_inside" sWi f fd) (G : FnOk P w K mg base CX0 k g gd ["switches", "d"] (spWr K n)) (bG : Binds K gd ["switches", "d"] []) (kG : PySem.W.keepIn K (.ref g) = true)
    (mG : mg "written" = some (.ref g)) (mi : mg "isinstance" = none) (mt : mg "tuple" = none) : FnOk P w K mg base CX0 (k + 1) f fd ["switches", "d"] (spWi K n) := by
  refine F.ok scWi (fun vs H Q E h => ?_) (fun cdv A outer s H vs Q E hr h => ?_)
  · obtain ⟨a, sw, v, d, rfl, _⟩ := h
    rfl
  obtain ⟨a, sw, v, d, rfl, ok, hn, q⟩ := h
  refine ⟨_, pss_cons (ps_set (i := 2) scWi.nd rfl (.inl rfl) (pe_call G hr rfl mG kG bG .nil pass0 (pa_cons (pv 0) (pa_cons (pv 1) pa_nil))))
    (pss_one (ps_ret (pe_ifExp (pt_val (pe_callB call_isi (by rfl) mi (by decide +kernel) (pa_cons (pv 1) (pa_cons (pe_bltn (v := .ty "tuple") (by rfl) mt (by decide +kernel) rfl) pa_nil))))
      (pe_joined (PJ.cons pe_str (PJ.cons (pe_fmt (pv 2)) (PJ.cons pe_str PJ.nil)))) (pv 2)))), ?_⟩
  refine ⟨_, rfl, _, rfl, a, sw, v, d, rfl, ok, hn, ?_⟩
  refine ⟨_, rfl, _, _, _, _, _, rfl, .ty _, ok.dat.ty, kit_tup _, _, rfl, ?_⟩
  have t := Dg.wr_1000 ok.len ok.ht
  match d, ok, hn, q, t with
  | .leaf b, ok, hn, q, t => exact iteF ⟨_, rfl, q⟩
  | .node i lo hi, ok, hn, q, t =>
    have l0 : Str.empty.length = 0 := rfl
    have l1 : ("(" : Str).length = 1 := rfl
    have l2 : (")" : Str).length = 1 := rfl
    refine iteT ⟨_, rfl, by rw [Str.length_append]; exact room5 (by omega), ?_⟩
    refine ⟨_, rfl, .inl ⟨_, rfl, room5 (by omega), _, rfl, by simp only [Str.length_append]; exact room5 (by omega), ?_⟩⟩
    refine ⟨_, rfl, by simp only [Str.length_append]; exact room5 (by omega), ?_⟩
    show Q (.str (Str.empty ++ "(" ++ Dg.wr sw (.node i lo hi) ++ ")")) H
    rw [Str.empty_append]
    exact q
theorem ok_wr0 : FnOk P w K mg base CX0 0 f fd ["switches", "d"] (spWi K 0) := by
  have no : ∀ vs H Q E, ¬ spWi K 0 vs H Q E := fun vs H Q E h => by
    obtain ⟨a, sw, v, d, _, _, h, _⟩ := h
    omega
  exact ⟨fun vs H Q E h => absurd h (no vs H Q E), fun A outer s H args us vs Q E _ _ _ _ h => absurd h (no vs H Q E)⟩
theorem ok_wrs (FW : Fun K "written" "written" sWr f fd) (bW : Binds K fd ["switches", "d"] []) (mW : mg "written" = some (.ref f)) (FI : Fun K "_written_inside" "_written_inside" sWi g gd) (bI : Binds K gd ["switches", "d"] [])
    (mI : mg "_written_inside" = some (.ref g)) (mi : mg "isinstance" = none) (mt : mg "tuple" = none) : ∀ n, FnOk P w K mg base CX0 (2 * n + 1) f fd ["switches", "d"] (spWr K (n + 1))
  | 0 => ok_wr FW ok_wr0 bI FI.kp mI mi mt
  | n + 1 => ok_wr FW (ok_wi FI (ok_wrs FW bW mW FI bI mI mi mt n) bW FW.kp mW mi mt) bI FI.kp mI mi mt
end
end Ver

/-! ## The law's own diagram of a list of truths -/
namespace Ver
open PySem L2
abbrev sLDg : Stmt := top 15
theorem Dg.mk_ht (k : Nat) (bits : List Bool) (i : Nat) : (Dg.mk k bits i).ht ≤ k := by
  have := (Dg.mk_fit k bits i).ht
  omega
def spLDg (n : Nat) : Sp := fun vs H Q _ => ∃ (a : Addr) (k : Nat) (bits : List Bool) (i : Nat), vs = [.ref a, .int i] ∧ H a = some (.lst (bits.map V.bl)) ∧ bits.length = 2 ^ k ∧ k < n ∧
  ∀ v H', Same H H' → Dv H' v (Dg.mk k bits i).toD → Q v H'
theorem cutV_lo {xs : List V} {k : Nat} (h : k ≤ xs.length) : cutV xs none (some (k : Int)) = xs.take k := by
  show (xs.drop 0).take (HT.sIx xs.length xs.length (some (k : Int)) - 0) = xs.take k
  rw [HT.sIx_nat, List.drop_zero, Nat.min_eq_left h]
  rfl
theorem cutV_hi {xs : List V} {k : Nat} (h : k ≤ xs.length) : cutV xs (some (k : Int)) none = xs.drop k := by
  show (xs.drop (HT.sIx xs.length 0 (some (k : Int)))).take (xs.length - HT.sIx xs.length 0 (some (k : Int))) = xs.drop k
  rw [HT.sIx_nat, Nat.min_eq_left h, List.take_of_length_le (by rw [List.length_drop]; exact Nat.le_refl _)]
section
variable {P : Program} {w : World} {K : PySem.W.Frag} {mg : Str → Option Value} {base : Heap} {f g : Addr} {fd gd : FuncData}
theorem scLDg : FnScope ["bits", "i", "half", "low", "high"] ["bits", "i"] (defScope sLDg) := ⟨rfl, rfl, rfl, by decide +kernel, rfl, by decide +kernel, by decide +kernel⟩
theorem ok_ldg1 {n : Nat} (hn : n ≤ 20) (F : Fun K "_law_diagram" "_law_diagram" sLDg f fd) (G : FnOk P w K mg base CX0 n f fd ["bits", "i"] (spLDg n)) (bG : Binds K fd ["bits", "i"] []) (kG : PySem.W.keepIn K (.ref f) = true)
    (mG : mg "_law_diagram" = some (.ref f)) (mi : mg "isinstance" = none) (mt : mg "tuple" = none) (ml : mg "len" = none) : FnOk P w K mg base CX0 (n + 1) f fd ["bits", "i"] (spLDg (n + 1)) := by
  refine F.ok scLDg (fun vs H Q E h => ?_) (fun cdv A outer s H vs Q E hr h => ?_)
  · obtain ⟨a, k, bits, i, rfl, _⟩ := h
    rfl
  obtain ⟨a, k, bits, i, rfl, hb, hl, hk, q⟩ := h
  refine ⟨_, pss_cons (ps_if (pt_cmpR op_eq (pe_callB call_len_seq (by rfl) ml PySem.boot_len (pa_cons (pv 0) pa_nil)) pe_int (nomark _)) (pss_one (ps_ret (pe_ix ix_list (pv 0) pe_int (fun _ _ => rfl)))) pss_nil)
    (pss_cons (ps_set (i := 2) scLDg.nd rfl (.inl rfl) (pe_op op_fdiv (pe_callB call_len_seq (by rfl) ml PySem.boot_len (pa_cons (pv 0) pa_nil)) pe_int))
    (pss_cons (ps_set (i := 3) scLDg.nd rfl (.inl rfl) (pe_call G hr rfl mG kG bG .nil pass0 (pa_cons (pe_slice sl_list (pv 0) po_none (po_some (pv 2))) (pa_cons (pe_op op_add (pv 1) pe_int) pa_nil))))
    (pss_cons (ps_set (i := 4) scLDg.nd rfl (.inl rfl) (pe_call G hr rfl mG kG bG .nil pass0 (pa_cons (pe_slice sl_list (pv 0) (po_some (pv 2)) po_none) (pa_cons (pe_op op_add (pv 1) pe_int) pa_nil))))
    (pss_cons (ps_if (PW.pt (pw_and (pt_cmpR (op_eqD hr.units) (pv 3) (pv 4) (nomark _))
        (pw_and1 (pt_cmpR op_eq (pe_callB call_isi (by rfl) mi (by decide +kernel) (pa_cons (pv 3) (pa_cons (pe_bltn (v := .ty "tuple") (by rfl) mt (by decide +kernel) rfl) pa_nil)))
          (pe_callB call_isi (by rfl) mi (by decide +kernel) (pa_cons (pv 4) (pa_cons (pe_bltn (v := .ty "tuple") (by rfl) mt (by decide +kernel) rfl) pa_nil))) (nomark _))))) (pss_one (ps_ret (pv 3))) pss_nil)
    (pss_one (ps_ret (pe_tup (pa_cons (pv 1) (pa_cons (pv 3) (pa_cons (pv 4) pa_nil)))))))))), ?_⟩
  have hl' : (bits.map V.bl).length = 2 ^ k := by rw [List.length_map, hl]
  refine ⟨_, rfl, a, _, rfl, .inl (SqL.of hb), rfl, _, rfl, ?_⟩
  rw [hl']
  match k, hl, hk, q, hl' with
  | 0, hl, hk, q, hl' =>
    obtain ⟨b, rfl⟩ : ∃ b, bits = [b] := by
      match bits, hl with
      | [b], _ => exact ⟨b, rfl⟩
    refine iteT ⟨_, rfl, a, _, _, _, rfl, rfl, SqL.of hb, at_of (j := 0) (v := .bl b) rfl rfl, ?_⟩
    exact q _ H (Same.refl H) Dv.bool
  | k + 1, hl, hk, q, hl' =>
    have p2 : 2 ^ (k + 1) = 2 * 2 ^ k := by rw [Nat.pow_succ]; omega
    have p1 : 1 ≤ 2 ^ k := Nat.one_le_two_pow
    refine ite2 (fun c => ?_) (fun _ => ?_)
    · exfalso
      have c' := of_decide_eq_true c
      injection c' with c'
      omega
    refine ⟨_, rfl, a, _, rfl, .inl (SqL.of hb), ((2 ^ (k + 1) : Nat) : Int), _, congrArg (fun n : Nat => V.int (n : Int)) hl', rfl, ⟨by decide, by decide⟩, ?_⟩
    have eh : (((2 ^ (k + 1) : Nat) : Int) / 2) = ((2 ^ k : Nat) : Int) := by omega
    have hle : 2 ^ k ≤ (bits.map V.bl).length := by omega
    refine ⟨_, rfl, _, rfl, ((2 ^ k : Nat) : Int), congrArg V.int eh, a, _, rfl, SqL.of hb, fun p1' n1 => ?_⟩
    rw [cutV_lo hle, ← List.map_take]
    have g1 := same_new n1 (.lst ((bits.take (2 ^ k)).map V.bl))
    refine ⟨_, rfl, _, _, rfl, rfl, p1', k, bits.take (2 ^ k), i + 1, rfl, upd_same, by rw [List.length_take]; omega, by omega, fun vlo H2 g2 d1 => ?_⟩
    have g12 := g1.trans g2
    refine ⟨_, rfl, _, rfl, ((2 ^ k : Nat) : Int), congrArg V.int eh, a, _, rfl, SqL.of (g12 _ _ hb), fun p2' n2 => ?_⟩
    rw [cutV_hi hle, ← List.map_drop]
    have g3 := same_new n2 (.lst ((bits.drop (2 ^ k)).map V.bl))
    refine ⟨_, rfl, _, _, rfl, rfl, p2', k, bits.drop (2 ^ k), i + 1, rfl, upd_same, by rw [List.length_drop]; omega, by omega, fun vhi H4 g4 d2 => ?_⟩
    have g34 := g3.trans g4
    have gA := g12.trans g34
    have d1' := Dv.keep (KeepT.of g34) _ _ d1
    have em : Dg.mk (k + 1) bits i = Dg.fork i (Dg.mk k (bits.take (2 ^ k)) (i + 1)) (Dg.mk k (bits.drop (2 ^ k)) (i + 1)) := rfl
    rw [em] at q
    have hlo := Dg.mk_ht k (bits.take (2 ^ k)) (i + 1)
    have hhi := Dg.mk_ht k (bits.drop (2 ^ k)) (i + 1)
    generalize Dg.mk k (bits.take (2 ^ k)) (i + 1) = lo at q d1' hlo
    generalize Dg.mk k (bits.drop (2 ^ k)) (i + 1) = hi at q d2 hhi
    refine ⟨_, rfl, _, rfl, _, _, d1'.dp, d2.dp, Dg.shaped (by omega), Dg.shaped (by omega), _, rfl, ?_⟩
    rw [Dg.eqv_toD]
    unfold Dg.fork at q
    refine ite2 (fun c => ?_) (fun c => ?_)
    · have c' : lo = hi := of_decide_eq_true c
      subst c'
      refine ⟨_, rfl, _, _, _, _, _, rfl, .ty _, d1'.ty, kit_tup _, _, rfl, _, _, _, _, _, rfl, .ty _, d2.ty, kit_tup _, rfl, _, rfl, ?_⟩
      rw [decide_eq_true rfl]
      rw [if_pos rfl] at q
      exact iteT ⟨_, rfl, q _ H4 gA d1'⟩
    · have c' : ¬ lo = hi := of_decide_eq_false (Bool.eq_false_iff.mpr c)
      rw [if_neg c'] at q
      refine iteF ⟨_, rfl, _, rfl, _, rfl, (by show 3 ≤ sizeLine; decide), fun r hr' => ?_⟩
      have g5 := same_new hr' (.tup [.int i, vlo, vhi])
      exact q _ _ (gA.trans g5) (Dv.tup upd_same (DvAll.cons Dv.int (DvAll.cons (Dv.keep (KeepT.of g5) _ _ d1') (DvAll.cons (Dv.keep (KeepT.of g5) _ _ d2) DvAll.nil))))
theorem ok_ldg0 : FnOk P w K mg base CX0 0 f fd ["bits", "i"] (spLDg 0) := by
  have no : ∀ vs H Q E, ¬ spLDg 0 vs H Q E := fun vs H Q E h => by
    obtain ⟨a, k, bits, i, _, _, _, h, _⟩ := h
    omega
  exact ⟨fun vs H Q E h => absurd h (no vs H Q E), fun A outer s H args us vs Q E _ _ _ _ h => absurd h (no vs H Q E)⟩
theorem ok_ldg (F : Fun K "_law_diagram" "_law_diagram" sLDg f fd) (bG : Binds K fd ["bits", "i"] []) (mG : mg "_law_diagram" = some (.ref f)) (mi : mg "isinstance" = none) (mt : mg "tuple" = none) (ml : mg "len" = none) :
    ∀ n, n ≤ 20 → FnOk P w K mg base CX0 n f fd ["bits", "i"] (spLDg n)
  | 0, _ => ok_ldg0
  | n + 1, h => ok_ldg1 (by omega) F (ok_ldg F bG mG mi mt ml n (by omega)) bG F.kp mG mi mt ml
end
end Ver

/-! ## The law's own written form -/
namespace Ver
open PySem L2
abbrev sLWr : Stmt := top 17
def spLWr (K : PySem.W.Frag) (n : Nat) : Sp := fun vs H Q _ => ∃ (a : Addr) (sw : List Str) (v : V) (d : Dg), vs = [.ref a, v] ∧ WrOk K H a sw v d ∧ d.ht < n ∧ ∀ H', Same H H' → Q (.str (Dg.wr sw d)) H'
theorem same_tup {K : PySem.W.Frag} {H H' : Hp} {a : Addr} {xs : List V} (e : Same H H') (h : SqT K H a xs) : SqT K H' a xs := by
  rcases h with (h | ⟨o, h⟩) | h
  · exact .inl (.inl (e _ _ h))
  · exact .inl (.inr ⟨o, e _ _ h⟩)
  · exact .inr h
theorem WrOk.same {K : PySem.W.Frag} {H H' : Hp} {a : Addr} {sw : List Str} {v : V} {d : Dg} (h : WrOk K H a sw v d) (e : Same H H') : WrOk K H' a sw v d := ⟨same_tup e h.sws, Dv.keep (KeepT.of e) _ _ h.dat, h.fit, h.len, h.ht⟩
section
variable {P : Program} {w : World} {K : PySem.W.Frag} {mg : Str → Option Value} {base : Heap} {f g : Addr} {fd gd : FuncData}
theorem scLWr : FnScope ["switches", "d", "parts", "inner", "text"] ["switches", "d"] (defScope sLWr) := ⟨rfl, rfl, rfl, by decide +kernel, rfl, by decide +kernel, by decide +kernel⟩
theorem ok_lwr1 {n : Nat} (F : Fun K "_law_written" "_law_written" sLWr f fd) (G : FnOk P w K mg base CX0 n f fd ["switches", "d"] (spLWr K n)) (bG : Binds K fd ["switches", "d"] []) (kG : PySem.W.keepIn K (.ref f) = true)
    (mG : mg "_law_written" = some (.ref f)) (mi : mg "isinstance" = none) (mb : mg "bool" = none) : FnOk P w K mg base CX0 (n + 1) f fd ["switches", "d"] (spLWr K (n + 1)) := by
  refine F.ok scLWr (fun vs H Q E h => ?_) (fun cdv A outer s H vs Q E hr h => ?_)
  · obtain ⟨a, sw, v, d, rfl, _⟩ := h
    rfl
  obtain ⟨a, sw, v, d, rfl, ok, hn, q⟩ := h
  refine ⟨_, pss_cons (ps_if (pt_val (pe_callB call_isi (by rfl) mi (by decide +kernel) (pa_cons (pv 1) (pa_cons (pe_bltn (v := .ty "bool") (by rfl) mb (by decide +kernel) rfl) pa_nil))))
      (pss_one (ps_ret (pe_ifExp (pt_val (pv 1)) pe_str pe_str))) pss_nil)
    (pss_cons (ps_set (i := 2) scLWr.nd rfl (.inl rfl) (pe_lst pa_nil))
    (pss_cons (ps_for PassesOwn.never rfl (pi_tup (pe_tup (pa_cons (pe_ix ix_tup (pv 1) pe_int (fun _ _ => rfl)) (pa_cons (pe_ix ix_tup (pv 1) pe_int (fun _ _ => rfl)) pa_nil)))) (pg_name (i := 3) scLWr.nd rfl (.inl rfl))
      (pss_cons (ps_set (i := 4) scLWr.nd rfl (.inl rfl) (pe_call G hr rfl mG kG bG .nil pass0 (pa_cons (pv 0) (pa_cons (pv 3) pa_nil))))
      (pss_one (ps_expr (pe_bm PySem.F.plainAttrs_list PySem.F.slot_list_append PySem.F.type_list_append mt_append (pv 2)
        (pa_cons (pe_ifExp (pt_val (pe_callB call_isi (by rfl) mi (by decide +kernel) (pa_cons (pv 3) (pa_cons (pe_bltn (v := .ty "bool") (by rfl) mb (by decide +kernel) rfl) pa_nil)))) (pv 4)
          (pe_op op_add_str (pe_op op_add_str pe_str (pv 4)) pe_str)) pa_nil))))))
    (pss_one (ps_ret (pe_op op_add_str (pe_op op_add_str (pe_op op_add_str (pe_op op_add_str (pe_ix ix_tup (pv 0) (pe_ix ix_tup (pv 1) pe_int (fun _ _ => rfl)) (fun _ _ => rfl)) pe_str)
      (pe_ix ix_list (pv 2) pe_int (fun _ _ => rfl))) pe_str) (pe_ix ix_list (pv 2) pe_int (fun _ _ => rfl))))))), ?_⟩
  refine ⟨_, rfl, _, _, _, _, _, rfl, .ty _, ok.dat.ty, kit_bool _, _, rfl, ?_⟩
  match d, ok, hn, q with
  | .leaf b, ok, hn, q =>
    cases ok.dat.of_bool
    refine iteT ⟨_, rfl, _, rfl, ?_⟩
    have e : Dg.wr sw (.leaf b) = if b then ("1" : Str) else ("0" : Str) := rfl
    rw [e] at q
    cases b with
    | true => exact iteT (q H (Same.refl H))
    | false => exact iteF (q H (Same.refl H))
  | .node i lo hi, ok, hn, q =>
    obtain ⟨p, x, y, rfl, e1, hx, hy⟩ := ok.dat.node
    obtain ⟨f1, f2, f3, f4, f5⟩ := ok.fit
    have hh : max lo.ht hi.ht + 1 < n + 1 := hn
    have h6 : max lo.ht hi.ht + 1 ≤ 6 := ok.ht
    have t := Dg.wr_1000 ok.len ok.ht
    rw [Dg.wr_node] at t q
    simp only [Str.length_append] at t
    have tl := Dg.wr_1000 (d := lo) ok.len (by omega)
    have th := Dg.wr_1000 (d := hi) ok.len (by omega)
    have ei : (sw.map V.str)[i]? = some (.str (sw.getD i "")) := by
      rw [List.getElem?_map, List.getElem?_eq_getElem f2, List.getD_eq_getElem?_getD, List.getElem?_eq_getElem f2]
      rfl
    have okl : ∀ {H' : Hp}, Same H H' → WrOk K H' a sw x lo := fun g => ⟨same_tup g ok.sws, Dv.keep (KeepT.of g) _ _ hx, f4.mono (Nat.le_refl _) (Nat.zero_le _), ok.len, by omega⟩
    have okh : ∀ {H' : Hp}, Same H H' → WrOk K H' a sw y hi := fun g => ⟨same_tup g ok.sws, Dv.keep (KeepT.of g) _ _ hy, f5.mono (Nat.le_refl _) (Nat.zero_le _), ok.len, by omega⟩
    refine iteF ⟨(by show 0 ≤ sizeLine; decide), fun r hr1 => ?_⟩
    have g1 := same_new hr1 (.lst [])
    refine ⟨_, rfl, p, _, _, _, rfl, rfl, SqT.of (g1 _ _ e1), at_of (j := 2) (v := y) rfl rfl, _, rfl, p, _, _, _, rfl, rfl, SqT.of (g1 _ _ e1), at_of (j := 1) (v := x) rfl rfl, (by show 2 ≤ sizeLine; decide), fun u hu => ?_⟩
    have g2 := same_new hu (.tup [y, x])
    have hru : r ≠ u := ne_of_none upd_same hu
    refine ⟨u, rfl, ⟨_, SqT.of upd_same⟩, ?_⟩
    refine for_tup (xs := [y, x]) (fun j σ H' => ∃ c3 c4 : Option V, σ = [some (.ref a), some (.ref p), some (.ref r), c3, c4] ∧ Same H H' ∧ H' u = some (.tup [y, x]) ∧ H' r = some (.lst (([Dg.wi sw hi, Dg.wi sw lo].take j).map V.str))) ?_ ?_ ?_ ?_
    · exact ⟨none, none, rfl, g1.trans g2, upd_same, by rw [upd_ne hru, upd_same]; rfl⟩
    · rintro j σ H' _ ⟨_, _, _, _, h3, _⟩
      exact SqT.of h3
    · rintro j z σ H' hz ⟨c3, c4, rfl, k1, k2, k3⟩
      have hj : j = 0 ∧ z = y ∨ j = 1 ∧ z = x := by
        match j, hz with
        | 0, hz => exact .inl ⟨rfl, (Option.some.inj hz).symm⟩
        | 1, hz => exact .inr ⟨rfl, (Option.some.inj hz).symm⟩
      obtain ⟨d', okd, hd', ht', te'⟩ : ∃ d' : Dg, WrOk K H' a sw z d' ∧ d'.ht < n ∧ (Dg.wr sw d').length + 12 ≤ 900 ∧ ([Dg.wi sw hi, Dg.wi sw lo].take (j + 1)) = ([Dg.wi sw hi, Dg.wi sw lo].take j) ++ [Dg.wi sw d'] := by
        rcases hj with ⟨rfl, rfl⟩ | ⟨rfl, rfl⟩
        · exact ⟨hi, okh k1, by omega, th, rfl⟩
        · exact ⟨lo, okl k1, by omega, tl, rfl⟩
      refine ⟨_, rfl, _, rfl, a, sw, z, d', rfl, okd, hd', fun H2 k4 => ?_⟩
      have hlen : ([Dg.wi sw hi, Dg.wi sw lo].take j).length ≤ 2 := by rw [List.length_take]; exact Nat.min_le_right _ _
      have fin : ∀ s' : Str, s' = Dg.wi sw d' → ∃ c3 c4 : Option V, [some (.ref a), some (.ref p), some (.ref r), some z, some (V.str (Dg.wr sw d'))] = [some (.ref a), some (.ref p), some (.ref r), c3, c4] ∧ Same H (upd H2 r (.lst ((([Dg.wi sw hi, Dg.wi sw lo].take j).map V.str) ++ [V.str s']))) ∧
          (upd H2 r (.lst ((([Dg.wi sw hi, Dg.wi sw lo].take j).map V.str) ++ [V.str s']))) u = some (.tup [y, x]) ∧ (upd H2 r (.lst ((([Dg.wi sw hi, Dg.wi sw lo].take j).map V.str) ++ [V.str s']))) r = some (.lst (([Dg.wi sw hi, Dg.wi sw lo].take (j + 1)).map V.str)) := by
        rintro s' rfl
        refine ⟨_, _, rfl, same_put (k1.trans k4) hr1, by rw [upd_ne (fun e => hru e.symm)]; exact k4 _ _ k2, ?_⟩
        rw [upd_same, te', List.map_append]
        rfl
      refine ⟨_, rfl, .inl ⟨rfl, _, SqL.of (k4 _ _ k3)⟩, _, rfl, _, _, _, _, _, rfl, .ty _, (okd.same k4).dat.ty, kit_bool _, _, rfl, ?_⟩
      match d', okd, ht', fin with
      | .leaf b, okd, ht', fin => exact iteT ⟨_, rfl, r, _, _, rfl, rfl, k4 _ _ k3, by rw [List.length_map]; exact Nat.lt_of_le_of_lt hlen (by decide), fin _ rfl⟩
      | .node _ _ _, okd, ht', fin =>
        have l1 : ("(" : Str).length = 1 := rfl
        have l2 : (")" : Str).length = 1 := rfl
        exact iteF ⟨_, rfl, _, _, rfl, rfl, room5 (by omega), _, _, rfl, rfl, (by rw [Str.length_append]; exact room5 (by omega)), r, _, _, rfl, rfl, k4 _ _ k3, by rw [List.length_map]; exact Nat.lt_of_le_of_lt hlen (by decide), fin _ rfl⟩
    · rintro σ H' ⟨c3, c4, rfl, k1, k2, k3⟩
      have e0 : (([Dg.wi sw hi, Dg.wi sw lo].take ([y, x] : List V).length).map V.str) = [V.str (Dg.wi sw hi), V.str (Dg.wi sw lo)] := rfl
      rw [e0] at k3
      refine ⟨_, rfl, _, rfl, p, _, _, _, rfl, rfl, SqT.of (k1 _ _ e1), at_of (j := 0) (v := .int i) rfl rfl, a, _, _, _, rfl, rfl, same_tup k1 ok.sws, at_of rfl ei, _, _, rfl, rfl, room5 (by (try simp only [Str.length_append]); omega), ?_⟩
      refine ⟨_, rfl, r, _, _, _, rfl, rfl, SqL.of k3, at_of (j := 0) (v := .str (Dg.wi sw hi)) rfl rfl, _, _, rfl, rfl, room5 (by simp only [Str.length_append]; omega), _, _, rfl, rfl, room5 (by (try simp only [Str.length_append]); omega), ?_⟩
      refine ⟨_, rfl, r, _, _, _, rfl, rfl, SqL.of k3, at_of (j := 1) (v := .str (Dg.wi sw lo)) rfl rfl, _, _, rfl, rfl, room5 (by (try simp only [Str.length_append]); omega), ?_⟩
      exact q H' k1
theorem ok_lwr0 : FnOk P w K mg base CX0 0 f fd ["switches", "d"] (spLWr K 0) := by
  have no : ∀ vs H Q E, ¬ spLWr K 0 vs H Q E := fun vs H Q E h => by
    obtain ⟨a, sw, v, d, _, _, h, _⟩ := h
    omega
  exact ⟨fun vs H Q E h => absurd h (no vs H Q E), fun A outer s H args us vs Q E _ _ _ _ h => absurd h (no vs H Q E)⟩
theorem ok_lwr (F : Fun K "_law_written" "_law_written" sLWr f fd) (bG : Binds K fd ["switches", "d"] []) (mG : mg "_law_written" = some (.ref f)) (mi : mg "isinstance" = none) (mb : mg "bool" = none) :
    ∀ n, FnOk P w K mg base CX0 n f fd ["switches", "d"] (spLWr K n)
  | 0 => ok_lwr0
  | n + 1 => ok_lwr1 F (ok_lwr F bG mG mi mb n) bG F.kp mG mi mb
end
end Ver

/-! ## The values that are no diagrams -/
namespace Ver
open PySem L2
abbrev sBad : Stmt := top 18
abbrev T3 (a b c : PyData) : PyData := .tuple [a, b, c]
abbrev dT : PyData := .bool true
abbrev dF : PyData := .bool false
def rows1 (c : Int) : List PyData := [T3 (.int c) dF dT, T3 (.int 0) dT dT, T3 (.int 0) dF dF, .tuple [.int 0, dF], .tuple [.int 0, dF, dT, dT], .str "a", .int 1, .int 0, .str "", .tuple [],
  T3 (.str "0") dF dT, T3 (.int (-1)) dF dT, T3 (.int 0) (.int 0) (.int 1), T3 (.int 0) (T3 (.int 0) dF dT) dT, T3 (.int 0) dF (T3 (.int 0) dT dF)]
def rows2 : List PyData := [T3 (.int 1) (T3 (.int 0) dF dT) dT, T3 (.int 0) (T3 (.int 1) dF dT) (T3 (.int 1) dF dT), T3 (.int 0) dF (T3 (.int 1) dT dT)]
def rows3 (i : Nat) (lo hi : PyData) : List PyData := [T3 (.int i) lo (.str "x"), .tuple ([.int i, lo, hi] ++ [dF]), .tuple ([.int i, lo, hi].take 2), T3 (.int i) (T3 (.int i) lo hi) hi]
def badRows (c : Int) : Dg → List PyData
  | .leaf _ => rows1 c ++ rows2
  | .node i lo hi => rows1 c ++ rows2 ++ rows3 i lo.toD hi.toD
theorem isDg_tup {n : Nat} {i : Int} {lo hi : PyData} {l c : Int} : isDg (n + 1) (T3 (.int i) lo hi) l c = (decide (l ≤ i) && decide (i < c) && isDg n lo (i + 1) c && isDg n hi (i + 1) c && !PyData.eqv lo hi) := rfl
theorem isDg_lt {n : Nat} {i : Int} {lo hi : PyData} {l c : Int} (h : ¬ (l ≤ i ∧ i < c)) : isDg n (T3 (.int i) lo hi) l c = false := by
  cases n with
  | zero => rfl
  | succ n =>
    rw [isDg_tup]
    by_cases a : l ≤ i
    · by_cases b : i < c
      · exact absurd ⟨a, b⟩ h
      · rw [decide_eq_false b]; simp
    · rw [decide_eq_false a]; rfl
theorem isDg_lo {n : Nat} {i : Int} {lo hi : PyData} {l c : Int} (h : isDg n lo (i + 1) c = false) : isDg (n + 1) (T3 (.int i) lo hi) l c = false := by rw [isDg_tup, h]; simp
theorem isDg_hi {n : Nat} {i : Int} {lo hi : PyData} {l c : Int} (h : isDg n hi (i + 1) c = false) : isDg (n + 1) (T3 (.int i) lo hi) l c = false := by rw [isDg_tup, h]; simp
theorem isDg_eq {n : Nat} {i : Int} {lo hi : PyData} {l c : Int} (h : PyData.eqv lo hi = true) : isDg (n + 1) (T3 (.int i) lo hi) l c = false := by rw [isDg_tup, h]; simp
theorem bad_no {c : Int} {d : Dg} (hc : 0 ≤ c) : ∀ x ∈ badRows c d, isDg 6 x 0 c = false := by
  have h1 : ∀ x ∈ rows1 c, isDg 6 x 0 c = false := by
    intro x hx
    simp only [rows1, List.mem_cons, List.mem_nil_iff, or_false] at hx
    rcases hx with rfl | rfl | rfl | rfl | rfl | rfl | rfl | rfl | rfl | rfl | rfl | rfl | rfl | rfl | rfl
    · exact isDg_lt (by omega)
    · exact isDg_eq (by simp [PyData.eqv])
    · exact isDg_eq (by simp [PyData.eqv])
    · exact isDg_len (by decide)
    · exact isDg_len (by decide)
    · rfl
    · rfl
    · rfl
    · rfl
    · rfl
    · rfl
    · exact isDg_lt (by omega)
    · exact isDg_lo rfl
    · exact isDg_lo (isDg_lt (by omega))
    · exact isDg_hi (isDg_lt (by omega))
  have h2 : ∀ x ∈ rows2, isDg 6 x 0 c = false := by
    intro x hx
    simp only [rows2, List.mem_cons, List.mem_nil_iff, or_false] at hx
    rcases hx with rfl | rfl | rfl
    · exact isDg_lo (isDg_lt (by omega))
    · exact isDg_eq (by simp [PyData.eqv, PyData.eqvAll])
    · exact isDg_hi (isDg_eq (by simp [PyData.eqv]))
  have h3 : ∀ (i : Nat) (lo hi : PyData), ∀ x ∈ rows3 i lo hi, isDg 6 x 0 c = false := by
    intro i lo hi x hx
    simp only [rows3, List.mem_cons, List.mem_nil_iff, or_false] at hx
    rcases hx with rfl | rfl | rfl | rfl
    · exact isDg_hi rfl
    · exact isDg_len (by show 4 ≠ 3; decide)
    · exact isDg_len (by show 2 ≠ 3; decide)
    · exact isDg_lo (isDg_lt (by omega))
  intro x hx
  cases d with
  | leaf b =>
    rcases List.mem_append.mp hx with h | h
    · exact h1 x h
    · exact h2 x h
  | node i lo hi =>
    rcases List.mem_append.mp hx with h | h
    · rcases List.mem_append.mp h with h | h
      · exact h1 x h
      · exact h2 x h
    · exact h3 _ _ _ x h
def spBad : Sp := fun vs H Q _ => ∃ (t l : Addr) (v : V) (d : Dg) (c : Int), vs = [.ref t, v, .int c] ∧ Tape H t l ∧ Dv H v d.toD ∧
  ∀ v' x H', x ∈ badRows c d → Dv H' v' x → But t H H' → Tape H' t l → Q v' H'
section
variable {P : Program} {w : World} {K : PySem.W.Frag} {mg : Str → Option Value} {base : Heap} {f g : Addr} {fd gd : FuncData}
theorem scBad : FnScope ["tape", "d", "count", "rows"] ["tape", "d", "count"] (defScope sBad) := ⟨rfl, rfl, rfl, by decide +kernel, rfl, by decide +kernel, by decide +kernel⟩
/-- where the def stands when rows is made: its slots, and the rows so far -/
def BadMid (H : Hp) (t : Addr) (v : V) (c : Int) (ds : List PyData) : St → Hp → Prop := fun σ H' => ∃ (p : Addr) (xs : List V), σ = [some (.ref t), some v, some (.int c), some (.ref p)] ∧ p ≠ t ∧ Same H H' ∧ H' p = some (.lst xs) ∧ DvAll H' xs ds
theorem ok_bad (F : Fun K "_law_bad" "_law_bad" sBad f fd) (G : FnOk P w K mg base CX0 2 g gd ["tape", "many"] spTake) (bG : Binds K gd ["tape", "many"] []) (kG : PySem.W.keepIn K (.ref g) = true)
    (mG : mg "_law_take" = some (.ref g)) (mi : mg "isinstance" = none) (mt : mg "tuple" = none) (ml : mg "len" = none) : FnOk P w K mg base CX0 3 f fd ["tape", "d", "count"] spBad := by
  refine F.ok scBad (fun vs H Q E h => ?_) (fun cdv A outer s H vs Q E hr h => ?_)
  · obtain ⟨t, l, v, d, c, rfl, _⟩ := h
    rfl
  obtain ⟨t, l, v, d, c, rfl, hT, hv, q⟩ := h
  have m1 : (1, d.toD) ∈ [(1, d.toD), (2, PyData.int c)] := List.mem_cons_self
  have m2 : (2, PyData.int c) ∈ [(1, d.toD), (2, PyData.int c)] := List.mem_cons_of_mem _ List.mem_cons_self
  have ev : ∀ {H' : Hp} {r : Option V}, Same H H' → EnvOk [some (.ref t), some v, some (.int c), r] H' [(1, d.toD), (2, PyData.int c)] := fun {H' r} g i x hm => by
    rcases List.mem_cons.mp hm with e | hm
    · cases e
      exact ⟨v, rfl, Dv.keep (KeepT.of g) _ _ hv⟩
    · rcases List.mem_cons.mp hm with e | hm
      · cases e
        exact ⟨_, rfl, Dv.int⟩
      · cases hm
  cases d with
  | leaf b =>
    refine ⟨_, C8.pss_cut (ps_set (i := 3) scBad.nd rfl (.inl rfl) (pe_lstD (ds := rows1 c) (env := [(1, (Dg.leaf b).toD), (2, .int c)]) (pds_cons (pd_tup (pds_cons (pd_v 2 (pv 2) m2) (pds_cons pd_bl (pds_cons pd_bl pds_nil))) (Nat.le_of_ble_eq_true rfl)) (pds_cons (pd_tup (pds_cons pd_int (pds_cons pd_bl (pds_cons pd_bl pds_nil))) (Nat.le_of_ble_eq_true rfl)) (pds_cons (pd_tup (pds_cons pd_int (pds_cons pd_bl (pds_cons pd_bl pds_nil))) (Nat.le_of_ble_eq_true rfl)) (pds_cons (pd_tup (pds_cons pd_int (pds_cons pd_bl pds_nil)) (Nat.le_of_ble_eq_true rfl)) (pds_cons (pd_tup (pds_cons pd_int (pds_cons pd_bl (pds_cons pd_bl (pds_cons pd_bl pds_nil)))) (Nat.le_of_ble_eq_true rfl)) (pds_cons pd_str (pds_cons pd_int (pds_cons pd_int (pds_cons pd_str (pds_cons (pd_tup pds_nil (Nat.le_of_ble_eq_true rfl)) (pds_cons (pd_tup (pds_cons pd_str (pds_cons pd_bl (pds_cons pd_bl pds_nil))) (Nat.le_of_ble_eq_true rfl)) (pds_cons (pd_tup (pds_cons pd_neg (pds_cons pd_bl (pds_cons pd_bl pds_nil))) (Nat.le_of_ble_eq_true rfl)) (pds_cons (pd_tup (pds_cons pd_int (pds_cons pd_int (pds_cons pd_int pds_nil))) (Nat.le_of_ble_eq_true rfl)) (pds_cons (pd_tup (pds_cons pd_int (pds_cons (pd_tup (pds_cons pd_int (pds_cons pd_bl (pds_cons pd_bl pds_nil))) (Nat.le_of_ble_eq_true rfl)) (pds_cons pd_bl pds_nil))) (Nat.le_of_ble_eq_true rfl)) (pds_cons (pd_tup (pds_cons pd_int (pds_cons pd_bl (pds_cons (pd_tup (pds_cons pd_int (pds_cons pd_bl (pds_cons pd_bl pds_nil))) (Nat.le_of_ble_eq_true rfl)) pds_nil))) (Nat.le_of_ble_eq_true rfl)) pds_nil))))))))))))))) (show 15 ≤ 1000 by decide)))
    (C8.pss_cut (ps_if (pt_cmpR op_gt (pv 2) pe_int (nomark _)) (pss_one (ps_set (i := 3) scBad.nd rfl (.inl rfl) (pe_op op_cat (pv 3) (pe_lstD (ds := rows2) (env := [(1, (Dg.leaf b).toD), (2, .int c)]) (pds_cons (pd_tup (pds_cons pd_int (pds_cons (pd_tup (pds_cons pd_int (pds_cons pd_bl (pds_cons pd_bl pds_nil))) (Nat.le_of_ble_eq_true rfl)) (pds_cons pd_bl pds_nil))) (Nat.le_of_ble_eq_true rfl)) (pds_cons (pd_tup (pds_cons pd_int (pds_cons (pd_tup (pds_cons pd_int (pds_cons pd_bl (pds_cons pd_bl pds_nil))) (Nat.le_of_ble_eq_true rfl)) (pds_cons (pd_tup (pds_cons pd_int (pds_cons pd_bl (pds_cons pd_bl pds_nil))) (Nat.le_of_ble_eq_true rfl)) pds_nil))) (Nat.le_of_ble_eq_true rfl)) (pds_cons (pd_tup (pds_cons pd_int (pds_cons pd_bl (pds_cons (pd_tup (pds_cons pd_int (pds_cons pd_bl (pds_cons pd_bl pds_nil))) (Nat.le_of_ble_eq_true rfl)) pds_nil))) (Nat.le_of_ble_eq_true rfl)) pds_nil))) (Nat.le_of_ble_eq_true rfl))))) pss_nil)
    (C8.pss_cut (ps_if (pt_val (pe_callB call_isi (by rfl) mi (by decide +kernel) (pa_cons (pv 1) (pa_cons (pe_bltn (v := .ty "tuple") (by rfl) mt (by decide +kernel) rfl) pa_nil)))) pss_never pss_nil)
    (pss_one (ps_ret (pe_ix ix_list (pv 3) (pe_call G hr rfl mG kG bG .nil pass0 (pa_cons (pv 0) (pa_cons (pe_callB call_len_seq (by rfl) ml PySem.boot_len (pa_cons (pv 3) pa_nil)) pa_nil))) (fun _ _ => rfl)))))), ?_⟩
    refine ⟨BadMid H t v c (rows1 c), ?_, ?_⟩
    · exact ⟨ev (Same.refl H), fun p xs H1 hp g1 h1 h2 => ⟨p, xs, rfl, hT.nt hp, g1, h1, h2⟩⟩
    · rintro σ H1 ⟨p, xs, rfl, hpt, g1, e1, e2⟩
      refine ⟨fun σ H' => ∃ ds : List PyData, ds ≠ [] ∧ ds.length ≤ 50 ∧ (∀ x ∈ ds, x ∈ rows1 c ++ rows2) ∧ BadMid H t v c ds σ H', ?_, ?_⟩
      · refine ⟨_, rfl, _, _, rfl, rfl, _, rfl, ite2 (fun _ => ?_) (fun _ => ⟨rows1 c, List.cons_ne_nil _ _, (by show 15 ≤ 50; decide), fun x hx => List.mem_append_left _ hx, p, xs, rfl, hpt, g1, e1, e2⟩)⟩
        refine ⟨_, rfl, ev g1, fun p2 ys H2 n2 g2 h1 h2 => ?_⟩
        have l1 := e2.length
        have l2 := h2.length
        refine ⟨p, p2, xs, ys, rfl, rfl, g2 _ _ e1, h1, (by rw [l1, l2]; show 18 ≤ sizeLine; decide), fun p3 n3 => ?_⟩
        have g3 := same_new n3 (.lst (xs ++ ys))
        exact ⟨rows1 c ++ rows2, List.cons_ne_nil _ _, (by show 18 ≤ 50; decide), fun x hx => hx, p3, xs ++ ys, rfl, (hT.same (g1.trans g2)).nt n3, (g1.trans g2).trans g3, upd_same, DvAll.append (DvAll.keep (KeepT.of (g2.trans g3)) _ _ e2) (DvAll.keep (KeepT.of g3) _ _ h2)⟩
      · rintro σ H1 ⟨ds, hne, hlen, hsub, p, xs, rfl, hpt, g1, e1, e2⟩
        refine ⟨fun σ H' => ∃ ds : List PyData, ds ≠ [] ∧ ds.length ≤ 60 ∧ (∀ x ∈ ds, x ∈ badRows c (.leaf b)) ∧ BadMid H t v c ds σ H', ?_, ?_⟩
        · refine ⟨_, rfl, _, _, _, _, _, rfl, .ty _, (Dv.keep (KeepT.of g1) _ _ hv).ty, kit_tup _, _, rfl, iteF ?_⟩
          exact ⟨ds, hne, by omega, hsub, p, xs, rfl, hpt, g1, e1, e2⟩
        · rintro σ H1 ⟨ds, hne, hlen, hsub, p, xs, rfl, hpt, g1, e1, e2⟩
          have el := e2.length
          have hpos : 0 < ds.length := List.length_pos_iff.mpr hne
          refine ⟨_, rfl, _, rfl, _, rfl, p, _, rfl, .inl (SqL.of e1), t, l, _, rfl, hT.same g1, by omega, by omega, fun j H2 j0 j1 g2 hT2 => ?_⟩
          have hj : j.toNat < ds.length := by omega
          obtain ⟨x, k1, k2⟩ := DvAll.get e2 (List.getElem?_eq_getElem hj)
          exact ⟨p, xs, j, x, rfl, rfl, SqL.of (g2 _ _ hpt e1), at_of (by omega) k1, q x _ H2 (hsub _ (List.getElem_mem hj)) (Dv.keep (g2.keepT (hT.same g1)) _ _ k2) ((But.of g1).trans g2) hT2⟩
  | node i lo hi =>
    refine ⟨_, C8.pss_cut (ps_set (i := 3) scBad.nd rfl (.inl rfl) (pe_lstD (ds := rows1 c) (env := [(1, .tuple [.int i, lo.toD, hi.toD]), (2, .int c)]) (pds_cons (pd_tup (pds_cons (pd_v 2 (pv 2) m2) (pds_cons pd_bl (pds_cons pd_bl pds_nil))) (Nat.le_of_ble_eq_true rfl)) (pds_cons (pd_tup (pds_cons pd_int (pds_cons pd_bl (pds_cons pd_bl pds_nil))) (Nat.le_of_ble_eq_true rfl)) (pds_cons (pd_tup (pds_cons pd_int (pds_cons pd_bl (pds_cons pd_bl pds_nil))) (Nat.le_of_ble_eq_true rfl)) (pds_cons (pd_tup (pds_cons pd_int (pds_cons pd_bl pds_nil)) (Nat.le_of_ble_eq_true rfl)) (pds_cons (pd_tup (pds_cons pd_int (pds_cons pd_bl (pds_cons pd_bl (pds_cons pd_bl pds_nil)))) (Nat.le_of_ble_eq_true rfl)) (pds_cons pd_str (pds_cons pd_int (pds_cons pd_int (pds_cons pd_str (pds_cons (pd_tup pds_nil (Nat.le_of_ble_eq_true rfl)) (pds_cons (pd_tup (pds_cons pd_str (pds_cons pd_bl (pds_cons pd_bl pds_nil))) (Nat.le_of_ble_eq_true rfl)) (pds_cons (pd_tup (pds_cons pd_neg (pds_cons pd_bl (pds_cons pd_bl pds_nil))) (Nat.le_of_ble_eq_true rfl)) (pds_cons (pd_tup (pds_cons pd_int (pds_cons pd_int (pds_cons pd_int pds_nil))) (Nat.le_of_ble_eq_true rfl)) (pds_cons (pd_tup (pds_cons pd_int (pds_cons (pd_tup (pds_cons pd_int (pds_cons pd_bl (pds_cons pd_bl pds_nil))) (Nat.le_of_ble_eq_true rfl)) (pds_cons pd_bl pds_nil))) (Nat.le_of_ble_eq_true rfl)) (pds_cons (pd_tup (pds_cons pd_int (pds_cons pd_bl (pds_cons (pd_tup (pds_cons pd_int (pds_cons pd_bl (pds_cons pd_bl pds_nil))) (Nat.le_of_ble_eq_true rfl)) pds_nil))) (Nat.le_of_ble_eq_true rfl)) pds_nil))))))))))))))) (show 15 ≤ 1000 by decide)))
    (C8.pss_cut (ps_if (pt_cmpR op_gt (pv 2) pe_int (nomark _)) (pss_one (ps_set (i := 3) scBad.nd rfl (.inl rfl) (pe_op op_cat (pv 3) (pe_lstD (ds := rows2) (env := [(1, .tuple [.int i, lo.toD, hi.toD]), (2, .int c)]) (pds_cons (pd_tup (pds_cons pd_int (pds_cons (pd_tup (pds_cons pd_int (pds_cons pd_bl (pds_cons pd_bl pds_nil))) (Nat.le_of_ble_eq_true rfl)) (pds_cons pd_bl pds_nil))) (Nat.le_of_ble_eq_true rfl)) (pds_cons (pd_tup (pds_cons pd_int (pds_cons (pd_tup (pds_cons pd_int (pds_cons pd_bl (pds_cons pd_bl pds_nil))) (Nat.le_of_ble_eq_true rfl)) (pds_cons (pd_tup (pds_cons pd_int (pds_cons pd_bl (pds_cons pd_bl pds_nil))) (Nat.le_of_ble_eq_true rfl)) pds_nil))) (Nat.le_of_ble_eq_true rfl)) (pds_cons (pd_tup (pds_cons pd_int (pds_cons pd_bl (pds_cons (pd_tup (pds_cons pd_int (pds_cons pd_bl (pds_cons pd_bl pds_nil))) (Nat.le_of_ble_eq_true rfl)) pds_nil))) (Nat.le_of_ble_eq_true rfl)) pds_nil))) (Nat.le_of_ble_eq_true rfl))))) pss_nil)
    (C8.pss_cut (ps_if (pt_val (pe_callB call_isi (by rfl) mi (by decide +kernel) (pa_cons (pv 1) (pa_cons (pe_bltn (v := .ty "tuple") (by rfl) mt (by decide +kernel) rfl) pa_nil)))) (pss_one (ps_set (i := 3) scBad.nd rfl (.inl rfl) (pe_op op_cat (pv 3) (pe_lstD (ds := rows3 i lo.toD hi.toD) (env := [(1, .tuple [.int i, lo.toD, hi.toD]), (2, .int c)]) (pds_cons (pd_tup (pds_cons (pd_ix (pd_v 1 (pv 1) m1) (i := 0) rfl) (pds_cons (pd_ix (pd_v 1 (pv 1) m1) (i := 1) rfl) (pds_cons pd_str pds_nil))) (Nat.le_of_ble_eq_true rfl)) (pds_cons (pd_cat (pd_v 1 (pv 1) m1) (pd_tup (pds_cons pd_bl pds_nil) (Nat.le_of_ble_eq_true rfl)) (List.cons_ne_nil _ _) (List.cons_ne_nil _ _) (Nat.le_of_ble_eq_true rfl)) (pds_cons (pd_take (pd_v 1 (pv 1) m1) (Nat.le_of_ble_eq_true rfl)) (pds_cons (pd_tup (pds_cons (pd_ix (pd_v 1 (pv 1) m1) (i := 0) rfl) (pds_cons (pd_v 1 (pv 1) m1) (pds_cons (pd_ix (pd_v 1 (pv 1) m1) (i := 2) rfl) pds_nil))) (Nat.le_of_ble_eq_true rfl)) pds_nil)))) (Nat.le_of_ble_eq_true rfl))))) pss_nil)
    (pss_one (ps_ret (pe_ix ix_list (pv 3) (pe_call G hr rfl mG kG bG .nil pass0 (pa_cons (pv 0) (pa_cons (pe_callB call_len_seq (by rfl) ml PySem.boot_len (pa_cons (pv 3) pa_nil)) pa_nil))) (fun _ _ => rfl)))))), ?_⟩
    refine ⟨BadMid H t v c (rows1 c), ?_, ?_⟩
    · exact ⟨ev (Same.refl H), fun p xs H1 hp g1 h1 h2 => ⟨p, xs, rfl, hT.nt hp, g1, h1, h2⟩⟩
    · rintro σ H1 ⟨p, xs, rfl, hpt, g1, e1, e2⟩
      refine ⟨fun σ H' => ∃ ds : List PyData, ds ≠ [] ∧ ds.length ≤ 50 ∧ (∀ x ∈ ds, x ∈ rows1 c ++ rows2) ∧ BadMid H t v c ds σ H', ?_, ?_⟩
      · refine ⟨_, rfl, _, _, rfl, rfl, _, rfl, ite2 (fun _ => ?_) (fun _ => ⟨rows1 c, List.cons_ne_nil _ _, (by show 15 ≤ 50; decide), fun x hx => List.mem_append_left _ hx, p, xs, rfl, hpt, g1, e1, e2⟩)⟩
        refine ⟨_, rfl, ev g1, fun p2 ys H2 n2 g2 h1 h2 => ?_⟩
        have l1 := e2.length
        have l2 := h2.length
        refine ⟨p, p2, xs, ys, rfl, rfl, g2 _ _ e1, h1, (by rw [l1, l2]; show 18 ≤ sizeLine; decide), fun p3 n3 => ?_⟩
        have g3 := same_new n3 (.lst (xs ++ ys))
        exact ⟨rows1 c ++ rows2, List.cons_ne_nil _ _, (by show 18 ≤ 50; decide), fun x hx => hx, p3, xs ++ ys, rfl, (hT.same (g1.trans g2)).nt n3, (g1.trans g2).trans g3, upd_same, DvAll.append (DvAll.keep (KeepT.of (g2.trans g3)) _ _ e2) (DvAll.keep (KeepT.of g3) _ _ h2)⟩
      · rintro σ H1 ⟨ds, hne, hlen, hsub, p, xs, rfl, hpt, g1, e1, e2⟩
        refine ⟨fun σ H' => ∃ ds : List PyData, ds ≠ [] ∧ ds.length ≤ 60 ∧ (∀ x ∈ ds, x ∈ badRows c (.node i lo hi)) ∧ BadMid H t v c ds σ H', ?_, ?_⟩
        · refine ⟨_, rfl, _, _, _, _, _, rfl, .ty _, (Dv.keep (KeepT.of g1) _ _ hv).ty, kit_tup _, _, rfl, iteT ?_⟩
          refine ⟨_, rfl, ev g1, fun p2 ys H2 n2 g2 h1 h2 => ?_⟩
          have l1 := e2.length
          have l2 := h2.length
          have l3 : (rows3 i lo.toD hi.toD).length = 4 := rfl
          refine ⟨p, p2, xs, ys, rfl, rfl, g2 _ _ e1, h1, room5 (by omega), fun p3 n3 => ?_⟩
          have g3 := same_new n3 (.lst (xs ++ ys))
          refine ⟨ds ++ rows3 i lo.toD hi.toD, ?_, ?_, ?_, p3, xs ++ ys, rfl, (hT.same (g1.trans g2)).nt n3, (g1.trans g2).trans g3, upd_same, DvAll.append (DvAll.keep (KeepT.of (g2.trans g3)) _ _ e2) (DvAll.keep (KeepT.of g3) _ _ h2)⟩
          · intro z
            exact hne (List.append_eq_nil_iff.mp z).1
          · rw [List.length_append]
            omega
          · intro x hx
            rcases List.mem_append.mp hx with hx | hx
            · exact List.mem_append_left _ (hsub x hx)
            · exact List.mem_append_right _ hx
        · rintro σ H1 ⟨ds, hne, hlen, hsub, p, xs, rfl, hpt, g1, e1, e2⟩
          have el := e2.length
          have hpos : 0 < ds.length := List.length_pos_iff.mpr hne
          refine ⟨_, rfl, _, rfl, _, rfl, p, _, rfl, .inl (SqL.of e1), t, l, _, rfl, hT.same g1, by omega, by omega, fun j H2 j0 j1 g2 hT2 => ?_⟩
          have hj : j.toNat < ds.length := by omega
          obtain ⟨x, k1, k2⟩ := DvAll.get e2 (List.getElem?_eq_getElem hj)
          exact ⟨p, xs, j, x, rfl, rfl, SqL.of (g2 _ _ hpt e1), at_of (by omega) k1, q x _ H2 (hsub _ (List.getElem_mem hj)) (Dv.keep (g2.keepT (hT.same g1)) _ _ k2) ((But.of g1).trans g2) hT2⟩
end
end Ver

/-! ## The law -/
namespace Ver
open PySem L2
abbrev sLaw : Stmt := top 19
def spLaw (K : PySem.W.Frag) : Sp := fun vs H Q _ => ∃ (a : Addr) (ns : List Int), vs = [.ref a] ∧ SqL K H a (ns.map V.int) ∧ ∀ H', Q (.bl true) H'
theorem sws_len {sw : List Str} (h : Sws sw) : 1 ≤ sw.length ∧ sw.length ≤ 5 := by
  have := h.all (p := fun l => decide (1 ≤ l.length ∧ l.length ≤ 5)) (by decide +kernel)
  exact of_decide_eq_true this
theorem sws_short {sw : List Str} (h : Sws sw) : ∀ x ∈ sw, x.length ≤ 6 := by
  have := h.all (p := fun l => l.all fun x => decide (x.length ≤ 6)) (by decide +kernel)
  exact fun x hx => of_decide_eq_true (List.all_eq_true.mp this x hx)
section
variable {P : Program} {w : World} {K : PySem.W.Frag} {mg : Str → Option Value} {base : Heap} {f g : Addr} {fd gd : FuncData}
theorem scLaw : FnScope ["script", "tape", "switches", "count", "d", "k"] ["script"] (defScope sLaw) := ⟨rfl, rfl, rfl, by decide +kernel, rfl, by decide +kernel, by decide +kernel⟩
theorem ok_law {a1 a2 a3 a4 a5 a6 a7 a8 : Addr} {d1 d2 d3 d4 d5 d6 d7 d8 : FuncData} (F : Fun K "law" "law" sLaw f fd)
    (GT : FnOk P w K mg base CX0 1 a1 d1 ["script", "budget"] (spTape K)) (bT : Binds K d1 ["script", "budget"] []) (kT : PySem.W.keepIn K (.ref a1) = true) (mT : mg "_law_tape" = some (.ref a1))
    (GS : FnOk P w K mg base CX0 3 a2 d2 ["tape"] spSws) (bS : Binds K d2 ["tape"] []) (kS : PySem.W.keepIn K (.ref a2) = true) (mS : mg "_law_switches" = some (.ref a2))
    (GD : FnOk P w K mg base CX0 6 a3 d3 ["bits", "i"] (spLDg 6)) (bD : Binds K d3 ["bits", "i"] []) (kD : PySem.W.keepIn K (.ref a3) = true) (mD : mg "_law_diagram" = some (.ref a3))
    (GK : FnOk P w K mg base CX0 2 a4 d4 ["tape", "many"] spTake) (bK : Binds K d4 ["tape", "many"] []) (kK : PySem.W.keepIn K (.ref a4) = true) (mK : mg "_law_take" = some (.ref a4))
    (GW : FnOk P w K mg base CX0 13 a5 d5 ["switches", "d"] (spWr K 7)) (bW : Binds K d5 ["switches", "d"] []) (kW : PySem.W.keepIn K (.ref a5) = true) (mW : mg "written" = some (.ref a5))
    (GL : FnOk P w K mg base CX0 7 a6 d6 ["switches", "d"] (spLWr K 7)) (bL : Binds K d6 ["switches", "d"] []) (kL : PySem.W.keepIn K (.ref a6) = true) (mL : mg "_law_written" = some (.ref a6))
    (GI : FnOk P w K mg base CX0 7 a7 d7 ["value", "count"] (spIsDg 6)) (bI : Binds K d7 ["value", "count"] []) (kI : PySem.W.keepIn K (.ref a7) = true) (mI : mg "is_diagram" = some (.ref a7))
    (GB : FnOk P w K mg base CX0 3 a8 d8 ["tape", "d", "count"] spBad) (bB : Binds K d8 ["tape", "d", "count"] []) (kB : PySem.W.keepIn K (.ref a8) = true) (mB : mg "_law_bad" = some (.ref a8))
    (mi : mg "isinstance" = none) (mt : mg "tuple" = none) (ml : mg "len" = none) (mr : mg "range" = none) : FnOk P w K mg base CX0 14 f fd ["script"] (spLaw K) := by
  refine F.ok scLaw (fun vs H Q E h => ?_) (fun cdv A outer s H vs Q E hr h => ?_)
  · obtain ⟨a, ns, rfl, _⟩ := h
    rfl
  obtain ⟨a, ns, rfl, hS, q⟩ := h
  have hr1 := hr.mono (show 1 ≤ 13 by decide)
  have hr2 := hr.mono (show 2 ≤ 13 by decide)
  have hr3 := hr.mono (show 3 ≤ 13 by decide)
  have hr6 := hr.mono (show 6 ≤ 13 by decide)
  have hr7 := hr.mono (show 7 ≤ 13 by decide)
  refine ⟨_, pss_cons (ps_set (i := 1) scLaw.nd rfl (.inr rfl) (pe_call GT hr1 rfl mT kT bT .nil pass0 (pa_cons (pv 0) (pa_cons pe_int pa_nil))))
    (pss_cons (ps_set (i := 2) scLaw.nd rfl (.inl rfl) (pe_call GS hr3 rfl mS kS bS .nil pass0 (pa_cons (pv 1) pa_nil)))
    (pss_cons (ps_set (i := 3) scLaw.nd rfl (.inl rfl) (pe_callB call_len_seq (by rfl) ml PySem.boot_len (pa_cons (pv 2) pa_nil)))
    (pss_cons (ps_set (i := 4) scLaw.nd rfl (.inl rfl) (pe_call GD hr6 rfl mD kD bD .nil pass0 (pa_cons
        (pe_lc (own := [("k", 5)]) (g := gName 5) (by rfl) scLaw.nd (pi_range1 rfl mr (pa_cons (pe_ix ix_list (pe_lst (pa_cons pe_int (pa_cons pe_int (pa_cons pe_int (pa_cons pe_int (pa_cons pe_int (pa_cons pe_int pa_nil))))))) (pv 3) (fun _ _ => rfl)) pa_nil))
          (blkOk_by (own := [("k", 5)]) (N := ["script", "tape", "switches", "count", "d", "k"]) (sc := defScope sLaw) (by decide +kernel)) (fun _ _ _ _ _ => pg_name (i := 5) scLaw.nd rfl (Or.inl rfl)) (fun _ _ _ _ _ => pts_nil)
          (fun _ _ _ _ _ => pe_cmpR op_eq (pe_call GK hr2 rfl mK kK bK .nil pass0 (pa_cons (pv 1) (pa_cons pe_int pa_nil))) pe_int (nomark _))) (pa_cons pe_int pa_nil))))
    (pss_cons (ps_if (PW.pt (pw_or (pt_cmpR op_ne (pe_call GW hr rfl mW kW bW .nil pass0 (pa_cons (pv 2) (pa_cons (pv 4) pa_nil))) (pe_call GL hr7 rfl mL kL bL .nil pass0 (pa_cons (pv 2) (pa_cons (pv 4) pa_nil))) (nomark _))
        (pw_or1 (pt_cmpR op_isnot_bl (pe_call GI hr7 rfl mI kI bI .nil pass0 (pa_cons (pv 4) (pa_cons (pv 3) pa_nil))) pe_bl (nomark _))))) (pss_one (ps_ret pe_bl)) pss_nil)
    (pss_cons (ps_if (PW.pt (pw_or (pt_cmpR op_isnot_bl (pe_call GI hr7 rfl mI kI bI .nil pass0 (pa_cons (pv 4) (pa_cons pe_int pa_nil))) pe_bl (nomark _))
        (pw_or (pt_cmpR op_isnot_bl (pe_call GI hr7 rfl mI kI bI .nil pass0 (pa_cons pe_bl (pa_cons pe_int pa_nil))) pe_bl (nomark _))
        (pw_or1 (pt_cmpR op_isnot_bl (pe_call GI hr7 rfl mI kI bI .nil pass0 (pa_cons pe_bl (pa_cons pe_int pa_nil))) pe_bl (nomark _)))))) (pss_one (ps_ret pe_bl)) pss_nil)
    (C8.pss_cut (ps_if (PW.pt (pw_and (pt_val (pe_callB call_isi (by rfl) mi (by decide +kernel) (pa_cons (pv 4) (pa_cons (pe_bltn (v := .ty "tuple") (by rfl) mt (by decide +kernel) rfl) pa_nil))))
        (pw_and1 (pt_cmpR op_isnot_bl (pe_call GI hr7 rfl mI kI bI .nil pass0 (pa_cons (pv 4) (pa_cons (pe_ix ix_tup (pv 4) pe_int (fun _ _ => rfl)) pa_nil))) pe_bl (nomark _))))) (pss_one (ps_ret pe_bl)) pss_nil)
    (pss_one (ps_ret (pe_cmpR op_is_bl (pe_call GI hr7 rfl mI kI bI .nil pass0 (pa_cons (pe_call GB hr3 rfl mB kB bB .nil pass0 (pa_cons (pv 1) (pa_cons (pv 4) (pa_cons (pv 3) pa_nil)))) (pa_cons (pv 3) pa_nil))) pe_bl (nomark _)))))))))), ?_⟩
  refine ⟨_, rfl, a, ns, 0, rfl, hS, fun t l H1 _ _ g1 hT1 => ?_⟩
  refine ⟨_, rfl, t, l, rfl, hT1, fun p H2 sw hw e2 g2 hT2 => ?_⟩
  obtain ⟨w1, w5⟩ := sws_len hw
  refine ⟨_, rfl, p, _, rfl, .inr (SqT.of e2), ?_⟩
  refine ⟨(by show 6 ≤ sizeLine; decide), fun c hc => ?_⟩
  have g3 := same_new hc (.lst [.int 1, .int 2, .int 4, .int 8, .int 16, .int 32])
  have hat : atI [V.int 1, .int 2, .int 4, .int 8, .int 16, .int 32] (((sw.map V.str).length : Nat) : Int) = some (.int ((2 ^ sw.length : Nat) : Int)) := by
    rw [List.length_map]
    generalize sw.length = n at w1 w5
    have : n = 1 ∨ n = 2 ∨ n = 3 ∨ n = 4 ∨ n = 5 := by omega
    rcases this with rfl | rfl | rfl | rfl | rfl <;> rfl
  have p32 : 2 ^ sw.length ≤ 32 := by
    have : 2 ^ sw.length ≤ 2 ^ 5 := Nat.pow_le_pow_right (by omega) w5
    omega
  refine ⟨_, rfl, c, _, _, _, rfl, rfl, SqL.of upd_same, hat, _, rfl, Int.le_trans (by decide) (Int.natCast_nonneg _), Int.lt_of_le_of_lt (Int.ofNat_le.mpr p32) (by decide), fun D hD => ?_⟩
  have g4 := same_new hD (.lst [])
  have hT3 := hT2.same g3
  have hDt := hT3.nt hD
  have hDl := hT3.nl hD
  have hpt : p ≠ t := fun e => by
    obtain ⟨_, ⟨_, _, _, _, _, z⟩, _⟩ := hT2
    rw [e, z] at e2
    cases e2
  refine lc_range (lo := 0) (n := 2 ^ sw.length) (fun i H' => ∃ bits : List Bool, bits.length = i ∧ H' D = some (.lst (bits.map V.bl)) ∧ But t H2 H' ∧ Tape H' t l) ?_ ?_ ?_
  · exact ⟨[], rfl, upd_same, But.of (g3.trans g4), hT3.same g4⟩
  · rintro i H3 hi ⟨bits, b1, b2, b3, b4⟩
    refine ⟨rfl, _, rfl, t, l, 2, rfl, b4, by decide, by decide, fun x H4 _ _ k1 k2 => ?_⟩
    refine ⟨rfl, bits.map V.bl, k1 _ _ hDt b2, by rw [List.length_map]; exact Nat.lt_of_le_of_lt (show bits.length ≤ 32 by omega) (by decide), bits ++ [decide (V.int x = V.int 0)], by rw [List.length_append, b1]; rfl, ?_, ?_, k2.put hDt hDl⟩
    · rw [upd_same, List.map_append]
      rfl
    · exact (b3.trans k1).put (g3.free hD)
  rintro H3 ⟨bits, b1, b2, b3, b4⟩
  refine ⟨D, sw.length, bits, 0, rfl, b2, b1, by omega, fun v H4 g5 hv => ?_⟩
  have fit := Dg.mk_fit sw.length bits 0
  have ht := Dg.mk_ht sw.length bits 0
  rw [Nat.zero_add] at fit
  generalize Dg.mk sw.length bits 0 = d at hv fit ht
  have hsw : H4 p = some (.tup (sw.map V.str)) := g5 _ _ (b3 _ _ hpt e2)
  have ok4 : WrOk K H4 p sw v d := ⟨SqT.of hsw, hv, fit, sws_short hw, by omega⟩
  have eC : V.int (((sw.map V.str).length : Nat) : Int) = .int (sw.length : Int) := by rw [List.length_map]
  have yes : ∀ n : Nat, sw.length ≤ n → n ≤ 5 → isDg 6 d.toD 0 n = true := fun n h1 h2 => isDg_fit (l := 0) 6 (fit.mono h1 (Nat.le_refl _)) (by omega) (by omega)
  -- the written forms agree, and it is a diagram
  refine ⟨_, rfl, _, rfl, p, sw, v, d, rfl, ok4, by omega, _, rfl, _, rfl, p, sw, v, d, rfl, ok4, by omega, fun H5 g6 => ?_⟩
  have hv5 := Dv.keep (KeepT.of g6) _ _ hv
  have hT5 := (b4.same g5).same g6
  refine ⟨rfl, _, rfl, iteNS rfl ?_⟩
  refine ⟨_, rfl, _, rfl, v, d.toD, _, congrArg (fun z => [v, z]) eC, hv5, by omega, by omega, _, _, rfl, rfl, _, rfl, iteNS (yes _ (Nat.le_refl _) w5) ?_⟩
  refine ⟨_, rfl, v, d.toD, 5, rfl, hv5, by omega, by omega, _, _, rfl, rfl, _, rfl, iteNS (yes 5 w5 (Nat.le_refl _)) ?_⟩
  refine ⟨_, .bool true, 0, rfl, Dv.bool, by omega, by omega, _, _, rfl, rfl, _, rfl, iteNS rfl ?_⟩
  refine ⟨_, .bool false, 0, rfl, Dv.bool, by omega, by omega, _, _, rfl, rfl, _, rfl, iteNS rfl ?_⟩
  refine ⟨fun σ H' => σ = [some (.ref a), some (.ref t), some (.ref p), some (.int (((sw.map V.str).length : Nat) : Int)), some v, none] ∧ H' = H5, ?_, ?_⟩
  · refine ⟨_, rfl, _, _, _, _, _, rfl, .ty _, hv5.ty, kit_tup _, _, rfl, ?_⟩
    cases d with
    | leaf b => exact iteF ⟨rfl, rfl⟩
    | node i lo hi =>
      obtain ⟨p1, x, y, rfl, e1, _, _⟩ := hv5.node
      obtain ⟨f1, f2, _⟩ := fit
      have no : isDg 6 (Dg.node i lo hi).toD 0 i = false := isDg_lt (by omega)
      refine iteT ⟨_, rfl, _, rfl, p1, _, _, _, rfl, rfl, SqT.of e1, at_of (j := 0) (v := .int i) rfl rfl, _, _, (i : Int), rfl, hv5, by omega, by omega, _, _, rfl, rfl, _, rfl, iteNS no ?_⟩
      exact ⟨rfl, rfl⟩
  · rintro σ H' ⟨rfl, rfl⟩
    refine ⟨_, rfl, _, rfl, _, rfl, t, l, v, d, (sw.length : Int), congrArg (fun z => [V.ref t, v, z]) eC, hT5, hv5, fun v' x H6 hx hv' g7 hT6 => ?_⟩
    refine ⟨_, rfl, v', x, (sw.length : Int), congrArg (fun z => [v', z]) eC, hv', by omega, by omega, _, _, rfl, rfl, ?_⟩
    rw [bad_no (by omega) x hx]
    exact q H6
end
end Ver

/-! ## The end: where the defs stand, and the law -/
namespace Ver
open PySem L2
theorem all_mk {l : PySem.W.OpenLaw} {w : World} {K : PySem.W.Frag} {h : Heap} {mg : Str → Option Value} {fa f_wr f_wi f_is f_fr f_mx f_tp f_tk f_sw f_ld f_lw f_bd f_la : Addr} (X : K.In h) (G : h.Ns mainGlobals mg) (hfa : mg "law" = some (.ref fa))
    {od_wr an_wr : Option Addr} {sl_wr : Array (Option Value)} {oc_wr kV_wr dc_wr pm_wr cd_wr ct_wr : Value}
    {od_wi an_wi : Option Addr} {sl_wi : Array (Option Value)} {oc_wi kV_wi dc_wi pm_wi cd_wi ct_wi : Value}
    {od_is an_is : Option Addr} {sl_is : Array (Option Value)} {oc_is kV_is dc_is pm_is cd_is ct_is : Value}
    {od_fr an_fr : Option Addr} {sl_fr : Array (Option Value)} {oc_fr kV_fr dc_fr pm_fr cd_fr ct_fr : Value}
    {od_mx an_mx : Option Addr} {sl_mx : Array (Option Value)} {oc_mx kV_mx dc_mx pm_mx cd_mx ct_mx : Value}
    {od_tp an_tp : Option Addr} {sl_tp : Array (Option Value)} {oc_tp kV_tp dc_tp pm_tp cd_tp ct_tp : Value}
    {od_tk an_tk : Option Addr} {sl_tk : Array (Option Value)} {oc_tk kV_tk dc_tk pm_tk cd_tk ct_tk : Value}
    {od_sw an_sw : Option Addr} {sl_sw : Array (Option Value)} {oc_sw kV_sw dc_sw pm_sw cd_sw ct_sw : Value}
    {od_ld an_ld : Option Addr} {sl_ld : Array (Option Value)} {oc_ld kV_ld dc_ld pm_ld cd_ld ct_ld : Value}
    {od_lw an_lw : Option Addr} {sl_lw : Array (Option Value)} {oc_lw kV_lw dc_lw pm_lw cd_lw ct_lw : Value}
    {od_bd an_bd : Option Addr} {sl_bd : Array (Option Value)} {oc_bd kV_bd dc_bd pm_bd cd_bd ct_bd : Value}
    {od_la an_la : Option Addr} {sl_la : Array (Option Value)} {oc_la kV_la dc_la pm_la cd_la ct_la : Value}
    (a_wr : PySem.W.nsIn K mainGlobals "written" = some (some (.ref f_wr))) (l_wr : K.lookup f_wr = some ⟨oc_wr, od_wr, .func (PySem.W.fnOf "written" "written" (defArgs sWr) (defBody sWr) (defScope sWr) .none kV_wr dc_wr pm_wr an_wr cd_wr ct_wr), sl_wr⟩) (c_wr : PySem.W.codeIn K cd_wr "written" = true) (k_wr : PySem.W.keepIn K (.ref f_wr) = true)
    (a_wi : PySem.W.nsIn K mainGlobals "_written_inside" = some (some (.ref f_wi))) (l_wi : K.lookup f_wi = some ⟨oc_wi, od_wi, .func (PySem.W.fnOf "_written_inside" "_written_inside" (defArgs sWi) (defBody sWi) (defScope sWi) .none kV_wi dc_wi pm_wi an_wi cd_wi ct_wi), sl_wi⟩) (c_wi : PySem.W.codeIn K cd_wi "_written_inside" = true) (k_wi : PySem.W.keepIn K (.ref f_wi) = true)
    (a_is : PySem.W.nsIn K mainGlobals "is_diagram" = some (some (.ref f_is))) (l_is : K.lookup f_is = some ⟨oc_is, od_is, .func (PySem.W.fnOf "is_diagram" "is_diagram" (defArgs sIsDg) (defBody sIsDg) (defScope sIsDg) .none kV_is dc_is pm_is an_is cd_is ct_is), sl_is⟩) (c_is : PySem.W.codeIn K cd_is "is_diagram" = true) (k_is : PySem.W.keepIn K (.ref f_is) = true)
    (a_fr : PySem.W.nsIn K mainGlobals "_is_diagram_from" = some (some (.ref f_fr))) (l_fr : K.lookup f_fr = some ⟨oc_fr, od_fr, .func (PySem.W.fnOf "_is_diagram_from" "_is_diagram_from" (defArgs sFrom) (defBody sFrom) (defScope sFrom) .none kV_fr dc_fr pm_fr an_fr cd_fr ct_fr), sl_fr⟩) (c_fr : PySem.W.codeIn K cd_fr "_is_diagram_from" = true) (k_fr : PySem.W.keepIn K (.ref f_fr) = true)
    (a_mx : PySem.W.nsIn K mainGlobals "_law_mix" = some (some (.ref f_mx))) (l_mx : K.lookup f_mx = some ⟨oc_mx, od_mx, .func (PySem.W.fnOf "_law_mix" "_law_mix" (defArgs sMix) (defBody sMix) (defScope sMix) .none kV_mx dc_mx pm_mx an_mx cd_mx ct_mx), sl_mx⟩) (c_mx : PySem.W.codeIn K cd_mx "_law_mix" = true) (k_mx : PySem.W.keepIn K (.ref f_mx) = true)
    (a_tp : PySem.W.nsIn K mainGlobals "_law_tape" = some (some (.ref f_tp))) (l_tp : K.lookup f_tp = some ⟨oc_tp, od_tp, .func (PySem.W.fnOf "_law_tape" "_law_tape" (defArgs sTape) (defBody sTape) (defScope sTape) .none kV_tp dc_tp pm_tp an_tp cd_tp ct_tp), sl_tp⟩) (c_tp : PySem.W.codeIn K cd_tp "_law_tape" = true) (k_tp : PySem.W.keepIn K (.ref f_tp) = true)
    (a_tk : PySem.W.nsIn K mainGlobals "_law_take" = some (some (.ref f_tk))) (l_tk : K.lookup f_tk = some ⟨oc_tk, od_tk, .func (PySem.W.fnOf "_law_take" "_law_take" (defArgs sTake) (defBody sTake) (defScope sTake) .none kV_tk dc_tk pm_tk an_tk cd_tk ct_tk), sl_tk⟩) (c_tk : PySem.W.codeIn K cd_tk "_law_take" = true) (k_tk : PySem.W.keepIn K (.ref f_tk) = true)
    (a_sw : PySem.W.nsIn K mainGlobals "_law_switches" = some (some (.ref f_sw))) (l_sw : K.lookup f_sw = some ⟨oc_sw, od_sw, .func (PySem.W.fnOf "_law_switches" "_law_switches" (defArgs sSws) (defBody sSws) (defScope sSws) .none kV_sw dc_sw pm_sw an_sw cd_sw ct_sw), sl_sw⟩) (c_sw : PySem.W.codeIn K cd_sw "_law_switches" = true) (k_sw : PySem.W.keepIn K (.ref f_sw) = true)
    (a_ld : PySem.W.nsIn K mainGlobals "_law_diagram" = some (some (.ref f_ld))) (l_ld : K.lookup f_ld = some ⟨oc_ld, od_ld, .func (PySem.W.fnOf "_law_diagram" "_law_diagram" (defArgs sLDg) (defBody sLDg) (defScope sLDg) .none kV_ld dc_ld pm_ld an_ld cd_ld ct_ld), sl_ld⟩) (c_ld : PySem.W.codeIn K cd_ld "_law_diagram" = true) (k_ld : PySem.W.keepIn K (.ref f_ld) = true)
    (a_lw : PySem.W.nsIn K mainGlobals "_law_written" = some (some (.ref f_lw))) (l_lw : K.lookup f_lw = some ⟨oc_lw, od_lw, .func (PySem.W.fnOf "_law_written" "_law_written" (defArgs sLWr) (defBody sLWr) (defScope sLWr) .none kV_lw dc_lw pm_lw an_lw cd_lw ct_lw), sl_lw⟩) (c_lw : PySem.W.codeIn K cd_lw "_law_written" = true) (k_lw : PySem.W.keepIn K (.ref f_lw) = true)
    (a_bd : PySem.W.nsIn K mainGlobals "_law_bad" = some (some (.ref f_bd))) (l_bd : K.lookup f_bd = some ⟨oc_bd, od_bd, .func (PySem.W.fnOf "_law_bad" "_law_bad" (defArgs sBad) (defBody sBad) (defScope sBad) .none kV_bd dc_bd pm_bd an_bd cd_bd ct_bd), sl_bd⟩) (c_bd : PySem.W.codeIn K cd_bd "_law_bad" = true) (k_bd : PySem.W.keepIn K (.ref f_bd) = true)
    (a_la : PySem.W.nsIn K mainGlobals "law" = some (some (.ref f_la))) (l_la : K.lookup f_la = some ⟨oc_la, od_la, .func (PySem.W.fnOf "law" "law" (defArgs sLaw) (defBody sLaw) (defScope sLaw) .none kV_la dc_la pm_la an_la cd_la ct_la), sl_la⟩) (c_la : PySem.W.codeIn K cd_la "law" = true) (k_la : PySem.W.keepIn K (.ref f_la) = true)
    (z_isinstance : PySem.W.nsIn K mainGlobals "isinstance" = some none)
    (z_tuple : PySem.W.nsIn K mainGlobals "tuple" = some none)
    (z_bool : PySem.W.nsIn K mainGlobals "bool" = some none)
    (z_int : PySem.W.nsIn K mainGlobals "int" = some none)
    (z_len : PySem.W.nsIn K mainGlobals "len" = some none)
    (z_list : PySem.W.nsIn K mainGlobals "list" = some none)
    (z_range : PySem.W.nsIn K mainGlobals "range" = some none)
    : ∃ fd : FuncData, (∀ (s : Shared) (v : Value), BindsTo s fd ⟨[v], []⟩ [("script", v)]) ∧ ∀ base : Heap, K.In base → base.Ns mainGlobals mg → FnOk l.prog w K mg base CX0 14 fa fd ["script"] (spLaw K) := by
  have e := hfa.symm.trans (PySem.W.mg_of X G a_la)
  cases e
  have F_wr := fun_mk (st := sWr) l_wr c_wr k_wr
  have b_wr := F_wr.binds (ps := ["switches", "d"]) fun _ _ _ _ _ _ us hl => match us, hl with | [_, _], _ => rfl
  have m_wr := PySem.W.mg_of X G a_wr
  have F_wi := fun_mk (st := sWi) l_wi c_wi k_wi
  have b_wi := F_wi.binds (ps := ["switches", "d"]) fun _ _ _ _ _ _ us hl => match us, hl with | [_, _], _ => rfl
  have m_wi := PySem.W.mg_of X G a_wi
  have F_is := fun_mk (st := sIsDg) l_is c_is k_is
  have b_is := F_is.binds (ps := ["value", "count"]) fun _ _ _ _ _ _ us hl => match us, hl with | [_, _], _ => rfl
  have m_is := PySem.W.mg_of X G a_is
  have F_fr := fun_mk (st := sFrom) l_fr c_fr k_fr
  have b_fr := F_fr.binds (ps := ["value", "least_index", "count"]) fun _ _ _ _ _ _ us hl => match us, hl with | [_, _, _], _ => rfl
  have m_fr := PySem.W.mg_of X G a_fr
  have F_mx := fun_mk (st := sMix) l_mx c_mx k_mx
  have b_mx := F_mx.binds (ps := ["number"]) fun _ _ _ _ _ _ us hl => match us, hl with | [_], _ => rfl
  have m_mx := PySem.W.mg_of X G a_mx
  have F_tp := fun_mk (st := sTape) l_tp c_tp k_tp
  have b_tp := F_tp.binds (ps := ["script", "budget"]) fun _ _ _ _ _ _ us hl => match us, hl with | [_, _], _ => rfl
  have m_tp := PySem.W.mg_of X G a_tp
  have F_tk := fun_mk (st := sTake) l_tk c_tk k_tk
  have b_tk := F_tk.binds (ps := ["tape", "many"]) fun _ _ _ _ _ _ us hl => match us, hl with | [_, _], _ => rfl
  have m_tk := PySem.W.mg_of X G a_tk
  have F_sw := fun_mk (st := sSws) l_sw c_sw k_sw
  have b_sw := F_sw.binds (ps := ["tape"]) fun _ _ _ _ _ _ us hl => match us, hl with | [_], _ => rfl
  have m_sw := PySem.W.mg_of X G a_sw
  have F_ld := fun_mk (st := sLDg) l_ld c_ld k_ld
  have b_ld := F_ld.binds (ps := ["bits", "i"]) fun _ _ _ _ _ _ us hl => match us, hl with | [_, _], _ => rfl
  have m_ld := PySem.W.mg_of X G a_ld
  have F_lw := fun_mk (st := sLWr) l_lw c_lw k_lw
  have b_lw := F_lw.binds (ps := ["switches", "d"]) fun _ _ _ _ _ _ us hl => match us, hl with | [_, _], _ => rfl
  have m_lw := PySem.W.mg_of X G a_lw
  have F_bd := fun_mk (st := sBad) l_bd c_bd k_bd
  have b_bd := F_bd.binds (ps := ["tape", "d", "count"]) fun _ _ _ _ _ _ us hl => match us, hl with | [_, _, _], _ => rfl
  have m_bd := PySem.W.mg_of X G a_bd
  have F_la := fun_mk (st := sLaw) l_la c_la k_la
  have n_isinstance := PySem.W.mg_none_of X G z_isinstance
  have n_tuple := PySem.W.mg_none_of X G z_tuple
  have n_bool := PySem.W.mg_none_of X G z_bool
  have n_int := PySem.W.mg_none_of X G z_int
  have n_len := PySem.W.mg_none_of X G z_len
  have n_list := PySem.W.mg_none_of X G z_list
  have n_range := PySem.W.mg_none_of X G z_range
  refine ⟨PySem.W.fnOf "law" "law" (defArgs sLaw) (defBody sLaw) (defScope sLaw) .none kV_la dc_la pm_la an_la cd_la ct_la, fun s v => .of_eq rfl, fun base _ _ => ?_⟩
  have T_mx := ok_mix (P := l.prog) (w := w) (base := base) F_mx n_int
  have T_tp := ok_tape (P := l.prog) (w := w) (mg := mg) (base := base) F_tp n_list
  have T_tk := ok_take F_tk T_mx b_mx k_mx m_mx n_int n_len
  have T_sw := ok_sws F_sw T_tk b_tk k_tk m_tk n_tuple n_len
  have T_fr := ok_from (P := l.prog) (w := w) (base := base) F_fr b_fr m_fr n_isinstance n_bool n_tuple n_int n_len 6 (by decide)
  have T_is := ok_isdg F_is T_fr b_fr k_fr m_fr
  have T_wr := ok_wrs (P := l.prog) (w := w) (base := base) F_wr b_wr m_wr F_wi b_wi m_wi n_isinstance n_tuple 6
  have T_ld := ok_ldg (P := l.prog) (w := w) (base := base) F_ld b_ld m_ld n_isinstance n_tuple n_len 6 (by decide)
  have T_lw := ok_lwr (P := l.prog) (w := w) (base := base) F_lw b_lw m_lw n_isinstance n_bool 7
  have T_bd := ok_bad F_bd T_tk b_tk k_tk m_tk n_isinstance n_tuple n_len
  exact ok_law F_la T_tp b_tp k_tp m_tp T_sw b_sw k_sw m_sw T_ld b_ld k_ld m_ld T_tk b_tk k_tk m_tk T_wr b_wr k_wr m_wr T_lw b_lw k_lw m_lw T_is b_is k_is m_is T_bd b_bd k_bd m_bd n_isinstance n_tuple n_len n_range
theorem walk {l : PySem.W.OpenLaw} {q : Program} {loose : List Str} {XP : (Str → Option Value) → Heap → Prop} {YP : World → Heap → Prop} {d : DefRec} {K : Params → PySem.W.Frag} (hn : l.most = some 63) (hdf : d.params.defaults = [])
    (hY : ∀ (w : World) (h : Heap), YP w h → (K w.params).In h)
    (F : ∀ (w : World) (mg : Str → Option Value) (fa : Addr) (h : Heap), (K w.params).In h → h.Ns mainGlobals mg → mg d.name = some (.ref fa) →
      ∃ fd : FuncData, (∀ (s : Shared) (u : Value), BindsTo s fd ⟨[u], []⟩ [("script", u)]) ∧ ∀ base : Heap, (K w.params).In base → base.Ns mainGlobals mg → FnOk l.prog w (K w.params) mg base CX0 14 fa fd ["script"] (spLaw (K w.params))) :
    PySem.W.WalkO q loose XP YP l.row.toRowW d [] (fun f vs => PySem.call f vs) :=
  L2.walk_of (n := 63) (k := 14) (x := "script") (CX := fun _ => CX0) (sp := fun w => spLaw (K w.params)) hn (by decide) hdf ⟨rfl, by decide, by decide⟩ hY F (fun _ _ a ns _ _ hS => ⟨a, ns, rfl, hS, fun _ => rfl⟩) fun _ _ _ _ _ z => z
end Ver
open PySem PySem.W PyProof.Rows
set_option maxRecDepth 100000 in
set_option maxHeartbeats 0 in
theorem PySem.Challenge.cw_oncefolded_k02_forms_of_diagrams_holds : PySem.Challenge.rw_oncefolded_k02_forms_of_diagrams.Holds := by
  w_on; o_law; k_head; (case hw => w_witness2)
  k_fill
  refine Ver.walk (l := PySem.Challenge.rw_oncefolded_k02_forms_of_diagrams) rfl rfl (fun w h Y => PySem.W.kIn_of Y) ?F
  case F =>
    intro w mg fa h KX G hmg
    refine' Ver.all_mk KX G hmg ?a_wr ?l_wr ?c_wr ?k_wr ?a_wi ?l_wi ?c_wi ?k_wi ?a_is ?l_is ?c_is ?k_is ?a_fr ?l_fr ?c_fr ?k_fr ?a_mx ?l_mx ?c_mx ?k_mx ?a_tp ?l_tp ?c_tp ?k_tp ?a_tk ?l_tk ?c_tk ?k_tk ?a_sw ?l_sw ?c_sw ?k_sw ?a_ld ?l_ld ?c_ld ?k_ld ?a_lw ?l_lw ?c_lw ?k_lw ?a_bd ?l_bd ?c_bd ?k_bd ?a_la ?l_la ?c_la ?k_la ?z_isinstance ?z_tuple ?z_bool ?z_int ?z_len ?z_list ?z_range
    (case a_wr => k_is)
    (case l_wr => k_is)
    (case c_wr => k_is)
    (case k_wr => k_is)
    (case a_wi => k_is)
    (case l_wi => k_is)
    (case c_wi => k_is)
    (case k_wi => k_is)
    (case a_is => k_is)
    (case l_is => k_is)
    (case c_is => k_is)
    (case k_is => k_is)
    (case a_fr => k_is)
    (case l_fr => k_is)
    (case c_fr => k_is)
    (case k_fr => k_is)
    (case a_mx => k_is)
    (case l_mx => k_is)
    (case c_mx => k_is)
    (case k_mx => k_is)
    (case a_tp => k_is)
    (case l_tp => k_is)
    (case c_tp => k_is)
    (case k_tp => k_is)
    (case a_tk => k_is)
    (case l_tk => k_is)
    (case c_tk => k_is)
    (case k_tk => k_is)
    (case a_sw => k_is)
    (case l_sw => k_is)
    (case c_sw => k_is)
    (case k_sw => k_is)
    (case a_ld => k_is)
    (case l_ld => k_is)
    (case c_ld => k_is)
    (case k_ld => k_is)
    (case a_lw => k_is)
    (case l_lw => k_is)
    (case c_lw => k_is)
    (case k_lw => k_is)
    (case a_bd => k_is)
    (case l_bd => k_is)
    (case c_bd => k_is)
    (case k_bd => k_is)
    (case a_la => k_is)
    (case l_la => k_is)
    (case c_la => k_is)
    (case k_la => k_is)
    (case z_isinstance => k_is)
    (case z_tuple => k_is)
    (case z_bool => k_is)
    (case z_int => k_is)
    (case z_len => k_is)
    (case z_list => k_is)
    (case z_range => k_is)
