import PyProof.Rows.All
import Wide.All
import OpenK.AllK
import Wide.FinOn
import HandS.ForMost
import HandS.Evl
import HandS.Codes
import HandS.Conv
import HandS.IsInst
import HandS.Property
import HandS.Star
import HandS.TupAny
import HandS.Wide
import HandS.Lambda
import KE.KDictPairs
import HandS.Walk
import HandS.SortInts
import HandS.Style
import HandS.TryOnly
import OpenK.KMeth
import HandS.Deep
import HandS.DictComp
import HandS.SortRule
import KE.KRevSl
import HandS.Sort
import KE.DataMinMax
import KE.GoesMore
import HandS.WideBits
import HandS.TupMul
import HandS.WordsExc
import HandS.RaiseMore
import HandS.FStr
import HandS.ExcIs
import HandS.ExcField
import HandS.ExcBuiltin
import HandS.SetFor
import KE.KExcIs
import HandS.EndOwn
import KE.KItemsList
import PyProof.ZipIter
import KE.GoesZip
import HandS.ListItems
import KE.KDflt
import HandS.ExcInit
import KE.KExcSuper
import KE.KStateDown
import HandS.Head0
import HandS.Head1
import HandS.Head2
import PySem.Challenge.RW_slackrods_k07_rows_refused
set_option Elab.async false
set_option linter.all false
set_option maxRecDepth 100000
set_option maxHeartbeats 4000000
namespace Z
open PySem L2
abbrev Ex := Evl.Ex
theorem Ex.rfl' {H : Hp} : Ex H H := fun _ _ h => h
/-- what is left alone for good: all but tables -/
def nt : HO → Bool | .tbl _ => false | _ => true
/-- what may be changed or let go: no table, no code object -/
def plo : HO → Bool | .tbl _ => false | .ext _ => false | _ => true
def q0 : Str := "law.<locals>.<lambda>"
/-- all stands but the tables of code objects, which grow -/
structure Exq (H H' : Hp) : Prop where
  k : ∀ b o, H b = some o → nt o = true → H' b = some o
  n : ∀ b, H' b = none → H b = none
  t : ∀ P, LamX.TabS H P q0 → LamX.TabS H' P q0
theorem Exq.of {H H' : Hp} (e : Ex H H') : Exq H H' := by
  refine ⟨fun b o q _ => e b o q, fun b q => ?_, fun P t => LamX.TabS.ext t e⟩
  cases z : H b with
  | none => rfl
  | some o => rw [e b o z] at q; cases q
theorem plo_nt {o : HO} (h : plo o = true) : nt o = true := by cases o <;> first | rfl | cases h
theorem Exq.refl {H : Hp} : Exq H H := .of fun _ _ q => q
theorem Exq.trans {H H1 H2 : Hp} (a : Exq H H1) (b : Exq H1 H2) : Exq H H2 := ⟨fun x o q z => b.k x o (a.k x o q z) z, fun x q => a.n x (b.n x q), fun P t => b.t P (a.t P t)⟩
theorem tab_ne {H : Hp} {P b : Addr} {q : Str} (t : LamX.TabS H P q) (h : ∀ o, H b = some o → plo o = true) : P ≠ b := fun e => by
  obtain ⟨ps, z, _⟩ := t
  subst e
  have := h _ z
  cases this
/-- but for one thing b, which may be new or is changed -/
theorem tab_but {H H' : Hp} {P b : Addr} {q : Str} (t : LamX.TabS H P q) (h : ∀ o, H b = some o → plo o = true) (e : ∀ a, a ≠ b → H' a = H a) : LamX.TabS H' P q := by
  have nb := tab_ne t h
  obtain ⟨ps, h1, h2, h3⟩ := t
  refine ⟨ps, by rw [e P nb]; exact h1, h2, fun pos cv hc => ?_⟩
  obtain ⟨c, e1, e2⟩ := h3 pos cv hc
  refine ⟨c, e1, ?_⟩
  have nc : c ≠ b := fun z => by
    subst z
    have := h _ e2
    cases this
  rw [e c nc]; exact e2
theorem plo_none {H : Hp} {b : Addr} (n : H b = none) : ∀ o, H b = some o → plo o = true := fun o q => by rw [n] at q; cases q
theorem plo_at {H : Hp} {b : Addr} {u : HO} (x : H b = some u) (p : plo u = true := by rfl) : ∀ o, H b = some o → plo o = true := fun o q => by
  rw [x] at q
  cases q
  exact p
theorem Exq.but {H H1 H' : Hp} {b : Addr} (x : Exq H H1) (n : H b = none) (p : ∀ o, H1 b = some o → plo o = true) (e : ∀ a, a ≠ b → H' a = H1 a) : Exq H H' :=
  ⟨fun a o q z => by rw [e a (ne_of_none q n)]; exact x.k a o q z, fun a q => by
    by_cases c : a = b
    · subst c; exact n
    · rw [e a c] at q; exact x.n a q, fun P t => tab_but (x.t P t) p e⟩
theorem Exq.upd {H H1 : Hp} {b : Addr} {o : HO} (x : Exq H H1) (n : H b = none) (p : ∀ o, H1 b = some o → plo o = true) : Exq H (upd H1 b o) := x.but n p fun _ c => upd_ne c
theorem Exq.del {H H1 : Hp} {b : Addr} (x : Exq H H1) (n : H b = none) (p : ∀ o, H1 b = some o → plo o = true) : Exq H (fun a => if a = b then none else H1 a) := x.but n p fun _ c => if_neg c
theorem Exq.hide {H0 H H1 : Hp} {b : Addr} (x : Exq H0 (fun a => if a = b then none else H a)) (y : Exq H H1) (p : ∀ o, H1 b = some o → plo o = true) : Exq H0 (fun a => if a = b then none else H1 a) := by
  refine ⟨fun a o q z => ?_, fun a q => ?_, fun P t => ?_⟩
  · have w : (if a = b then none else H a) = some o := x.k a o q z
    show (if a = b then none else H1 a) = some o
    by_cases c : a = b
    · rw [if_pos c] at w; cases w
    · rw [if_neg c] at w ⊢; exact y.k a o w z
  · have q' : (if a = b then none else H1 a) = none := q
    refine x.n a ?_
    show (if a = b then none else H a) = none
    by_cases c : a = b
    · rw [if_pos c]
    · rw [if_neg c] at q' ⊢; exact y.n a q'
  · have t1 := x.t P t
    have t2 : LamX.TabS H P q0 := tab_but (b := b) t1 (fun o q => by
      have q' : (if b = b then none else H b) = some o := q
      rw [if_pos rfl] at q'; cases q') fun a c => (if_neg c).symm
    exact tab_but (y.t P t2) p fun a c => if_neg c
theorem Exq.unhide {H0 H : Hp} {b : Addr} (x : Exq H0 (fun a => if a = b then none else H a)) : Exq H0 H := by
  refine ⟨fun a o q z => ?_, fun a q => ?_, fun P t => ?_⟩
  · have w : (if a = b then none else H a) = some o := x.k a o q z
    by_cases c : a = b
    · rw [if_pos c] at w; cases w
    · rw [if_neg c] at w; exact w
  · refine x.n a ?_
    show (if a = b then none else H a) = none
    by_cases c : a = b
    · rw [if_pos c]
    · rw [if_neg c]; exact q
  · exact tab_but (b := b) (x.t P t) (fun o q => by
      have q' : (if b = b then none else H b) = some o := q
      rw [if_pos rfl] at q'; cases q') fun a c => (if_neg c).symm
theorem nx_of {H H1 : Hp} (x : Exq H H1) {b : Addr} {o : HO} (q : H b = some o) (z : plo o = true ∨ LamX.TabS H b q0) : ∀ φ, H1 b ≠ some (.ext φ) := fun φ e => by
  rcases z with z | z
  · rw [x.k b o q (plo_nt z)] at e; cases e; cases z
  · obtain ⟨ps, e2, _⟩ := x.t b z
    rw [e2] at e; cases e
/-- from the part h of the heap H to the part h' of H': all stands, what was outside of h is outside of h' -/
structure Stp (h H h' H' : Hp) : Prop where
  e0 : Exq H H'
  s : Ex h h'
  i : Ex h' H'
  f0 : ∀ b o, H b = some o → h b = none → (∀ φ, H' b ≠ some (.ext φ)) → h' b = none
theorem Stp.f {h H h' H' : Hp} (s : Stp h H h' H') (b : Addr) (o : HO) (q : H b = some o) (n : h b = none) (z : plo o = true ∨ LamX.TabS H b q0 := by exact Or.inl rfl) : h' b = none := s.f0 b o q n (nx_of s.e0 q z)
/-- no code object is put in its place -/
abbrev nx (H : Hp) (b : Addr) : Prop := ∀ φ, H b ≠ some (.ext φ)
theorem nx_back {H H1 : Hp} {b : Addr} (x : Exq H H1) (n : nx H1 b) : nx H b := fun φ e => n φ (x.k b _ e rfl)
theorem nx_ne {H : Hp} {a b : Addr} {o : HO} (c : a ≠ b) (n : nx (upd H b o) a) : nx H a := fun φ e => n φ (by rw [upd_ne c]; exact e)
theorem nx_un {H : Hp} {a b : Addr} (n : nx H a) : nx (fun a => if a = b then none else H a) a := fun φ e => by
  have e : (if a = b then none else H a) = _ := e
  by_cases c : a = b
  · rw [if_pos c] at e; cases e
  · rw [if_neg c] at e; exact n φ e
theorem nx_if {H : Hp} {a b : Addr} (c : a ≠ b) (n : nx (fun a => if a = b then none else H a) a) : nx H a := fun φ e => n φ (by show (if a = b then none else H a) = _; rw [if_neg c]; exact e)
theorem Stp.e {h H h' H' : Hp} (s : Stp h H h' H') (b : Addr) (o : HO) (q : H b = some o) (z : nt o = true := by rfl) : H' b = some o := s.e0.k b o q z
theorem Stp.n {h H h' H' : Hp} (s : Stp h H h' H') (b : Addr) (q : H' b = none) : H b = none := s.e0.n b q
theorem Stp.refl {h H : Hp} (x : Ex h H) : Stp h H h H := ⟨.refl, fun _ _ q => q, x, fun _ _ _ n _ => n⟩
theorem Exq.some {H H' : Hp} (x : Exq H H') {b : Addr} {o : HO} (q : H b = some o) : ∃ o', H' b = some o' := by
  cases z : H' b with
  | none => rw [x.n b z] at q; cases q
  | some o' => exact ⟨o', rfl⟩
theorem Stp.trans {h H h1 H1 h2 H2 : Hp} (a : Stp h H h1 H1) (b : Stp h1 H1 h2 H2) : Stp h H h2 H2 :=
  ⟨a.e0.trans b.e0, fun x o q => b.s x o (a.s x o q), b.i, fun x o q n z => let ⟨o', e⟩ := a.e0.some q; b.f0 x o' e (a.f0 x o q n (nx_back b.e0 z)) z⟩
/-- a new object -/
theorem Stp.new {h H : Hp} {p : Addr} {o : HO} (x : Ex h H) (n : H p = none) : Stp h H (upd h p o) (upd H p o) := by
  have hn : h p = none := by
    cases q : h p with
    | none => rfl
    | some u => rw [x p u q] at n; cases n
  refine ⟨Exq.refl.upd n (plo_none n), fun b u q => ?_, fun b u q => ?_, fun b u q z _ => ?_⟩
  · rw [upd_ne (ne_of_none q hn)]; exact q
  · by_cases e : b = p
    · subst e; rw [upd_same] at q ⊢; exact q
    · rw [upd_ne e] at q ⊢; exact x b u q
  · rw [upd_ne (ne_of_none q n)]; exact z
structure Pr where
  p : V → Hp → Prop
  mono : ∀ {v : V} {h h' : Hp}, Ex h h' → p v h → p v h'
/-- there is an a such that -/
def Pr.some {α : Sort _} (f : α → Pr) : Pr := ⟨fun v h => ∃ a, (f a).p v h, fun e ⟨a, q⟩ => ⟨a, (f a).mono e q⟩⟩
def Pr.and (C : Prop) (P : Pr) : Pr := ⟨fun v h => C ∧ P.p v h, fun e ⟨c, q⟩ => ⟨c, P.mono e q⟩⟩
def Pr.any : Pr := ⟨fun _ _ => True, fun _ q => q⟩
def Pr.is (v : V) : Pr := ⟨fun u _ => u = v, fun _ q => q⟩

/-! ### data -/
theorem sqL_ex {K : PySem.W.Frag} {h h' : Hp} {a : Addr} {xs : List V} (e : Ex h h') (q : SqL K h a xs) : SqL K h' a xs := Evl.ex_l e q
theorem sqT_ex {K : PySem.W.Frag} {h h' : Hp} {a : Addr} {xs : List V} (e : Ex h h') (q : SqT K h a xs) : SqT K h' a xs := Evl.ex_t e q
mutual
/-- the value stands for the data; lists are the run's own -/
inductive Dq (K : PySem.W.Frag) (H : Hp) : V → PyData → Prop
  | non : Dq K H .non .none
  | bl (b : Bool) : Dq K H (.bl b) (.bool b)
  | int (i : Int) : Dq K H (.int i) (.int i)
  | str (x : Str) : Dq K H (.str x) (.str x)
  | lst {a : Addr} {xs : List V} {ds : List PyData} : H a = some (.lst xs) → DqAll K H xs ds → Dq K H (.ref a) (.list ds)
  | tup {a : Addr} {xs : List V} {ds : List PyData} : SqT K H a xs → DqAll K H xs ds → Dq K H (.ref a) (.tuple ds)
inductive DqAll (K : PySem.W.Frag) (H : Hp) : List V → List PyData → Prop
  | nil : DqAll K H [] []
  | cons {v : V} {vs : List V} {d : PyData} {ds : List PyData} : Dq K H v d → DqAll K H vs ds → DqAll K H (v :: vs) (d :: ds)
end
mutual
theorem dq_dp {K : PySem.W.Frag} {h : Hp} : ∀ {v : V} {d : PyData}, Dq K h v d → Dp K h v d
  | _, _, .non => .non
  | _, _, .bl b => .bl b
  | _, _, .int i => .int i
  | _, _, .str x => .str x
  | _, _, .lst q a => .lst (.inl (.inl q)) (dqa_dpa a)
  | _, _, .tup q a => .tup q (dqa_dpa a)
theorem dqa_dpa {K : PySem.W.Frag} {h : Hp} : ∀ {vs : List V} {ds : List PyData}, DqAll K h vs ds → DpAll K h vs ds
  | _, _, .nil => .nil
  | _, _, .cons a b => .cons (dq_dp a) (dqa_dpa b)
end
mutual
theorem dp_ex {K : PySem.W.Frag} {h h' : Hp} (e : Ex h h') : ∀ {v : V} {d : PyData}, Dq K h v d → Dq K h' v d
  | _, _, .non => .non
  | _, _, .bl b => .bl b
  | _, _, .int i => .int i
  | _, _, .str x => .str x
  | _, _, .lst q a => .lst (e _ _ q) (dpa_ex e a)
  | _, _, .tup q a => .tup (sqT_ex e q) (dpa_ex e a)
theorem dpa_ex {K : PySem.W.Frag} {h h' : Hp} (e : Ex h h') : ∀ {vs : List V} {ds : List PyData}, DqAll K h vs ds → DqAll K h' vs ds
  | _, _, .nil => .nil
  | _, _, .cons a b => .cons (dp_ex e a) (dpa_ex e b)
end
/-- the value stands for the data -/
def D (K : PySem.W.Frag) (d : PyData) : Pr := ⟨fun v h => Dq K h v d, fun e q => dp_ex e q⟩
abbrev I (K : PySem.W.Frag) (i : Int) : Pr := D K (.int i)
abbrev B (K : PySem.W.Frag) (b : Bool) : Pr := D K (.bool b)
abbrev dI (ns : List Int) : PyData := .list (ns.map PyData.int)
abbrev dT (ns : List Int) : PyData := .tuple (ns.map PyData.int)
section
variable {K : PySem.W.Frag} {h : Hp} {v : V}
theorem dp_int {i : Int} (q : Dq K h v (.int i)) : v = .int i := by cases q; rfl
theorem dp_bl {b : Bool} (q : Dq K h v (.bool b)) : v = .bl b := by cases q; rfl
theorem dp_str {x : Str} (q : Dq K h v (.str x)) : v = .str x := by cases q; rfl
theorem dp_non (q : Dq K h v .none) : v = .non := by cases q; rfl
theorem dp_lst {ds : List PyData} (q : Dq K h v (.list ds)) : ∃ a xs, v = .ref a ∧ h a = some (.lst xs) ∧ DqAll K h xs ds := by cases q with | lst a b => exact ⟨_, _, rfl, a, b⟩
theorem dp_tup {ds : List PyData} (q : Dq K h v (.tuple ds)) : ∃ a xs, v = .ref a ∧ SqT K h a xs ∧ DqAll K h xs ds := by cases q with | tup a b => exact ⟨_, _, rfl, a, b⟩
theorem dpa_len : ∀ {vs : List V} {ds : List PyData}, DqAll K h vs ds → vs.length = ds.length
  | _, _, .nil => rfl
  | _, _, .cons _ b => by rw [List.length_cons, List.length_cons, dpa_len b]
theorem dpa_ints : ∀ {vs : List V} {ns : List Int}, DqAll K h vs (ns.map PyData.int) → vs = ns.map V.int
  | _, [], q => by cases q; rfl
  | _, n :: ns, q => by
    cases q with
    | cons a b => rw [dp_int a, dpa_ints b]; rfl
theorem ints_dpa : ∀ (ns : List Int), DqAll K h (ns.map V.int) (ns.map PyData.int)
  | [] => .nil
  | n :: ns => .cons (.int n) (ints_dpa ns)
theorem dp_ints {ns : List Int} (q : Dq K h v (dI ns)) : ∃ a, v = .ref a ∧ h a = some (.lst (ns.map V.int)) := by
  obtain ⟨a, xs, e, s, d⟩ := dp_lst q
  rw [dpa_ints d] at s
  exact ⟨a, e, s⟩
theorem dp_intsT {ns : List Int} (q : Dq K h v (dT ns)) : ∃ a, v = .ref a ∧ SqT K h a (ns.map V.int) := by
  obtain ⟨a, xs, e, s, d⟩ := dp_tup q
  rw [dpa_ints d] at s
  exact ⟨a, e, s⟩
theorem intsT_dp {a : Addr} {ns : List Int} (s : SqT K h a (ns.map V.int)) : Dq K h (.ref a) (dT ns) := .tup s (ints_dpa ns)
theorem dpa_get' : ∀ {vs : List V} {ds : List PyData} {j : Nat} {v : V}, DqAll K h vs ds → vs[j]? = some v → ∃ d, ds[j]? = some d ∧ Dq K h v d
  | _, _, _, _, .nil, e => by simp at e
  | _, _, 0, v, .cons a b, e => by simp at e; subst e; exact ⟨_, rfl, a⟩
  | _, _, j + 1, v, .cons a b, e => by
    obtain ⟨d, h1, h2⟩ := dpa_get' (j := j) b (by simpa using e)
    exact ⟨d, by simpa using h1, h2⟩
end
theorem atI_map {α β : Type} {f : α → β} {xs : List α} {i : Int} {x : α} (e : atI xs i = some x) : atI (xs.map f) i = some (f x) := by
  unfold atI at e ⊢
  rw [List.length_map]
  cases q : ixN xs.length i with
  | none => rw [q] at e; cases e
  | some j =>
    rw [q] at e
    have e' : xs[j]? = some x := e
    show (xs.map f)[j]? = some (f x)
    rw [List.getElem?_map, e']; rfl
/-! ### the frame's slots -/
abbrev Ctx := List (Option Pr)
structure En (Γ : Ctx) (σ : St) (h : Hp) : Prop where
  len : σ.length = Γ.length
  at_ : ∀ (i : Nat) (P : Pr), Γ[i]? = some (some P) → ∃ v, σ[i]? = some (some v) ∧ P.p v h
theorem En.mono {Γ : Ctx} {σ : St} {h h' : Hp} (x : En Γ σ h) (e : Ex h h') : En Γ σ h' := ⟨x.len, fun i P q => let ⟨v, a, b⟩ := x.at_ i P q; ⟨v, a, P.mono e b⟩⟩
theorem En.set {Γ : Ctx} {σ : St} {h : Hp} {P : Pr} {v : V} (x : En Γ σ h) (i : Nat) (q : P.p v h) : En (Γ.set i (some P)) (σ.set i (some v)) h := by
  refine ⟨by rw [List.length_set, List.length_set]; exact x.len, fun j R e => ?_⟩
  by_cases c : i = j
  · subst c
    have hl : i < Γ.length := by
      have := (List.getElem?_eq_some_iff.mp e).1
      rw [List.length_set] at this; exact this
    rw [List.getElem?_set_self hl] at e
    have e' : P = R := Option.some.inj (Option.some.inj e)
    subst e'
    exact ⟨v, List.getElem?_set_self (by rw [x.len]; exact hl), q⟩
  · rw [List.getElem?_set_ne c] at e
    obtain ⟨u, a, b⟩ := x.at_ j R e
    exact ⟨u, by rw [List.getElem?_set_ne c]; exact a, b⟩
theorem En.wipe {Γ : Ctx} {σ : St} {h : Hp} (x : En Γ σ h) (i : Nat) : En (Γ.set i none) (σ.set i none) h := by
  refine ⟨by rw [List.length_set, List.length_set]; exact x.len, fun j R e => ?_⟩
  by_cases c : i = j
  · subst c
    have hl : i < Γ.length := by
      have := (List.getElem?_eq_some_iff.mp e).1
      rw [List.length_set] at this; exact this
    rw [List.getElem?_set_self hl] at e
    cases e
  · rw [List.getElem?_set_ne c] at e
    obtain ⟨u, a, b⟩ := x.at_ j R e
    exact ⟨u, by rw [List.getElem?_set_ne c]; exact a, b⟩
theorem En.set_open {Γ : Ctx} {σ : St} {h : Hp} {P : Pr} {v : V} (x : En Γ σ h) (i : Nat) (hl : i < Γ.length) (q : P.p v h) (e : σ[i]? = some (some v)) : En (Γ.set i (some P)) σ h := by
  have y := x.set i q
  have z : σ.set i (some v) = σ := by
    apply List.ext_getElem?
    intro j
    by_cases c : i = j
    · subst c
      rw [List.getElem?_set_self (by rw [x.len]; exact hl), e]
    · rw [List.getElem?_set_ne c]
  rw [z] at y
  exact y

/-! ### expressions -/
def T (Γ : Ctx) (te : TE) (P : Pr) : Prop := ∀ (σ : St) (h H : Hp), En Γ σ h → Ex h H → ∀ Q : VK, (∀ v h' H', Stp h H h' H' → P.p v h' → Q v H') → te σ H Q
/-- a test whose answer c is as φ says -/
def TB (Γ : Ctx) (tt : TT) (φ : Bool → Prop) : Prop := ∀ (σ : St) (h H : Hp), En Γ σ h → Ex h H → ∀ Q : Bool → Hp → Prop, (∀ c h' H', Stp h H h' H' → φ c → Q c H') → tt σ H Q
/-- arguments -/
inductive Vs : List Pr → List V → Hp → Prop
  | nil {h : Hp} : Vs [] [] h
  | cons {P : Pr} {Ps : List Pr} {v : V} {vs : List V} {h : Hp} : P.p v h → Vs Ps vs h → Vs (P :: Ps) (v :: vs) h
theorem Vs.mono {h h' : Hp} (e : Ex h h') : ∀ {Ps : List Pr} {vs : List V}, Vs Ps vs h → Vs Ps vs h'
  | _, _, .nil => .nil
  | _, _, .cons (P := P) a b => .cons (P.mono e a) (b.mono e)
theorem Vs.len {h : Hp} : ∀ {Ps : List Pr} {vs : List V}, Vs Ps vs h → vs.length = Ps.length
  | _, _, .nil => rfl
  | _, _, .cons _ b => by rw [List.length_cons, List.length_cons, b.len]
theorem Vs.app {h : Hp} {P : Pr} {v : V} (q : P.p v h) : ∀ {Ps : List Pr} {vs : List V}, Vs Ps vs h → Vs (Ps ++ [P]) (vs ++ [v]) h
  | _, _, .nil => .cons q .nil
  | _, _, .cons a b => .cons a (Vs.app q b)
def TAs (Γ : Ctx) (ta : TA) (Ps : List Pr) : Prop := ∀ (σ : St) (h H : Hp), En Γ σ h → Ex h H → ∀ Q : List V → Hp → Prop, (∀ vs h' H', Stp h H h' H' → Vs Ps vs h' → Q vs H') → ta σ H Q
def OpP (r : R2) (A C : Pr) (P : Pr) : Prop := ∀ (x y : V) (h H : Hp), A.p x h → C.p y h → Ex h H → ∀ Q : VK, (∀ v h' H', Stp h H h' H' → P.p v h' → Q v H') → r x y H Q
def UnP (r : V → Hp → VK → Prop) (A : Pr) (P : Pr) : Prop := ∀ (x : V) (h H : Hp), A.p x h → Ex h H → ∀ Q : VK, (∀ v h' H', Stp h H h' H' → P.p v h' → Q v H') → r x H Q
def FnP (r : List V → Hp → VK → Prop) (As : List Pr) (P : Pr) : Prop := ∀ (vs : List V) (h H : Hp), Vs As vs h → Ex h H → ∀ Q : VK, (∀ v h' H', Stp h H h' H' → P.p v h' → Q v H') → r vs H Q
section
variable {K : PySem.W.Frag} {Γ : Ctx} {te ta tb tc : TE} {t u : TT} {P A C R : Pr} {r : R2} {As : List Pr} {tr : TA}
theorem t_var {i : Nat} (q : Γ[i]? = some (some P)) : T Γ (tVar i) P := fun σ h H x e Q k =>
  let ⟨v, a, b⟩ := x.at_ i P q; ⟨v, a, k v h H (Stp.refl e) b⟩
theorem t_c {v : V} (q : ∀ h, P.p v h) : T Γ (tC v) P := fun σ h H x e Q k => k v h H (Stp.refl e) (q h)
theorem t_int {i : Int} : T Γ (tC (.int i)) (I K i) := t_c fun _ => .int i
theorem t_bl {b : Bool} : T Γ (tC (.bl b)) (B K b) := t_c fun _ => .bl b
theorem t_non : T Γ (tC .non) (D K .none) := t_c fun _ => .non
theorem t_str {s : Str} : T Γ (tC (.str s)) (D K (.str s)) := t_c fun _ => .str s
theorem t_weak (a : T Γ te P) (w : ∀ v h, P.p v h → R.p v h) : T Γ te R := fun σ h H x e Q k => a σ h H x e Q fun v h' H' s q => k v h' H' s (w v h' q)
theorem t_some {α : Sort _} {f : α → Pr} (a : α) (q : T Γ te (f a)) : T Γ te (Pr.some f) := t_weak q fun _ _ z => ⟨a, z⟩
theorem t_op (a : T Γ ta A) (b : T Γ tb C) (o : OpP r A C P) : T Γ (tOp r ta tb) P := fun σ h H x e Q k =>
  a σ h H x e _ fun v h1 H1 s1 q1 => b σ h1 H1 (x.mono s1.s) s1.i _ fun y h2 H2 s2 q2 => o v y h2 H2 (A.mono s2.s q1) q2 s2.i Q fun z h3 H3 s3 q3 => k z h3 H3 ((s1.trans s2).trans s3) q3
theorem ta_nil : TAs Γ tNil [] := fun σ h H x e Q k => k [] h H (Stp.refl e) .nil
theorem ta_cons (a : T Γ ta A) (b : TAs Γ tr As) : TAs Γ (tCons ta tr) (A :: As) := fun σ h H x e Q k =>
  a σ h H x e _ fun v h1 H1 s1 q1 => b σ h1 H1 (x.mono s1.s) s1.i _ fun vs h2 H2 s2 q2 => k _ h2 H2 (s1.trans s2) (.cons (A.mono s2.s q1) q2)
theorem t_cb {r : List V → Hp → VK → Prop} (a : TAs Γ tr As) (o : FnP r As P) : T Γ (tCB r tr) P := fun σ h H x e Q k =>
  a σ h H x e _ fun vs h1 H1 s1 q1 => o vs h1 H1 q1 s1.i Q fun z h2 H2 s2 q2 => k z h2 H2 (s1.trans s2) q2
theorem opp_to {P' : Pr} (q : OpP r A C P) (w : ∀ v h, P.p v h → P'.p v h) : OpP r A C P' := fun x y h H a c e Q k => q x y h H a c e Q fun v h' H' s z => k v h' H' s (w v h' z)
theorem opp_I {g : Int → Int → Int} {i j : Int} : OpP (rI0 fun i j => .int (g i j)) (I K i) (I K j) (I K (g i j)) := fun x y h H a c e Q k => ⟨i, j, dp_int a, dp_int c, k _ h H (Stp.refl e) (.int _)⟩
theorem opp_B {g : Int → Int → Bool} {i j : Int} : OpP (rI0 fun i j => .bl (g i j)) (I K i) (I K j) (B K (g i j)) := fun x y h H a c e Q k => ⟨i, j, dp_int a, dp_int c, k _ h H (Stp.refl e) (.bl _)⟩
theorem opp_IC {c : Int → Int → Prop} {g : Int → Int → Int} {i j : Int} (q : c i j) : OpP (rI c fun i j => .int (g i j)) (I K i) (I K j) (I K (g i j)) := fun x y h H a z e Q k => ⟨i, j, dp_int a, dp_int z, q, k _ h H (Stp.refl e) (.int _)⟩
/-- == and != of data -/
theorem opp_eq {d e : PyData} (hd : SeqAt.shaped d = true) (he : SeqAt.shaped e = true) : OpP (rEqD K) (D K d) (D K e) (B K (PyData.eqv d e)) := fun x y h H a c z Q k =>
  ⟨d, e, dq_dp (dp_ex z a), dq_dp (dp_ex z c), hd, he, k _ h H (Stp.refl z) (.bl _)⟩
theorem opp_ne {d e : PyData} (hd : SeqAt.shaped d = true) (he : SeqAt.shaped e = true) : OpP (rNeD K) (D K d) (D K e) (B K (!PyData.eqv d e)) := fun x y h H a c z Q k =>
  ⟨d, e, dq_dp (dp_ex z a), dq_dp (dp_ex z c), hd, he, k _ h H (Stp.refl z) (.bl _)⟩
theorem opp_eqI {i j : Int} : OpP rEq (I K i) (I K j) (B K (decide (i = j))) := fun x y h H a c z Q k => by
  rw [dp_int a, dp_int c]
  refine ⟨rfl, ?_⟩
  have q := k (.bl (decide (i = j))) h H (Stp.refl z) (.bl _)
  rw [L2.dec_int]
  exact q
theorem opp_neI {i j : Int} : OpP rNe (I K i) (I K j) (B K (!decide (i = j))) := fun x y h H a c z Q k => by
  rw [dp_int a, dp_int c]
  refine ⟨rfl, ?_⟩
  have q := k (.bl (!decide (i = j))) h H (Stp.refl z) (.bl _)
  rw [L2.dec_int]
  exact q

/-! ### tests -/
theorem tb_test {b : Bool} (a : T Γ te (B K b)) : TB Γ (tTest te) (fun c => c = b) := fun σ h H x e Q k => a σ h H x e _ fun v h' H' s q => ⟨b, dp_bl q, k b h' H' s rfl⟩
theorem tb_weak {φ ψ : Bool → Prop} (a : TB Γ t φ) (w : ∀ c, φ c → ψ c) : TB Γ t ψ := fun σ h H x e Q k => a σ h H x e Q fun c h' H' s q => k c h' H' s (w c q)
theorem t_if {φ : Bool → Prop} (x : TB Γ t φ) (y : φ true → T Γ ta P) (z : φ false → T Γ tb P) : T Γ (tIf t ta tb) P := fun σ h H n e Q k => x σ h H n e _ fun c h1 H1 s1 q => by
  cases c with
  | true => exact y q σ h1 H1 (n.mono s1.s) s1.i Q fun c h2 H2 s2 q => k c h2 H2 (s1.trans s2) q
  | false => exact z q σ h1 H1 (n.mono s1.s) s1.i Q fun c h2 H2 s2 q => k c h2 H2 (s1.trans s2) q
/-! ### made lists and tuples -/
theorem vs_dpa : ∀ {ds : List PyData} {vs : List V} {h : Hp}, Vs (ds.map (D K)) vs h → DqAll K h vs ds
  | [], _, _, .nil => .nil
  | _ :: _, _, _, .cons a b => .cons a (vs_dpa b)
theorem t_lst {ds : List PyData} (a : TAs Γ tr (ds.map (D K))) (hz : ds.length ≤ 100000) : T Γ (tLst tr) (D K (.list ds)) := fun σ h H x e Q k => a σ h H x e _ fun vs h1 H1 s1 q =>
  ⟨by rw [q.len, List.length_map]; exact Evl.sz_of hz, fun p np => k _ (upd h1 p (.lst vs)) _ (s1.trans (Stp.new s1.i np)) (.lst upd_same (vs_dpa (q.mono (Stp.new (o := .lst vs) s1.i np).s)))⟩
/-- a list of anything -/
def L (K : PySem.W.Frag) (Ps : List Pr) : Pr := ⟨fun v h => ∃ a vs, v = .ref a ∧ h a = some (.lst vs) ∧ Vs Ps vs h, fun e ⟨a, vs, x, s, q⟩ => ⟨a, vs, x, e _ _ s, q.mono e⟩⟩
def U (K : PySem.W.Frag) (Ps : List Pr) : Pr := ⟨fun v h => ∃ a vs, v = .ref a ∧ SqT K h a vs ∧ Vs Ps vs h, fun e ⟨a, vs, x, s, q⟩ => ⟨a, vs, x, sqT_ex e s, q.mono e⟩⟩
theorem vs_get : ∀ {Ps : List Pr} {vs : List V} {h : Hp} {j : Nat} {P : Pr}, Vs Ps vs h → Ps[j]? = some P → ∃ v, vs[j]? = some v ∧ P.p v h
  | _, _, _, _, _, .nil, e => by simp at e
  | _, _, _, 0, _, .cons a b, e => by simp at e; subst e; exact ⟨_, rfl, a⟩
  | _, _, _, j + 1, _, .cons a b, e => by
    obtain ⟨v, h1, h2⟩ := vs_get (j := j) b (by simpa using e)
    exact ⟨v, by simpa using h1, h2⟩
theorem vs_atI {Ps : List Pr} {vs : List V} {h : Hp} {i : Int} {P : Pr} (q : Vs Ps vs h) (e : atI Ps i = some P) : ∃ v, atI vs i = some v ∧ P.p v h := by
  unfold atI at e ⊢
  rw [q.len]
  cases z : ixN Ps.length i with
  | none => rw [z] at e; cases e
  | some j =>
    rw [z] at e
    have e' : Ps[j]? = some P := e
    exact vs_get q e'
theorem opp_ixLP {Ps : List Pr} {i : Int} (q : atI Ps i = some P) : OpP (rIxL K) (L K Ps) (I K i) P := fun x y h H a c e Q k => by
  obtain ⟨p, xs, ex, s, z⟩ := a
  obtain ⟨v, hv, dv⟩ := vs_atI z q
  exact ⟨p, xs, i, v, ex, dp_int c, .inl (.inl (e _ _ s)), hv, k v h H (Stp.refl e) dv⟩
theorem opp_ixTP {Ps : List Pr} {i : Int} (q : atI Ps i = some P) : OpP (rIxT K) (U K Ps) (I K i) P := fun x y h H a c e Q k => by
  obtain ⟨p, xs, ex, s, z⟩ := a
  obtain ⟨v, hv, dv⟩ := vs_atI z q
  exact ⟨p, xs, i, v, ex, dp_int c, sqT_ex e s, hv, k v h H (Stp.refl e) dv⟩
end

/-! ### promises -/
/-- for arguments as a says, from a part h of the heap: the answer is as res says, in a part that grew by new things alone -/
def Sv {α : Type _} (args : α → List Pr) (pre : α → Prop) (res : α → Pr) : Sp := fun vs H Q _ => ∃ (a : α) (h : Hp), Ex h H ∧ Vs (args a) vs h ∧ pre a ∧ ∀ v h' H', Stp h H h' H' → (res a).p v h' → Q v H'
theorem Sv.len {α : Type _} {args : α → List Pr} {pre : α → Prop} {res : α → Pr} {n : Nat} (hn : ∀ a, (args a).length = n) : ∀ vs H Q E, Sv args pre res vs H Q E → vs.length = n := fun vs H Q E ⟨a, h, _, q, _⟩ => by rw [q.len, hn]
/-! ### statements -/
/-- a mutable object's content -/
structure Ct where
  p : HO → Hp → Prop
  mono : ∀ {o : HO} {h h' : Hp}, Ex h h' → p o h → p o h'
  pl : ∀ {o : HO} {h : Hp}, p o h → plo o = true
def Ct.lst (Ps : List Pr) : Ct := ⟨fun o h => ∃ vs, o = .lst vs ∧ Vs Ps vs h, fun e ⟨vs, x, q⟩ => ⟨vs, x, q.mono e⟩, fun ⟨_, x, _⟩ => by rw [x]; rfl⟩
def Ct.dict (kvs : List (Key × V)) : Ct := ⟨fun o _ => o = .dK kvs, fun _ q => q, fun x => by rw [x]; rfl⟩
abbrev Mo := Option (Nat × Ct)
/-- where we stand: the start (h0, H0), and a part that is known -/
structure Bs where
  h0 : Hp
  H0 : Hp
  hb : Hp
structure Bs.Ok (b : Bs) (h H : Hp) : Prop where
  st : Stp b.h0 b.H0 h H
  kn : Ex b.hb h
theorem Bs.Ok.go {b : Bs} {h H h' H' : Hp} (x : b.Ok h H) (s : Stp h H h' H') : b.Ok h' H' := ⟨x.st.trans s, fun a o q => s.s a o (x.kn a o q)⟩
structure Mu1 (b : Bs) (i : Nat) (C : Ct) (σ : St) (h H : Hp) (l : Addr) (o : HO) : Prop where
  at_ : σ[i]? = some (some (.ref l))
  nh : h l = none
  n0 : b.H0 l = none
  oH : H l = some o
  ct : C.p o h
def Mu (b : Bs) : Mo → St → Hp → Hp → Prop
  | none, _, _, _ => True
  | some (i, C), σ, h, H => ∃ l o, Mu1 b i C σ h H l o
theorem Mu.go {b : Bs} {μ : Mo} {σ : St} {h H h' H' : Hp} (m : Mu b μ σ h H) (s : Stp h H h' H') : Mu b μ σ h' H' := by
  cases μ with
  | none => trivial
  | some p =>
    obtain ⟨l, o, m⟩ := m
    exact ⟨l, o, m.at_, s.f l o m.oH m.nh (.inl (p.2.pl m.ct)), m.n0, s.e l o m.oH (plo_nt (p.2.pl m.ct)), p.2.mono s.s m.ct⟩
def mok (μ : Mo) (j : Nat) : Bool := match μ with | none => true | some (i, _) => i != j
theorem Mu.set {b : Bs} {μ : Mo} {σ : St} {h H : Hp} {j : Nat} {v : Option V} (m : Mu b μ σ h H) (k : mok μ j = true) : Mu b μ (σ.set j v) h H := by
  cases μ with
  | none => trivial
  | some p =>
    obtain ⟨l, o, m⟩ := m
    have c : j ≠ p.1 := fun e => by
      subst e
      have z : (p.1 != p.1) = true := k
      simp at z
    exact ⟨l, o, by rw [List.getElem?_set_ne c]; exact m.at_, m.nh, m.n0, m.oH, m.ct⟩
/-- f holds wherever the slots are as Γ says, the one mutable thing as μ says -/
def Nx (b : Bs) (Γ : Ctx) (μ : Mo) (f : St → Hp → Prop) : Prop := ∀ (σ : St) (h H : Hp), En Γ σ h → b.Ok h H → Mu b μ σ h H → f σ H
section
variable {K : PySem.W.Frag} {b : Bs} {Γ Γ' : Ctx} {μ : Mo} {te ta tb : TE} {t : TT} {P R : Pr} {Dd : Ends} {tu tw tz : TS} {ff : St → Hp → Prop} {rr : VK} {bb cc : St → Hp → Prop}
theorem n_asg {i : Nat} (a : T Γ te P) (k : Nx b (Γ.set i (some P)) μ ff) (hm : mok μ i = true := by rfl) : Nx b Γ μ (tAsg te (gName i) ⟨ff, rr, bb, cc⟩) := fun σ h H x s m => a σ h H x s.st.i _ fun v h1 H1 s1 q => k _ h1 H1 ((x.mono s1.s).set i q) (s.go s1) ((m.go s1).set hm)
theorem q_asg {i : Nat} (a : T Γ te P) (k : Nx b (Γ.set i (some P)) μ (tz Dd)) (hm : mok μ i = true := by rfl) : Nx b Γ μ (tSeq (tAsg te (gName i)) tz Dd) := n_asg a k hm
/-- fewer things known -/
def Le (Γ Γ' : Ctx) : Prop := Γ.length = Γ'.length ∧ ∀ (i : Nat) (P : Pr), Γ'[i]? = some (some P) → ∃ R : Pr, Γ[i]? = some (some R) ∧ ∀ v h, R.p v h → P.p v h
theorem Le.rfl' : Le Γ Γ := ⟨rfl, fun i P q => ⟨P, q, fun _ _ z => z⟩⟩
theorem le_nil : Le [] [] := Le.rfl'
theorem le_skip {o : Option Pr} {Γ Γ' : Ctx} (a : Le Γ Γ') : Le (o :: Γ) (none :: Γ') := by
  refine ⟨by rw [List.length_cons, List.length_cons, a.1], fun i P q => ?_⟩
  cases i with
  | zero => simp at q
  | succ i => simpa using a.2 i P (by simpa using q)
theorem le_same {o : Option Pr} {Γ Γ' : Ctx} (a : Le Γ Γ') : Le (o :: Γ) (o :: Γ') := by
  refine ⟨by rw [List.length_cons, List.length_cons, a.1], fun i P q => ?_⟩
  cases i with
  | zero => exact ⟨P, q, fun _ _ z => z⟩
  | succ i => simpa using a.2 i P (by simpa using q)
theorem En.le {Γ Γ' : Ctx} {σ : St} {h : Hp} (x : En Γ σ h) (l : Le Γ Γ') : En Γ' σ h := ⟨by rw [x.len, l.1], fun i P q => by
  obtain ⟨R, e, w⟩ := l.2 i P q
  obtain ⟨v, a, b⟩ := x.at_ i R e
  exact ⟨v, a, w v h b⟩⟩
/-! ### one mutable list -/
theorem l_data {ds : List PyData} {v : V} {h : Hp} (q : (L K (ds.map (D K))).p v h) : (D K (.list ds)).p v h := by
  obtain ⟨a, vs, rfl, s, z⟩ := q
  exact .lst s (vs_dpa z)
theorem dpa_vs : ∀ {ds : List PyData} {vs : List V} {h : Hp}, DqAll K h vs ds → Vs (ds.map (D K)) vs h
  | _, _, _, .nil => .nil
  | _, _, _, .cons a b => .cons a (dpa_vs b)
theorem data_t {ds : List PyData} {v : V} {h : Hp} (q : (D K (.tuple ds)).p v h) : (U K (ds.map (D K))).p v h := by
  obtain ⟨a, vs, rfl, s, z⟩ := dp_tup q
  exact ⟨a, vs, rfl, s, dpa_vs z⟩

/-! ### loops -/
/-- the invariant: behind i turns there is a g as G says, the slots as Γi i g say, the mutable thing as μi i g says -/
def Pv {γ : Type _} (b : Bs) (G : Nat → γ → Prop) (Γi : Nat → γ → Ctx) (μi : Nat → γ → Mo) (i : Nat) : St → Hp → Prop := fun σ H => ∃ g h, G i g ∧ En (Γi i g) σ h ∧ b.Ok h H ∧ Mu b (μi i g) σ h H
theorem n_pv {γ : Type _} {G : Nat → γ → Prop} {Γi : Nat → γ → Ctx} {μi : Nat → γ → Mo} {i : Nat} (g : γ) (q : G i g) (hm : μ = μi i g) (l : Le Γ (Γi i g)) : Nx b Γ μ (Pv b G Γi μi i) := fun σ h H x s m => ⟨g, h, q, x.le l, s, hm ▸ m⟩
/-- what is read as a list of data -/
def IsL (K : PySem.W.Frag) (A : Pr) (ds : List PyData) : Prop := ∀ v h, A.p v h → ∃ a xs, v = .ref a ∧ SqL K h a xs ∧ DqAll K h xs ds
/-- over a list of data -/
theorem n_forLA {γ : Type _} {A : Pr} {tl : TE} {j : Nat} {ds : List PyData} (G : Nat → γ → Prop) (Γi : Nat → γ → Ctx) (μi : Nat → γ → Mo) (g0 : γ) (hA : IsL K A ds) (a : T Γ tl A) (q0 : G 0 g0) (l0 : Le Γ (Γi 0 g0))
    (hs : ∀ (hb : Hp) (i : Nat) (d : PyData) (g : γ), ds[i]? = some d → G i g → Nx ⟨b.h0, b.H0, hb⟩ ((Γi i g).set j (some (D K d))) (μi i g) (tu ⟨Pv ⟨b.h0, b.H0, hb⟩ G Γi μi (i + 1), rr, ff, Pv ⟨b.h0, b.H0, hb⟩ G Γi μi (i + 1)⟩))
    (hd : ∀ (hb : Hp) g, G ds.length g → Nx ⟨b.h0, b.H0, hb⟩ (Γi ds.length g) (μi ds.length g) ff) (hm : μ = μi 0 g0 := by rfl) (hj : ∀ i g, mok (μi i g) j = true := by intros; rfl) : Nx b Γ μ (tFor (iList K tl) (gName j) tu ⟨ff, rr, bb, cc⟩) := fun σ h H x s m => a σ h H x s.st.i _ fun v h1 H1 s1 q => by
  obtain ⟨p, xs, rfl, sq, dp⟩ := hA _ _ q
  subst hm
  have muI : ∀ {μ : Mo} {σ : St} {h H : Hp}, Mu b μ σ h H → Mu ⟨b.h0, b.H0, h1⟩ μ σ h H := fun {μ σ h H} m => by
    cases μ with
    | none => trivial
    | some p =>
      obtain ⟨l, o, m⟩ := m
      exact ⟨l, o, m.at_, m.nh, m.n0, m.oH, m.ct⟩
  refine ⟨p, rfl, ⟨xs, sqL_ex s1.i sq⟩, for_list (K := K) (a := p) (xs := xs) (Pv ⟨b.h0, b.H0, h1⟩ G Γi μi) ⟨g0, h1, q0, (x.mono s1.s).le l0, ⟨(s.go s1).st, fun _ _ q => q⟩, muI (m.go s1)⟩ (fun i σ' H' hi p => ?_) (fun i y σ' H' hi p => ?_) (fun σ' H' p => ?_)⟩
  · obtain ⟨g, h', q, x', s', m'⟩ := p
    exact sqL_ex s'.st.i (sqL_ex s'.kn sq)
  · obtain ⟨g, h', q, x', s', m'⟩ := p
    obtain ⟨d, hd', dd⟩ := dpa_get' dp hi
    exact hs h1 i d g hd' q _ h' H' (x'.set j (dp_ex s'.kn dd)) s' (m'.set (hj i g))
  · obtain ⟨g, h', q, x', s', m'⟩ := p
    rw [dpa_len dp] at q x' m'
    exact hd h1 g q σ' h' H' x' s' m'
theorem q_seq (k : Nx b Γ μ (tu { Dd with nx := tz Dd })) : Nx b Γ μ (tSeq tu tz Dd) := k

/-! ### comprehensions -/
def wpΓ (Γ : Ctx) : List Nat → Ctx
  | [] => Γ
  | v :: vs => (wpΓ Γ vs).set v none
theorem En.wp {σ : St} {h : Hp} (x : En Γ σ h) : ∀ vs, En (wpΓ Γ vs) (L2.wipe σ vs) h
  | [] => x
  | v :: vs => (En.wp x vs).wipe v
/-- the list made so far: items as Ps say, as G says -/
structure Lw (h0 H0 : Hp) (G : Nat → List Pr → Prop) (Dl : Addr) (i : Nat) (H' : Hp) : Prop where
  ex : ∃ h Ps vs, G i Ps ∧ Vs Ps vs h ∧ H' Dl = some (.lst vs) ∧ h Dl = none ∧ Stp h0 H0 h (fun a => if a = Dl then none else H' a)
/-- [te for x in range(n) if t] -/
theorem lc_turn {h0 H0 : Hp} {G : Nat → List Pr → Prop} {Dl : Addr} {i : Nat} {H' : Hp} {σ2 : St} {Γ2 : Ctx} {φ : Bool → Prop} (p : Lw h0 H0 G Dl i H') (hD : H0 Dl = none) (hz : ∀ Ps, G i Ps → Ps.length < 100000)
    (xe : ∀ h, Ex h0 h → En Γ2 σ2 h) (ht : TB Γ2 t φ) (hy : φ true → ∀ Ps, G i Ps → ∃ (α : Type) (f : α → Pr), T Γ2 te (Pr.some f) ∧ ∀ a, G (i + 1) (Ps ++ [f a])) (hn : φ false → ∀ Ps, G i Ps → G (i + 1) Ps) :
    t σ2 H' fun b H3 => if b = true then te σ2 H3 fun y H4 => ∃ acc, H4 Dl = some (.lst acc) ∧ acc.length < sizeLine ∧ Lw h0 H0 G Dl (i + 1) (upd H4 Dl (.lst (acc ++ [y]))) else Lw h0 H0 G Dl (i + 1) H3 := by
  obtain ⟨h, Ps, vs, g, hv, hl, hn', st⟩ := p.ex
  have iE : Ex h H' := fun a o e => by
    have z := st.i a o e
    have z' : (if a = Dl then none else H' a) = some o := z
    by_cases c : a = Dl
    · rw [if_pos c] at z'; cases z'
    · rw [if_neg c] at z'; exact z'
  -- behind a step from (h, H') all is as before
  have step : ∀ {h1 H1 : Hp}, Stp h H' h1 H1 → H1 Dl = some (.lst vs) ∧ h1 Dl = none ∧ Stp h0 H0 h1 (fun a => if a = Dl then none else H1 a) := fun {h1 H1} s => by
    have n1 := s.f Dl _ hl hn'
    refine ⟨s.e _ _ hl, n1, st.e0.hide s.e0 (plo_at (s.e _ _ hl)), fun a o e => s.s a o (st.s a o e), fun a o e => ?_, fun a o e n y => ?_⟩
    · show (if a = Dl then none else H1 a) = some o
      rw [if_neg (ne_of_none e n1)]
      exact s.i a o e
    · obtain ⟨o', z⟩ := st.e0.some e
      have z' : (if a = Dl then none else H' a) = some o' := z
      by_cases c : a = Dl
      · rw [if_pos c] at z'; cases z'
      · rw [if_neg c] at z'
        exact s.f0 a o' z' (st.f0 a o e n (nx_un (nx_back s.e0 (nx_if c y)))) (nx_if c y)
  refine ht σ2 h H' (xe h st.s) iE _ fun c h1 H1 s1 f => ?_
  obtain ⟨l1, n1, st1⟩ := step s1
  cases c with
  | true =>
    obtain ⟨α, f', hT, hG⟩ := hy f Ps g
    show te σ2 H1 _
    refine hT σ2 h1 H1 (xe h1 st1.s) s1.i _ fun y h2 H2 s2 ⟨a, q⟩ => ?_
    have s12 := s1.trans s2
    obtain ⟨l2, n2, st2⟩ := step s12
    refine ⟨vs, l2, Evl.sz_lt (by rw [hv.len]; exact hz Ps g), ⟨h2, Ps ++ [f' a], vs ++ [y], hG a, ?_, upd_same, n2, ?_⟩⟩
    · exact (hv.mono s12.s).app q
    · have e : (fun a => if a = Dl then none else upd H2 Dl (.lst (vs ++ [y])) a) = (fun a => if a = Dl then none else H2 a) := by
        funext a
        by_cases c : a = Dl
        · rw [if_pos c, if_pos c]
        · rw [if_neg c, if_neg c, upd_ne c]
      rw [e]
      exact st2
  | false => exact ⟨h1, Ps, vs, hn f Ps g, hv.mono s1.s, l1, n1, st1⟩
theorem lw_end {h0 H0 : Hp} {G : Nat → List Pr → Prop} {Dl : Addr} {i : Nat} {H' : Hp} (p : Lw h0 H0 G Dl i H') (hD : H0 Dl = none) (i0 : Ex h0 H0) : ∃ h Ps, G i Ps ∧ Stp h0 H0 h H' ∧ (L K Ps).p (.ref Dl) h := by
  obtain ⟨h, Ps, vs, g, hv, hl, hn', st⟩ := p.ex
  have e1 : Ex h (upd h Dl (.lst vs)) := fun a o e => by rw [upd_ne (ne_of_none e hn')]; exact e
  refine ⟨upd h Dl (.lst vs), Ps, g, ⟨st.e0.unhide, fun a o e => e1 a o (st.s a o e), fun a o e => ?_, fun a o e n z => ?_⟩, Dl, vs, rfl, upd_same, hv.mono e1⟩
  · by_cases c : a = Dl
    · subst c; rw [upd_same] at e; cases e; exact hl
    · rw [upd_ne c] at e
      have z' : (if a = Dl then none else H' a) = some o := st.i a o e
      rw [if_neg c] at z'; exact z'
  · rw [upd_ne (ne_of_none e hD)]
    exact st.f0 a o e n (nx_un z)
theorem wipe1 {σ : St} {j : Nat} {x : V} : wipe ((wipe σ [j]).set j (some x)) [j] = wipe σ [j] := by
  show ((σ.set j none).set j (some x)).set j none = σ.set j none
  rw [List.set_set, List.set_set]
theorem lw_start {h H : Hp} {G : Nat → List Pr → Prop} {Dl : Addr} (e : Ex h H) (hD : H Dl = none) (g : G 0 []) : Lw h H G Dl 0 (upd H Dl (.lst [])) := by
  have hn : h Dl = none := by
    cases q : h Dl with
    | none => rfl
    | some o => rw [e Dl o q] at hD; cases hD
  refine ⟨h, [], [], g, .nil, upd_same, hn, ?_⟩
  have z : (fun a => if a = Dl then none else upd H Dl (.lst []) a) = H := by
    funext a
    by_cases c : a = Dl
    · subst c; rw [if_pos rfl]; exact hD.symm
    · rw [if_neg c, upd_ne c]
  rw [z]
  exact Stp.refl e
theorem t_lcLA {A : Pr} {tl : TE} {j : Nat} {ds : List PyData} {φ : Nat → Bool → Prop} (G : Nat → List Pr → Prop) (hA : IsL K A ds) (a : T Γ tl A) (hn : ds.length ≤ 50000) (g0 : G 0 []) (hz : ∀ i Ps, G i Ps → Ps.length ≤ i)
    (ht : ∀ (i : Nat) d, ds[i]? = some d → TB ((wpΓ Γ [j]).set j (some (D K d))) t (φ i))
    (hy : ∀ (i : Nat) d, ds[i]? = some d → φ i true → ∀ Ps, G i Ps → ∃ (α : Type) (f : α → Pr), T ((wpΓ Γ [j]).set j (some (D K d))) te (Pr.some f) ∧ ∀ a, G (i + 1) (Ps ++ [f a]))
    (hno : ∀ (i : Nat) d, ds[i]? = some d → φ i false → ∀ Ps, G i Ps → G (i + 1) Ps) : T Γ (tLc (iList K tl) (gName j) t te [j]) (Pr.some fun Ps : { Ps // G ds.length Ps } => L K Ps.1) := fun σ h H x e Q k => a σ h H x e _ fun v h1 H1 s1 q => by
  obtain ⟨ad, xs, rfl, sq, dp⟩ := hA _ _ q
  refine ⟨ad, rfl, ⟨xs, sqL_ex s1.i sq⟩, fun Dl hD => ?_⟩
  refine lc_list (K := K) (a := ad) (xs := xs) (Lw h1 H1 G Dl) (lw_start s1.i hD g0) (fun i H' hi p => ?_) (fun i y H' hi p => ?_) (fun H' p => ?_)
  · obtain ⟨h, Ps, vs, g, hv, hl, hn', st⟩ := p.ex
    refine sqL_ex (h := h) (fun a o e => ?_) (sqL_ex st.s sq)
    have z' : (if a = Dl then none else H' a) = some o := st.i _ _ e
    by_cases c : a = Dl
    · rw [if_pos c] at z'; cases z'
    · rw [if_neg c] at z'; exact z'
  · obtain ⟨d, hd', dd⟩ := dpa_get' dp hi
    have hi' := (List.getElem?_eq_some_iff.mp hd').1
    exact ⟨wipe1, lc_turn p hD (fun Ps g => by have := hz i Ps g; omega) (fun h2 e2 => ((x.mono s1.s).mono e2).wp [j] |>.set j (dp_ex e2 dd)) (ht i d hd') (hy i d hd') (hno i d hd')⟩
  · rw [dpa_len dp] at p
    obtain ⟨h', Ps, g, st, q⟩ := lw_end (K := K) p hD s1.i
    exact k _ h' H' (s1.trans st) ⟨⟨Ps, g⟩, q⟩
end
end Z

namespace Z
open PySem L2
/-! ### defs as they stand behind the top -/
/-- a def of the module keeps the promise sp, by at most level k -/
structure Fx (P : Program) (w : World) (K : PySem.W.Frag) (mg : Str → Option Value) (base : Heap) (k : Nat) (x : Str) (sp : Sp) : Prop where
  ex : ∃ f, mg x = some (.ref f) ∧ PySem.W.keepIn K (.ref f) = true ∧ FnR P w K mg base CX0 k f sp
/-- the def's text and place -/
structure Dn (K : PySem.W.Frag) (mg : Str → Option Value) (x : Str) (st : Stmt) (ps : List Str) : Prop where
  ex : ∃ f fd, L2.Fun K x x st f fd ∧ mg x = some (.ref f) ∧ Binds K fd ps []
theorem raw0 {P : Program} {w : World} {K : PySem.W.Frag} {mg : Str → Option Value} {base : Heap} {k : Nat} {f : Addr} {fd : FuncData} {ps : List Str} {sp : Sp} (F : FnOk P w K mg base CX0 k f fd ps sp) (hb : Binds K fd ps []) : FnR P w K mg base CX0 k f sp :=
  (F.raw hb (dvs := []) .nil).imp fun vs H Q E h => by
    show sp (vs ++ []) H Q E
    rw [List.append_nil]
    exact h
section
variable {P : Program} {w : World} {K : PySem.W.Frag} {mg : Str → Option Value} {base : Heap}
theorem Dn.fx {x : Str} {st : Stmt} {ps N : List Str} {k : Nat} {sp : Sp} (d : Dn K mg x st ps) (S : FnScope N ps (defScope st)) (len : ∀ vs H Q E, sp vs H Q E → vs.length = ps.length)
    (hbody : ∀ (f : Addr) (cdv : Value) (A : Around) (outer : List Env) (s : Shared) (H : Hp) (vs : List V) (Q : VK) (E : XK), Room k (A.deeper (PyProof.Rows.envOfC x (defScope st) s.heap.objs.size f cdv)) → sp vs H Q E →
      ∃ t, PSs (cxOf CX0 P w K mg base N x (defScope st) f cdv A outer s H E).nox (defBody st) t ∧ t { nx := fun _ H' => Q .non H', rt := Q } (start N vs) H) : Fx P w K mg base (k + 1) x sp := by
  obtain ⟨f, fd, F, hm, hb⟩ := d.ex
  exact ⟨f, hm, F.kp, raw0 (F.ok S len fun cdv A outer s H vs Q E => hbody f cdv A outer s H vs Q E) hb⟩
theorem Fx.imp {k : Nat} {x : Str} {sp sp' : Sp} (c : Fx P w K mg base k x sp) (h : ∀ vs H Q E, sp' vs H Q E → sp vs H Q E) : Fx P w K mg base k x sp' := by
  obtain ⟨f, a, b, F⟩ := c.ex
  exact ⟨f, a, b, F.imp h⟩
theorem Fx.mono {k j : Nat} {x : Str} {sp : Sp} (c : Fx P w K mg base k x sp) (h : k ≤ j) : Fx P w K mg base j x sp := by
  obtain ⟨f, a, b, F⟩ := c.ex
  exact ⟨f, a, b, F.mono h⟩
end
def tF (sp : Sp) (t : TA) : TE := fun σ H Q => t σ H fun vs H1 => sp vs H1 Q E0
section
variable {X : Cx} {k j : Nat} {x : Str} {sp : Sp} {p pos : Pos} {e : Expr} {es : List Expr} {t : TA}
theorem pe_f (c : Fx X.prog X.w X.K X.mg X.base k x sp) (hr : Room j X.A) (hk : k ≤ j) (hg : Gl X x) (ha : PA X (e :: es) t)
    (hdb : (x == ("__debug__" : Str)) = false := by decide) (he : starEach (e :: es) X.env = (false, eval e X.env) :: starEach es X.env := by rfl) (hpl : (backTo pos (starEach es X.env)).any (·.1) = false := by rfl) :
    PE X (.Call (.Name x p) (e :: es) [] pos) (tF sp t) := by
  obtain ⟨f, hm, kp, F⟩ := c.ex
  refine ⟨fun pins s σ H Q I h => ?_⟩
  refine wpAny_Call_Name_kw (ld_glob I hg hm ?_ hdb)
  refine PySem.W.callWith_K (h₀ := X.base) I.ok.mod.kin kp (thn (ha.run pos pins s σ H _ I h) fun us s1 ⟨vs, H1, I1, r, q⟩ => ⟨I1.kIn, ?_⟩) he hpl
  exact wpAny_call (run_fnR (F.mono hk) hr pass0 I1 r q)
end
/-- a module's constant int -/
def Gk (mg : Str → Option Value) (x : Str) (i : Int) : Prop := ∃ u, mg x = some u ∧ RelV (.int i) u
theorem pe_gK {X : Cx} {x : Str} {i : Int} {pos : Pos} (hg : Gl X x) (h : Gk X.mg x i) (hd : (x == ("__debug__" : Str)) = false := by decide) : PE X (.Name x pos) (tC (.int i)) := by
  obtain ⟨u, a, b⟩ := h
  exact pe_glob hg a b hd
theorem pe_cls {X : Cx} {x : Str} {C : Addr} {pos : Pos} (hg : Gl X x) (hm : X.mg x = some (.ref C)) (hd : (x == ("__debug__" : Str)) = false := by decide) : PE X (.Name x pos) (tC (.ref C)) := pe_glob (v := .ref C) hg hm rfl hd
/-- isinstance with a built-in class -/
def tyOf : PyData → Option String
  | .none => some "NoneType" | .bool _ => some "bool" | .int _ => some "int" | .str _ => some "str" | .list _ => some "list" | .tuple _ => some "tuple" | .dict _ => none
section
variable {K : PySem.W.Frag} {Γ : Ctx} {tr : TA}
theorem tyX_of {H : Hp} {v : V} {d : PyData} (q : Dq K H v d) {n : String} (hn : tyOf d = some n) : TyX K H v (.type n) := by
  cases q with
  | non => cases hn; exact .base .non
  | bl b => cases hn; exact .base (.bl b)
  | int i => cases hn; exact .base (.int i)
  | str x => cases hn; exact .base (.str x)
  | lst s a =>
    cases hn
    exact .base (.lst s)
  | tup s a =>
    cases hn
    rcases s with (s | ⟨o, s⟩) | ⟨o, its, m, s, c, _⟩
    · exact .base (.tup s)
    · exact .fTuple s
    · exact .kTuple s c
theorem t_ty {c : String} : T Γ (tC (.ty c)) (Pr.is (.ty c)) := t_c fun _ => rfl
theorem fnp_min2 {i j : Int} : FnP (fun xs H Q => ∃ i j, xs = [.int i, .int j] ∧ Q (.int (if j < i then j else i)) H) [I K i, I K j] (I K (min i j)) := fun vs h H q e Q k => by
  cases q with
  | cons a q =>
    cases q with
    | cons b q =>
      cases q
      rw [dp_int a, dp_int b]
      refine ⟨i, j, rfl, k _ h H (Stp.refl e) ?_⟩
      have z : (if j < i then j else i) = min i j := by
        rw [Int.min_def]; split <;> split <;> omega
      rw [z]; exact .int _
theorem fnp_max2 {i j : Int} : FnP (fun xs H Q => ∃ i j, xs = [.int i, .int j] ∧ Q (.int (if j > i then j else i)) H) [I K i, I K j] (I K (max i j)) := fun vs h H q e Q k => by
  cases q with
  | cons a q =>
    cases q with
    | cons b q =>
      cases q
      rw [dp_int a, dp_int b]
      refine ⟨i, j, rfl, k _ h H (Stp.refl e) ?_⟩
      have z : (if j > i then j else i) = max i j := by
        rw [Int.max_def]; split <;> split <;> omega
      rw [z]; exact .int _
theorem fnp_int1 {i : Int} {r : List V → Hp → VK → Prop} (hr : ∀ H Q, Q (.int i) H → r [.int i] H Q) : FnP r [I K i] (I K i) := fun vs h H q e Q k => by
  cases q with
  | cons a q =>
    cases q
    rw [dp_int a]
    exact hr H Q (k _ h H (Stp.refl e) (.int _))
theorem fnp_abs {i : Int} : FnP (fun xs H Q => ∃ i, xs = [.int i] ∧ Q (.int (if i < 0 then -i else i)) H) [I K i] (I K (if i < 0 then -i else i)) := fun vs h H q e Q k => by
  cases q with
  | cons a q =>
    cases q
    rw [dp_int a]
    exact ⟨i, rfl, k _ h H (Stp.refl e) (.int _)⟩
end
end Z

namespace Z
open PySem L2
section
variable {K : PySem.W.Frag} {Γ : Ctx} {te ta tb : TE} {tr : TA} {P A C : Pr}
/-! ### slices, + -/
/-- the items that are cut out -/
def cutD {α : Type _} (xs : List α) (lo hi : Option Int) : List α := (xs.drop (HT.sIx xs.length 0 lo)).take (HT.sIx xs.length xs.length hi - HT.sIx xs.length 0 lo)
theorem cutD_to {α : Type _} (xs : List α) (k : Nat) : cutD xs none (some (k : Int)) = xs.take k := by
  unfold cutD
  rw [HT.sIx_none, HT.sIx_nat, List.drop_zero, Nat.sub_zero]
  by_cases h : k ≤ xs.length
  · rw [Nat.min_eq_left h]
  · rw [Nat.min_eq_right (by omega), List.take_of_length_le (Nat.le_refl _), List.take_of_length_le (by omega)]
theorem cutD_from {α : Type _} (xs : List α) (k : Nat) : cutD xs (some (k : Int)) none = xs.drop k := by
  unfold cutD
  rw [HT.sIx_none, HT.sIx_nat]
  by_cases h : k ≤ xs.length
  · rw [Nat.min_eq_left h, List.take_of_length_le (by rw [List.length_drop] <;> omega)]
  · rw [Nat.min_eq_right (by omega), List.drop_eq_nil_of_le (Nat.le_refl _), List.drop_eq_nil_of_le (by omega), List.take_nil]
theorem cutD_map {α β : Type _} (f : α → β) (xs : List α) (lo hi : Option Int) : cutD (xs.map f) lo hi = (cutD xs lo hi).map f := by
  unfold cutD
  rw [List.length_map, List.map_take, List.map_drop]
/-! ### objects of one field -/
/-- an instance of C whose only field f stands for d -/
def Ob (K : PySem.W.Frag) (C : Addr) (f : Str) (F : Pr) : Pr := ⟨fun v h => ∃ a dx u, v = .ref a ∧ h a = some (.ins C dx [(f, u)]) ∧ F.p u h, fun e ⟨a, dx, u, x, y, z⟩ => ⟨a, dx, u, x, e _ _ y, F.mono e z⟩⟩
theorem lookup1 {f : Str} {u : V} : List.lookup f [(f, u)] = some u := by simp [List.lookup]
end
/-- a method (or the getter of a property) of the class at C -/
structure Mx (P : Program) (w : World) (K : PySem.W.Frag) (mg : Str → Option Value) (base : Heap) (k : Nat) (C : Addr) (m : Str) (sp : Sp) : Prop where
  ex : ∃ f, PySem.W.findIn K (.ref C) m = some (some (.ref f)) ∧ PySem.W.isFn K (.ref f) = true ∧ PySem.W.fnIn K f = true ∧ FnR P w K mg base CX0 k f sp
structure Gx (P : Program) (w : World) (K : PySem.W.Frag) (mg : Str → Option Value) (base : Heap) (k : Nat) (C : Addr) (m : Str) (sp : Sp) : Prop where
  ex : ∃ p g fd ps, PropOf K C m p g ∧ FnOk P w K mg base CX0 k g fd ps sp ∧ Binds K fd ps []
/-- the __init__ of the class that the module's name x holds -/
structure Ix (P : Program) (w : World) (K : PySem.W.Frag) (mg : Str → Option Value) (base : Heap) (k : Nat) (x : Str) (C : Addr) (sp : Sp) : Prop where
  ex : ∃ f, Mk K C f ∧ mg x = some (.ref C) ∧ FnR P w K mg base CX0 k f sp
section
variable {X : Cx} {k j : Nat} {x : Str} {sp : Sp} {p pos : Pos} {e o : Expr} {es : List Expr} {t : TA} {ta : TE} {C : Addr} {m : Str}
theorem pe_mkR (c : Ix X.prog X.w X.K X.mg X.base k x C sp) (hr : Room j X.A) (hk : k + 1 ≤ j) (hg : Gl X x) (ha : PA X (e :: es) t)
    (hdb : (x == ("__debug__" : Str)) = false := by decide) (he : starEach (e :: es) X.env = (false, eval e X.env) :: starEach es X.env := by rfl) (hpl : (backTo pos (starEach es X.env)).any (·.1) = false := by rfl) :
    PE X (.Call (.Name x p) (e :: es) [] pos) (StX.tMakeR C sp E0 t) := by
  obtain ⟨f, M, hm, F⟩ := c.ex
  exact StX.pe_makeR M F (hr.mono hk) hg hm pass0 ha hdb he hpl
theorem pe_get (c : Gx X.prog X.w X.K X.mg X.base k C m sp) (cl : Cls X.K C) (hr : Room j X.A) (hk : k + 1 ≤ j) (he : PE X o ta) (hab : attributeBase o m X.env (eval o X.env) = eval o X.env := by rfl) : PE X (.Attribute o m pos) (tProp C sp [] E0 ta) := by
  obtain ⟨p, g, fd, ps, hp, F, hb⟩ := c.ex
  exact pe_prop he cl hp F (hr.mono hk) hb .nil pass0 hab
theorem pe_cO (c : Mx X.prog X.w X.K X.mg X.base k C "__call__" sp) (hr : Room j X.A) (hk : k ≤ j) (hf : PE X o ta) (ha : PA X (e :: es) t)
    (ht : eval (.Call o (e :: es) [] pos) X.env = (do callWith pos (← eval o X.env) [] (backTo pos (starEach (e :: es) X.env)) (backToKw pos (keywordEach [] X.env))) := by rfl)
    (he : starEach (e :: es) X.env = (false, eval e X.env) :: starEach es X.env := by rfl) (hpl : (backTo pos (starEach es X.env)).any (·.1) = false := by rfl) : PE X (.Call o (e :: es) [] pos) (StX.tCallO X C sp E0 ta t) := by
  obtain ⟨f, a, b, d, F⟩ := c.ex
  exact StX.pe_callO hf ⟨a, b, d⟩ F (hr.mono hk) pass0 ha ht he hpl
end
/-! ### the text's own operators -/
section
variable {X : Cx} {k j : Nat} {sp : Sp} {C : Addr} {m : Str}
end
end Z
namespace Z
open PySem L2
section
variable {K : PySem.W.Frag} {Γ : Ctx} {te ta tb : TE} {tr : TA} {P A C : Pr}
/-- __init__ of a class of one field: a check, then the field -/
def spIni (K : PySem.W.Frag) (C : Addr) (f : Str) (pre : Pr → Prop) : Sp := fun vs H Q _ => ∃ (x dx : Addr) (F : Pr) (v : V) (h : Hp), vs = [.ref x, v] ∧ H x = some (.ins C dx []) ∧ Ex h H ∧ h x = none ∧ F.p v h ∧ pre F ∧
  ∀ h1 H1, Stp h H h1 H1 → Q .non (upd H1 x (.ins C dx [(f, v)]))
end
end Z
namespace Z
open PySem L2
section
variable {K : PySem.W.Frag} {b : Bs} {Γ Γ' : Ctx} {μ : Mo} {te ta tb : TE} {tr : TA} {t : TT} {P R : Pr} {tu tw tz : TS} {ff : St → Hp → Prop} {rr : VK} {bb cc : St → Hp → Prop}
end
end Z
namespace Z
open PySem L2
/-- a method's text and place -/
structure Dm (K : PySem.W.Frag) (m qual : Str) (st : Stmt) (ps : List Str) (f : Addr) : Prop where
  ex : ∃ fd, L2.Fun K m qual st f fd ∧ Binds K fd ps []
section
variable {P : Program} {w : World} {K : PySem.W.Frag} {mg : Str → Option Value} {base : Heap}
theorem en_start {α : Type _} {args : α → List Pr} {N ps : List Str} {a : α} {h : Hp} {vs : List V} (hn : ∀ a, (args a).length = ps.length) (q : Vs (args a) vs h) : En ((args a).map some ++ List.replicate (N.length - ps.length) none) (L2.start N vs) h := by
  have l1 : vs.length = ps.length := by rw [q.len, hn]
  have go : ∀ (Ps : List Pr) (vs : List V), Vs Ps vs h → ∀ (n : Nat), En (Ps.map some ++ List.replicate n none) (vs.map some ++ List.replicate n none) h := by
    intro Ps
    induction Ps with
    | nil =>
      intro vs q n
      cases q
      refine ⟨by simp, fun i P e => ?_⟩
      have e' : (List.replicate n (none : Option Pr))[i]? = some (some P) := e
      rw [List.getElem?_replicate] at e'
      split at e' <;> cases e'
    | cons P Ps ih =>
      intro vs q n
      cases q with
      | cons a q =>
        have z := ih _ q n
        refine ⟨by simpa using z.len, fun i R e => ?_⟩
        cases i with
        | zero =>
          have e' : P = R := by simpa using e
          subst e'
          exact ⟨_, rfl, a⟩
        | succ i =>
          obtain ⟨v, h1, h2⟩ := z.at_ i R (by simpa using e)
          exact ⟨v, by simpa using h1, h2⟩
  have st : L2.start N vs = vs.map some ++ List.replicate (N.length - ps.length) none := by
    unfold L2.start
    rw [l1]
  rw [st]
  exact go _ _ q _
theorem Dm.ok {sp : Sp} {m qual : Str} {st : Stmt} {ps N : List Str} {k : Nat} {f : Addr} (d : Dm K m qual st ps f) (S : FnScope N ps (defScope st)) (len : ∀ vs H Q E, sp vs H Q E → vs.length = ps.length)
    (hbody : ∀ (cdv : Value) (A : Around) (outer : List Env) (s : Shared) (H : Hp) (vs : List V) (Q : VK) (E : XK), Room k (A.deeper (PyProof.Rows.envOfC qual (defScope st) s.heap.objs.size f cdv)) → sp vs H Q E →
      ∃ t, PSs (cxOf CX0 P w K mg base N qual (defScope st) f cdv A outer s H E).nox (defBody st) t ∧ t { nx := fun _ H' => Q .non H', rt := Q } (L2.start N vs) H) : ∃ fd, FnOk P w K mg base CX0 (k + 1) f fd ps sp ∧ Binds K fd ps [] := by
  obtain ⟨fd, F, hb⟩ := d.ex
  exact ⟨fd, F.ok S len hbody, hb⟩
/-- where a method stands in its class -/
structure Mt (K : PySem.W.Frag) (C : Addr) (m : Str) (f : Addr) : Prop where
  at_ : PySem.W.findIn K (.ref C) m = some (some (.ref f))
  fn : PySem.W.isFn K (.ref f) = true
  fi : PySem.W.fnIn K f = true
theorem Mt.mx {C : Addr} {m : Str} {f : Addr} {k : Nat} {ps : List Str} {sp : Sp} (t : Mt K C m f) (o : ∃ fd, FnOk P w K mg base CX0 k f fd ps sp ∧ Binds K fd ps []) : Mx P w K mg base k C m sp := by
  obtain ⟨fd, F, b⟩ := o
  exact ⟨f, t.at_, t.fn, t.fi, raw0 F b⟩
theorem gx_of {C p g : Addr} {m : Str} {k : Nat} {ps : List Str} {sp : Sp} (t : PropOf K C m p g) (o : ∃ fd, FnOk P w K mg base CX0 k g fd ps sp ∧ Binds K fd ps []) : Gx P w K mg base k C m sp := by
  obtain ⟨fd, F, b⟩ := o
  exact ⟨p, g, fd, ps, t, F, b⟩
theorem ix_of {C f : Addr} {x : Str} {k : Nat} {ps : List Str} {sp : Sp} (t : Mk K C f) (hm : mg x = some (.ref C)) (o : ∃ fd, FnOk P w K mg base CX0 k f fd ps sp ∧ Binds K fd ps []) : Ix P w K mg base k x C sp := by
  obtain ⟨fd, F, b⟩ := o
  exact ⟨f, t, hm, raw0 F b⟩
end
end Z
namespace Z
open PySem L2
/-- what is known of an own class with the one field f -/
structure CK (K : PySem.W.Frag) (C : Addr) (f : Str) : Prop where
  cl : Cls K C
  na : NoAttr K C f
  ha : PySem.W.findIn K (.ref C) "__class__" = some (some (.builtin "object.__class__"))
  hn : PySem.W.specialIn K (.builtin "object.__class__") "__get__" = some (some (.builtin "getset_descriptor.__get__"))
  htk : PySem.W.takesIn K (.builtin "object.__class__") = some true
  hm : PySem.W.mroIn K C (.type "object") = some true
  ne : PySem.W.findIn K (.ref C) "__ne__" = some (some (.builtin "object.__ne__"))
  ic : PySem.W.isClsIn K C = true
  ty : PySem.W.typeIn K (.ref C) = some (.type "type")
  st : PySem.W.subIn K (.type "tuple") (.ref C) = some false
section
variable {K : PySem.W.Frag} {C : Addr} {f : Str}
theorem CK.nf (c : CK K C f) : PySem.W.notFirst K C (.type "tuple") = true := by
  unfold PySem.W.notFirst
  rw [c.st]
  simp
end
end Z

namespace Z
open PySem L2
/-! ### the law's source of numbers: a list that its own def changes; seen from outside it is one thing that stays -/
def okD (ns : List Int) : Prop := ∃ s x r, ns = s :: x :: r ∧ (0 ≤ s ∧ s < 2147483647) ∧ 0 ≤ x ∧ (∀ y ∈ r, 0 ≤ y) ∧ r.length ≤ 100
def DrawO (o : Obj) : Prop := ∃ (ns : List Int) (its : List Value) (n : Nat), o = { cls := .type "list", data := .seq its.toArray n } ∧ Vals (ns.map V.int) its ∧ okD ns
def DrawX (d : Addr) : HO := .ext fun h => ∃ o, h.get? d = some o ∧ DrawO o
def Drw : Pr := ⟨fun v h => ∃ d, v = .ref d ∧ h d = some (DrawX d), fun e ⟨d, a, b⟩ => ⟨d, a, e _ _ b⟩⟩
theorem okD_len {ns : List Int} (k : okD ns) : ns.length ≤ 1000 := by
  obtain ⟨s, x, r, rfl, _, _, _, h⟩ := k
  rw [List.length_cons, List.length_cons]; omega
/-- a list of the script's numbers -/
def Scr (K : PySem.W.Frag) (ns : List Int) : Pr := ⟨fun v h => ∃ a, v = .ref a ∧ SqL K h a (ns.map V.int), fun e ⟨a, x, y⟩ => ⟨a, x, sqL_ex e y⟩⟩
theorem isL_scr {K : PySem.W.Frag} {ns : List Int} : IsL K (Scr K ns) (ns.map PyData.int) := fun v h ⟨a, e, s⟩ => ⟨a, _, e, s, ints_dpa ns⟩
section
variable {P : Program} {w : World} {K : PySem.W.Frag} {mg : Str → Option Value} {base : Heap} {f : Addr} {k : Nat}
def spBelowL : Sp := fun vs H Q _ => ∃ (d : Addr) (ns : List Int) (n : Int), vs = [.ref d, .int n] ∧ H d = some (.lst (ns.map V.int)) ∧ okD ns ∧ (0 < n ∧ n < 18446744073709551616) ∧
  ∀ (r : Int) (ms : List Int), 0 ≤ r → r < n → okD ms → Q (.int r) (upd H d (.lst (ms.map V.int)))
/-- a number from 0 to n - 1 -/
def Bel (K : PySem.W.Frag) (n : Int) : Pr := Pr.some fun r : { r : Int // 0 ≤ r ∧ r < n } => I K r.1
abbrev spBelow (K : PySem.W.Frag) : Sp := Sv (fun n : Int => [Drw, I K n]) (fun n => 0 < n ∧ n < 18446744073709551616) (fun n => Bel K n)
theorem ext_lst {P : Program} {w : World} {H : Hp} {h : Heap} {d : Addr} {o u : HO} (ok : HOk P w H h) (ho : H d = some o) (n1 : ∀ c, o ≠ .own c) (n2 : ∀ xs, o ≠ .tup xs) (new : ∀ b, H b ≠ some (.own d) → True) (hu : ObjOk P w (upd H d u) h d u) : HOk P w (upd H d u) h := fun b o' e => by
  by_cases c : b = d
  · subst c
    rw [upd_same] at e
    cases e
    exact hu
  · rw [upd_ne c] at e
    refine (ok b o' e).stay (fun _ _ _ q => q) (fun a q => ?_) fun a xs q => ?_
    · by_cases ca : a = d
      · subst ca; rw [ho] at q; cases q; exact absurd rfl (n1 _)
      · rw [upd_ne ca]; exact q
    · by_cases ca : a = d
      · subst ca; rw [ho] at q; cases q; exact absurd rfl (n2 _)
      · rw [upd_ne ca]; exact q
theorem draw_obj {H : Hp} {h : Heap} {d : Addr} {o : Obj} (e : h.get? d = some o) (q : DrawO o) : ObjOk P w H h d (DrawX d) :=
  ⟨⟨o, e, q⟩, ⟨o, e⟩, fun h1 h2 ⟨o1, e1, q1⟩ k => ⟨o1, k _ e1, q1⟩⟩
theorem below_ext (F : FnR P w K mg base CX0 k f spBelowL) : FnR P w K mg base CX0 k f (spBelow K) := by
  intro A outer s H us vs Q E hr e0 r hs
  obtain ⟨n, h, e, q, p, kk⟩ := hs
  cases q with
  | cons q1 q =>
    cases q with
    | cons q2 q =>
      cases q
      obtain ⟨d, rfl, hd⟩ := q1
      rw [dp_int q2] at r
      have hD : H d = some (DrawX d) := e _ _ hd
      obtain ⟨⟨o, ho, ns, its, m, rfl, rv, ok⟩, _⟩ := (show ObjOk P w H s.heap d (DrawX d) from e0.hok d _ hD)
      have lw : ObjOk P w (upd H d (.lst (ns.map V.int))) s.heap d (.lst (ns.map V.int)) := ⟨by rw [List.length_map]; exact Nat.le_of_lt (small1000 (okD_len ok)), its, m, rv, ho⟩
      have hok1 : HOk P w (upd H d (.lst (ns.map V.int))) s.heap := ext_lst e0.hok hD (fun c z => by cases z) (fun c z => by cases z) (fun _ _ => trivial) lw
      have nb : ∀ b, H b = none → b ≠ d := fun b z c => by subst c; rw [hD] at z; cases z
      have e1 : Env0 P w K mg base A outer s (upd H d (.lst (ns.map V.int))) := ⟨e0.frames, e0.mod, fun b o z => ⟨(e0.bs b o z).1, by rw [upd_ne (nb b (e0.bs b o z).2)]; exact (e0.bs b o z).2⟩, e0.bsz, e0.funs, fun b z => by rw [upd_ne (nb b (e0.frf b z))]; exact e0.frf b z, hok1, e0.bare⟩
      refine codeAny_mono (F A outer s (upd H d (.lst (ns.map V.int))) us [.ref d, .int n] (fun v H' => ∃ r ms, v = .int r ∧ 0 ≤ r ∧ r < n ∧ okD ms ∧ H' = upd H d (.lst (ms.map V.int))) E hr e1 r ⟨d, ns, n, rfl, upd_same, ok, p, fun r ms r0 r1 om => ⟨r, ms, rfl, r0, r1, om, upd_upd⟩⟩) fun res s' hq => ?_
      cases res with
      | error er => exact False.elim (show False from hq)
      | ok fl =>
        cases fl with
        | next => exact False.elim hq
        | brk => exact False.elim hq
        | cont => exact False.elim hq
        | ret u =>
          obtain ⟨v, H', os, bare, un, hok', rel, r, ms, rfl, r0, r1, om, rfl⟩ := hq
          have hd' : upd H d (.lst (ms.map V.int)) d = some (.lst (ms.map V.int)) := upd_same
          obtain ⟨_, its', m', rv', ho'⟩ := (show ObjOk P w _ s'.heap d (.lst (ms.map V.int)) from hok' d _ hd')
          have back : upd (upd H d (.lst (ms.map V.int))) d (DrawX d) = H := by
            rw [upd_upd]
            funext b
            by_cases c : b = d
            · subst c; rw [upd_same, hD]
            · rw [upd_ne c]
          have hokH : HOk P w H s'.heap := by
            have z := ext_lst (u := DrawX d) hok' hd' (fun c z => by cases z) (fun c z => by cases z) (fun _ _ => trivial) (draw_obj ho' ⟨ms, its', m', rfl, rv', om⟩)
            rw [back] at z
            exact z
          refine ⟨.int r, H, os, bare, ⟨fun b o z n hb hx => un.keep b o z (by rw [upd_ne (nb b n)]; exact n) hb hx, fun b o z n hb hx => un.slot b o z (by rw [upd_ne (nb b n)]; exact n) hb hx, fun b o z n _ => n, fun b o z hx => un.there b o z hx, fun _ _ q => q, fun _ _ _ q => q, fun _ ps q => ⟨#[], by rw [q]; simp⟩⟩, hokH, rel, ?_⟩
          exact kk (.int r) h H (Stp.refl e) ⟨⟨r, r0, r1⟩, .int r⟩
/-- the source is made -/
def spRandL (K : PySem.W.Frag) : Sp := fun vs H Q _ => ∃ (ns : List Int) (n : Int) (h : Hp), Ex h H ∧ Vs [Scr K ns, I K n] vs h ∧ (0 ≤ n ∧ n < 1000000) ∧ ns.length ≤ 63 ∧
  ∀ p H' ms, H p = none → Exq H H' → Ex h H' → H' p = some (.lst (ms.map V.int)) → okD ms → Q (.ref p) H'
abbrev spRand (K : PySem.W.Frag) : Sp := Sv (fun a : List Int × Int => [Scr K a.1, I K a.2]) (fun a => (0 ≤ a.2 ∧ a.2 < 1000000) ∧ a.1.length ≤ 63) (fun _ => Drw)
theorem rand_ext (F : FnR P w K mg base CX0 k f (spRandL K)) : FnR P w K mg base CX0 k f (spRand K) := by
  intro A outer s H us vs Q E hr e0 r hs
  obtain ⟨⟨ns, n⟩, h, e, q, ⟨p, hl⟩, kk⟩ := hs
  refine codeAny_mono (F A outer s H us vs (fun v H' => ∃ p ms, v = .ref p ∧ H p = none ∧ Exq H H' ∧ Ex h H' ∧ H' p = some (.lst (ms.map V.int)) ∧ okD ms) E hr e0 r ⟨ns, n, h, e, q, p, hl, fun p H' ms a b b2 c d => ⟨p, ms, rfl, a, b, b2, c, d⟩⟩) fun res s' hq => ?_
  cases res with
  | error er => exact False.elim (show False from hq)
  | ok fl =>
    cases fl with
    | next => exact False.elim hq
    | brk => exact False.elim hq
    | cont => exact False.elim hq
    | ret u =>
      obtain ⟨v, H', os, bare, un, hok', rel, p, ms, rfl, np, ex, eh, hp, om⟩ := hq
      obtain ⟨_, its', m', rv', ho'⟩ := (show ObjOk P w _ s'.heap p (.lst (ms.map V.int)) from hok' p _ hp)
      have hok2 : HOk P w (upd H' p (DrawX p)) s'.heap := ext_lst hok' hp (fun c z => by cases z) (fun c z => by cases z) (fun _ _ => trivial) (draw_obj ho' ⟨ms, its', m', rfl, rv', om⟩)
      have ne : ∀ b o, H b = some o → b ≠ p := fun b o z => ne_of_none z np
      have pfree : ∀ b o, s.heap.get? b = some o → b ∉ ([] : List Addr) → H b = none → b ≠ p := fun b o z hx n c => by
        subst c
        have := un.free b o z n hx
        rw [hp] at this
        cases this
      refine ⟨.ref p, upd H' p (DrawX p), os, bare, ⟨un.keep, un.slot, fun b o z n hx => by rw [upd_ne (pfree b o z hx n)]; exact un.free b o z n hx, un.there, fun b xs q => by rw [upd_ne (ne b _ q)]; exact un.tups b xs q, fun b o xs q => by rw [upd_ne (ne b _ q)]; exact un.frzs b o xs q, fun b ps q => by rw [upd_ne (ne b _ q)]; exact un.tbls b ps q⟩, hok2, rel, ?_⟩
      have nh : h p = none := by
        cases z : h p with
        | none => rfl
        | some o => rw [e p o z] at np; cases np
      refine kk (.ref p) (upd h p (DrawX p)) _ ⟨ex.upd np (plo_at hp), fun b o z => ?_, fun b o z => ?_, fun b o z n y9 => ?_⟩ ⟨p, rfl, upd_same⟩
      · rw [upd_ne (ne_of_none z nh)]; exact z
      · by_cases c : b = p
        · subst c; rw [upd_same] at z ⊢; exact z
        · rw [upd_ne c] at z ⊢; exact eh b o z
      · rw [upd_ne (ne b o z)]; exact n
end
end Z
namespace Z
open PySem L2
theorem n_retR {b : Bs} {Γ : Ctx} {μ : Mo} {te : TE} {Dd : Ends} (k : ∀ σ h H, En Γ σ h → b.Ok h H → te σ H Dd.rt) : Nx b Γ μ (tRet te Dd) := fun σ h H x s _ => k σ h H x s
theorem raw_op {Γ : Ctx} {r : R2} {ta tb : TE} {A C : Pr} {σ : L2.St} {h H : Hp} {Q : VK} (a : T Γ ta A) (c : T Γ tb C) (x : En Γ σ h) (e : Ex h H) (k : ∀ u v h2 H2, Stp h H h2 H2 → A.p u h2 → C.p v h2 → r u v H2 Q) : tOp r ta tb σ H Q :=
  a σ h H x e _ fun u h1 H1 s1 q1 => c σ h1 H1 (x.mono s1.s) s1.i _ fun v h2 H2 s2 q2 => k u v h2 H2 (s1.trans s2) (A.mono s2.s q1) q2
end Z

namespace Z
open PySem L2
theorem Stp.out {h H : Hp} {p : Addr} {o : HO} (x : Ex h H) (n : H p = none) : Stp h H h (upd H p o) :=
  ⟨Exq.refl.upd n (plo_none n), fun _ _ q => q, fun b u q => by rw [upd_ne (ne_of_none (x b u q) n)]; exact x b u q, fun _ _ _ z _ => z⟩
theorem En.blur {Γ : Ctx} {σ : St} {h : Hp} {v : Option V} (x : En Γ σ h) (i : Nat) : En (Γ.set i none) (σ.set i v) h := by
  refine ⟨by rw [List.length_set, List.length_set]; exact x.len, fun j R e => ?_⟩
  by_cases c : i = j
  · subst c
    have hl : i < Γ.length := by
      have := (List.getElem?_eq_some_iff.mp e).1
      rw [List.length_set] at this; exact this
    rw [List.getElem?_set_self hl] at e
    cases e
  · rw [List.getElem?_set_ne c] at e
    obtain ⟨u, a, b⟩ := x.at_ j R e
    exact ⟨u, by rw [List.getElem?_set_ne c]; exact a, b⟩
section
variable {K : PySem.W.Frag} {b : Bs} {Γ : Ctx} {ta tc td te : TE} {tr : TA} {A C E P R : Pr} {Dd : Ends} {tz : TS}
end
end Z
namespace Z
open PySem L2
section
variable {K : PySem.W.Frag} {b : Bs} {Γ : Ctx} {ta tc td te : TE} {tr : TA} {A C E P R : Pr} {Dd : Ends} {tz : TS}
theorem opp_inl {r r' : R2} (h : OpP r A C P) : OpP (fun x y H Q => r x y H Q ∨ r' x y H Q) A C P := fun x y h0 H a c e Q k => .inl (h x y h0 H a c e Q k)
theorem opp_inr {r r' : R2} (h : OpP r' A C P) : OpP (fun x y H Q => r x y H Q ∨ r' x y H Q) A C P := fun x y h0 H a c e Q k => .inr (h x y h0 H a c e Q k)
theorem opp_neB {a c : Bool} : OpP rNe (B K a) (B K c) (B K (!decide (a = c))) := fun x y h H p q z Q k => by
  rw [dp_bl p, dp_bl q]
  refine ⟨rfl, ?_⟩
  have e : decide (V.bl a = V.bl c) = decide (a = c) := by cases a <;> cases c <;> simp
  rw [e]
  exact k _ h H (Stp.refl z) (.bl _)
theorem opp_eqB {a c : Bool} : OpP rEq (B K a) (B K c) (B K (decide (a = c))) := fun x y h H p q z Q k => by
  rw [dp_bl p, dp_bl q]
  refine ⟨rfl, ?_⟩
  have e : decide (V.bl a = V.bl c) = decide (a = c) := by cases a <;> cases c <;> simp
  rw [e]
  exact k _ h H (Stp.refl z) (.bl _)
theorem atI_get {α : Type} {xs : List α} {i : Nat} {x : α} (h : xs[i]? = some x) : atI xs (i : Int) = some x := by
  unfold atI
  rw [Evl.ixN_nat (List.getElem?_eq_some_iff.mp h).1]
  exact h
end
end Z

namespace Z
open PySem L2
section
variable {P : Program} {w : World} {K : PySem.W.Frag} {mg : Str → Option Value} {base : Heap}
end
end Z
namespace Z
open PySem L2
section
variable {K : PySem.W.Frag} {b : Bs} {Γ : Ctx} {ta tc td te : TE} {tr : TA} {t : TT} {A C E P R : Pr} {Dd : Ends} {tz : TS}
end
end Z

namespace Z
open PySem L2
section
variable {K : PySem.W.Frag} {b : Bs} {Γ Γ' : Ctx} {μ : Mo} {te ta tb : TE} {t : TT} {P R : Pr} {Dd : Ends} {tu tw tz : TS} {ff : St → Hp → Prop} {rr : VK} {bb cc : St → Hp → Prop}
theorem Mu.reb {b b' : Bs} {μ : Mo} {σ : St} {h H : Hp} (m : Mu b μ σ h H) (e : b.H0 = b'.H0) : Mu b' μ σ h H := by
  cases μ with
  | none => trivial
  | some p =>
    obtain ⟨l, o, m⟩ := m
    exact ⟨l, o, m.at_, m.nh, by rw [← e]; exact m.n0, m.oH, m.ct⟩
/-- back to what was known before -/
theorem n_back {hb : Hp} {F : St → Hp → Prop} (hk : Ex b.hb hb) (k : Nx b Γ μ F) : Nx ⟨b.h0, b.H0, hb⟩ Γ μ F := fun σ h H x s m => k σ h H x ⟨s.st, fun a o q => s.kn a o (hk a o q)⟩ (m.reb rfl)
end
end Z

namespace Z
open PySem L2
/-! ### tuples gone over, pairs, zip -/
theorem dp_pair {K : PySem.W.Frag} {h : Hp} {v : V} {d e : PyData} (q : Dq K h v (.tuple [d, e])) : ∃ a u1 u2, v = .ref a ∧ SqT K h a [u1, u2] ∧ Dq K h u1 d ∧ Dq K h u2 e := by
  obtain ⟨a, xs, rfl, s, z⟩ := dp_tup q
  cases z with
  | cons d1 z =>
    cases z with
    | cons d2 z =>
      cases z
      exact ⟨a, _, _, rfl, s, d1, d2⟩
section
variable {K : PySem.W.Frag} {b : Bs} {Γ Γ' : Ctx} {μ : Mo} {te ta tb : TE} {t : TT} {P R : Pr} {Dd : Ends} {tu tw tz : TS} {ff : St → Hp → Prop} {rr : VK} {bb cc : St → Hp → Prop}
end
end Z

namespace Z
open PySem L2 PyProof.Rows
/-! ### max of a tuple of whole numbers -/
section
variable {prog : Program} {w : World} {A : Around} {E : Value → Shared → Prop} {s : Shared} {l : Addr} {xs : Array (Int × Tok)}
end
/-! ### an own method called by its name -/
end Z

namespace Z
open PySem L2
section
variable {K : PySem.W.Frag} {Γ : Ctx} {te : TE} {t : TT} {P R : Pr}
end
end Z
namespace Z
open PySem L2
section
variable {K : PySem.W.Frag} {b : Bs} {Γ Γ' : Ctx} {μ μ' : Mo} {te ta tb tc : TE} {tr : TA} {t : TT} {P R : Pr} {Dd : Ends} {tu tw tz : TS}
end
end Z
namespace Z
open PySem L2
end Z

namespace Z
open PySem L2 PyProof.Rows
/-! ### plain tuples: of these it is known that the object has no dict; dict(..) of such a tuple of pairs -/
def DPl (K : PySem.W.Frag) (ds : List PyData) : Pr := ⟨fun v h => ∃ a o xs, v = .ref a ∧ h a = some (.frz o (.tup xs)) ∧ o.dict = none ∧ DqAll K h xs ds, fun e ⟨a, o, xs, x, y, z, q⟩ => ⟨a, o, xs, x, e _ _ y, z, dpa_ex e q⟩⟩
theorem dpl_D {K : PySem.W.Frag} {ds : List PyData} {v : V} {h : Hp} (q : (DPl K ds).p v h) : (D K (.tuple ds)).p v h := by
  obtain ⟨a, o, xs, rfl, y, _, q⟩ := q
  exact .tup (.inl (.inr ⟨o, y⟩)) q
/-- (a, ..), a new plain tuple -/
def tTupF (t : TA) : TE := fun σ H Q => t σ H fun xs H1 => xs.length ≤ sizeLine ∧ ∀ p o, H1 p = none → o.dict = none → Q (.ref p) (upd H1 p (.frz o (.tup xs)))
theorem pe_tupF {X : Cx} {es : List Expr} {x1 : Nat} {pos : Pos} {t : TA} (hes : PA X es t) : PE X (.Tuple es x1 pos) (tTupF t) := by
  refine ⟨fun pins st τ G R J hw => ?_⟩
  refine wpAny_Tuple_spliced (thn (hes.run pos pins st τ G _ J hw) fun us st1 ⟨zs, G1, J1, rv, lz, hq⟩ => ⟨by rw [← rv.length]; exact lz, ?_⟩)
  have fr : G1 st1.heap.objs.size = none := J1.hok.fresh (Nat.le_refl _)
  have gt : (st1.heap.push { cls := .type "tuple", data := .seq us.toArray }).get? st1.heap.objs.size = some { cls := .type "tuple", data := .seq us.toArray } := Heap.get?_push_size _ rfl
  exact ⟨.ref st1.heap.objs.size, _, J1.laid (t' := st1.toks) (o := .frz { cls := .type "tuple", data := .seq us.toArray } (.tup zs)) (fun b u z => Heap.get?_push_of_some _ z) (Nat.le_refl _) ⟨gt, lz, us, rv, ⟨_, gt, rfl, _, rfl⟩⟩, rfl, hq _ _ fr rfl⟩
section
variable {K : PySem.W.Frag} {Γ : Ctx} {tr : TA} {te : TE}
end
/-! dict(t) -/
end Z

namespace Z
open PySem L2
/-! ### dicts from whole numbers to whole numbers -/
def encD (al : List (Int × Int)) : List (Key × V) := al.map fun p => (Sum.inl p.1, V.int p.2)
def getI (al : List (Int × Int)) (k : Int) : Option Int := (al.find? fun p => decide (p.1 = k)).map (·.2)
/-- the number at k, 0 if there is none -/
def cf (al : List (Int × Int)) (k : Int) : Int := (getI al k).getD 0
def putI (al : List (Int × Int)) (k v : Int) : List (Int × Int) := if (al.any fun p => decide (p.1 = k)) = true then al.map (fun p => if p.1 = k then (p.1, v) else p) else al ++ [(k, v)]
theorem getI_cons {p : Int × Int} {al : List (Int × Int)} {k : Int} : getI (p :: al) k = if p.1 = k then some p.2 else getI al k := by
  unfold getI
  rw [List.find?_cons]
  by_cases e : p.1 = k
  · rw [decide_eq_true e, if_pos e]; rfl
  · rw [decide_eq_false e, if_neg e]
theorem getI_none {al : List (Int × Int)} {k : Int} : getI al k = none ↔ k ∉ al.map (·.1) := by
  unfold getI
  rw [Option.map_eq_none_iff, List.find?_eq_none]
  constructor
  · intro h m
    obtain ⟨p, hp, e⟩ := List.mem_map.mp m
    exact h p hp (decide_eq_true e)
  · intro h p hp e
    exact h (List.mem_map.mpr ⟨p, hp, of_decide_eq_true e⟩)
theorem getI_app : ∀ {al bl : List (Int × Int)} {k : Int}, getI (al ++ bl) k = (getI al k).or (getI bl k)
  | [], bl, k => rfl
  | p :: al, bl, k => by
    rw [List.cons_append, getI_cons, getI_cons]
    by_cases e : p.1 = k
    · rw [if_pos e, if_pos e]; rfl
    · rw [if_neg e, if_neg e]; exact getI_app
/-- the dict, when it is not changed any more -/
theorem rd_ex {h h' : Hp} {a : Addr} {u : HO} (e : Ex h h') (r : Rd h a u) : Rd h' a u := by
  rcases r with r | ⟨o, r⟩
  · exact .inl (e _ _ r)
  · exact .inr ⟨o, e _ _ r⟩
def DkI (al : List (Int × Int)) : Pr := ⟨fun v h => ∃ a, v = .ref a ∧ Rd h a (.dK (encD al)), fun e ⟨a, x, y⟩ => ⟨a, x, rd_ex e y⟩⟩
section
variable {K : PySem.W.Frag} {b : Bs} {Γ : Ctx} {te td ty tb tx : TE} {tr : TA} {t : TT} {P R : Pr} {Dd : Ends} {tz : TS} {ff : St → Hp → Prop} {rr : VK} {bb cc : St → Hp → Prop}
abbrev prI (al : List (Int × Int)) : List PyData := al.map fun p => .tuple [.int p.1, .int p.2]
end
end Z

namespace Z
open PySem L2
section
variable {K : PySem.W.Frag} {Γ : Ctx} {te : TE} {t : TT} {P R : Pr}
end
end Z
namespace Z
open PySem L2
section
variable {K : PySem.W.Frag} {Γ : Ctx} {ta : TE}
/-- C(..), the argument one of many -/
theorem t_mkObS {β : Sort _} {C : Addr} {f : Str} {pre : Pr → Prop} {F : β → Pr} (a : T Γ ta (Pr.some F)) (p : ∀ s, pre (F s)) : T Γ (StX.tMakeR C (spIni K C f pre) E0 (tCons ta tNil)) (Pr.some fun s => Ob K C f (F s)) := fun σ h H x e Q k => a σ h H x e _ fun v h1 H1 s1 ⟨s, q⟩ => by
  intro y dx ny nd ne
  have nh : h1 y = none := by
    cases z : h1 y with
    | none => rfl
    | some o => rw [s1.i y o z] at ny; cases ny
  have eH : Ex H1 (upd (upd H1 dx (.own y)) y (.ins C dx [])) := fun b o z => by rw [upd_ne (ne_of_none z ny), upd_ne (ne_of_none z nd)]; exact z
  refine ⟨y, dx, F s, v, h1, rfl, upd_same, fun b o z => eH b o (s1.i b o z), nh, q, p s, fun h3 H3 s3 => ⟨rfl, ?_⟩⟩
  have hy3 : H3 y = some (.ins C dx []) := s3.e _ _ upd_same
  have ny3 : h3 y = none := s3.f _ _ upd_same nh
  have e3 : Ex h3 (upd h3 y (.ins C dx [(f, v)])) := fun b o z => by rw [upd_ne (ne_of_none z ny3)]; exact z
  refine k (.ref y) (upd h3 y (.ins C dx [(f, v)])) _ (s1.trans ⟨((Exq.of eH).trans s3.e0).upd ny (plo_at hy3), fun b o z => e3 b o (s3.s b o z), fun b o z => ?_, fun b o z n y9 => ?_⟩) ⟨s, y, dx, v, rfl, upd_same, (F s).mono e3 ((F s).mono s3.s q)⟩
  · by_cases c : b = y
    · subst c; rw [upd_same] at z ⊢; exact z
    · rw [upd_ne c] at z ⊢; exact s3.i b o z
  · rw [upd_ne (ne_of_none z ny)]
    exact s3.f0 b o (eH b o z) n (nx_ne (ne_of_none z ny) y9)
end
end Z
namespace Z
open PySem L2
section
variable {K : PySem.W.Frag} {b : Bs} {Γ : Ctx} {te ta : TE} {P R : Pr} {Dd : Ends} {tz : TS} {ff : St → Hp → Prop} {rr : VK} {bb cc : St → Hp → Prop}
end
end Z

namespace Z
open PySem L2
/-! ### an own object times a whole number -/
section
variable {prog : Program} {w : World} {A : Around} {E : Value → Shared → Prop} {s : Shared} {K : PySem.W.Frag} {x C Lm f : Addr} {h₀ : Heap} {m : Str → Option Value} {ox : Obj} {od : Option Obj}
end
end Z
namespace Z
open PySem L2
section
variable {K : PySem.W.Frag} {Γ : Ctx} {C : Addr} {f : Str} {F G : Pr}
theorem opp_eqS {x y : Str} : OpP rEq (D K (.str x)) (D K (.str y)) (B K (decide (x = y))) := fun u v h H p q z Q k => by
  rw [dp_str p, dp_str q]
  refine ⟨rfl, ?_⟩
  have e : decide (V.str x = V.str y) = decide (x = y) := by
    by_cases c : x = y
    · subst c; simp
    · rw [decide_eq_false c, decide_eq_false fun w => c (V.str.inj w)]
  rw [e]
  exact k _ h H (Stp.refl z) (.bl _)
end
end Z

namespace Z
open PySem L2 PyProof.Rows
/-! ### list(range(a, b, c)) -/
end Z
namespace Z
open PySem L2
section
variable {K : PySem.W.Frag} {Γ : Ctx} {ta tb tc : TE}
end
end Z
namespace Z
open PySem L2
section
variable {K : PySem.W.Frag} {b : Bs} {Γ : Ctx} {μ : Mo} {te : TE} {Dd : Ends} {tz : TS} {ff : St → Hp → Prop} {rr : VK} {bb cc : St → Hp → Prop}
end
end Z

namespace Z
open PySem L2
/-! ### values as plain things: what a run's values stand for -/
/-- the classes of memories and of rigs -/
structure Cl where
  C : Addr
  R : Addr
  X : Addr
  fn : List Str
  er : Str → Addr
/-- an own object with several attributes -/
def ObN (C : Addr) (fs : List Str) (Ps : List Pr) : Pr := ⟨fun v h => ∃ a dx us, v = .ref a ∧ h a = some (.ins C dx (fs.zip us)) ∧ Vs Ps us h, fun e ⟨a, dx, us, x, y, q⟩ => ⟨a, dx, us, x, e _ _ y, q.mono e⟩⟩
/-- the attribute in which the error tells a number -/
def xfn (n : Str) : Str := if n = "DecodeError" then "offset" else "index"
/-- a caught error, its dict with what it tells -/
def Exv (a : Addr) (d : Option Addr) (n : Str) (i : Option Int) : Pr := ⟨fun v h => v = .ref a ∧ match i with | none => d = none | some x => ∃ dd, d = some dd ∧ h dd = some (.xd [(xfn n, .int x)]), fun e ⟨q, r⟩ => ⟨q, by
  cases i with
  | none => exact r
  | some x => obtain ⟨dd, r1, r2⟩ := r; exact ⟨dd, r1, e _ _ r2⟩⟩⟩
/-- the same but for dicts that are held -/
def Sim (h h' : Hp) : Prop := ∀ a o, h a = some o → h' a = some o ∨ ∃ kvs, (o = .dK kvs ∨ ∃ od, o = .frz od (.dK kvs)) ∧ (h' a = some (.dK kvs) ∨ ∃ od, h' a = some (.frz od (.dK kvs)))
/-- something that a value may be asked, whatever dicts are held -/
structure PrS where
  p : Pr
  sim : ∀ {h h' : Hp} {v : V}, Sim h h' → p.p v h → p.p v h'
inductive W where
  | non | bl (b : Bool) | int (i : Int) | str (s : Str)
  | tup (xs : List W) | lst (xs : List W)
  | rig (al : List (Int × Int)) | arm (al : List (Int × Int)) | mem (ps : List Int)
  | src | scr (ns : List Int) | dct (al : List (Int × Int))
  | ty (n : String) | cls (k : Bool)
  | ob (xs : List W) | adr (a : Addr)
  | exc (n : Str) (i : Option Int)
  | ecl (n : Str) | exv (a : Addr) (d : Option Addr) (n : Str) (i : Option Int)
  | pr (p : PrS)
/-- the class of this kind: true rigs, false memories -/
def Cl.at (c : Cl) : Bool → Addr | true => c.R | false => c.C
section
variable (K : PySem.W.Frag) (c : Cl)
mutual
def W.p : W → Pr
  | .non => D K .none
  | .bl b => B K b
  | .int i => I K i
  | .str s => D K (.str s)
  | .tup xs => U K (W.ps xs)
  | .lst xs => L K (W.ps xs)
  | .rig al => Ob K c.R "_arms" (DPl K (prI al))
  | .arm al => DPl K (prI al)
  | .mem qs => Ob K c.C "_places" (D K (dT qs))
  | .src => Drw
  | .scr ns => Scr K ns
  | .dct al => DkI al
  | .ty n => Pr.is (.ty n)
  | .cls k => Pr.is (.ref (c.at k))
  | .ob xs => ObN c.X c.fn (W.ps xs)
  | .adr a => Pr.is (.ref a)
  | .exc _ _ => ⟨fun _ _ => False, fun _ q => q⟩
  | .ecl n => Pr.is (.ref (c.er n))
  | .exv a d n i => Exv a d n i
  | .pr p => p.p
def W.ps : List W → List Pr
  | [] => []
  | w :: ws => W.p w :: W.ps ws
end
theorem ps_map : ∀ ws : List W, W.ps K c ws = ws.map (W.p K c)
  | [] => rfl
  | w :: ws => by rw [W.ps, ps_map ws]; rfl
/-- some value as Q says -/
def SQ (Q : W → Prop) : Pr := ⟨fun v h => ∃ w, Q w ∧ (W.p K c w).p v h, fun e ⟨w, q, z⟩ => ⟨w, q, (W.p K c w).mono e z⟩⟩
end
theorem ps_len {K : PySem.W.Frag} {c : Cl} (ws : List W) : (W.ps K c ws).length = ws.length := by rw [ps_map, List.length_map]
theorem ps_app {K : PySem.W.Frag} {c : Cl} (ws us : List W) : W.ps K c (ws ++ us) = W.ps K c ws ++ W.ps K c us := by rw [ps_map, ps_map, ps_map, List.map_append]
/-- the frame's slots -/
abbrev Sl := List (Option W)
def Sl.G (K : PySem.W.Frag) (c : Cl) (ρ : Sl) : Ctx := ρ.map (Option.map (W.p K c))
section
variable {K : PySem.W.Frag} {c : Cl} {ρ : Sl}
theorem G_get {i : Nat} {w : W} (h : ρ[i]? = some (some w)) : (ρ.G K c)[i]? = some (some (w.p K c)) := by
  unfold Sl.G
  rw [List.getElem?_map, h]; rfl
theorem G_set {i : Nat} {w : W} : Sl.G K c (ρ.set i (some w)) = (ρ.G K c).set i (some (w.p K c)) := by
  unfold Sl.G
  rw [List.map_set]; rfl
theorem G_wipe {i : Nat} : Sl.G K c (ρ.set i none) = (ρ.G K c).set i none := by
  unfold Sl.G
  rw [List.map_set]; rfl
theorem G_len : (ρ.G K c).length = ρ.length := by unfold Sl.G; rw [List.length_map]
end
/-! ### expressions -/
structure XE where
  f : Sl → (W → Prop) → Prop
  m : ∀ {ρ : Sl} {Q Q' : W → Prop}, (∀ w, Q w → Q' w) → f ρ Q → f ρ Q'
structure XA where
  f : Sl → (List W → Prop) → Prop
  m : ∀ {ρ : Sl} {Q Q' : List W → Prop}, (∀ w, Q w → Q' w) → f ρ Q → f ρ Q'
structure XT where
  f : Sl → (Bool → Prop) → Prop
  m : ∀ {ρ : Sl} {Q Q' : Bool → Prop}, (∀ w, Q w → Q' w) → f ρ Q → f ρ Q'
structure XP where
  f : Sl → (Option Int → Prop) → Prop
  m : ∀ {ρ : Sl} {Q Q' : Option Int → Prop}, (∀ w, Q w → Q' w) → f ρ Q → f ρ Q'
structure XO where
  f : W → W → (W → Prop) → Prop
  m : ∀ {x y : W} {Q Q' : W → Prop}, (∀ w, Q w → Q' w) → f x y Q → f x y Q'
structure XU where
  f : W → (W → Prop) → Prop
  m : ∀ {x : W} {Q Q' : W → Prop}, (∀ w, Q w → Q' w) → f x Q → f x Q'
/-- a function of arguments -/
structure XN where
  f : List W → (W → Prop) → Prop
  m : ∀ {x : List W} {Q Q' : W → Prop}, (∀ w, Q w → Q' w) → f x Q → f x Q'
/-- a promise -/
structure XF where
  α : Type
  n : Nat
  args : α → List W
  pre : α → Prop
  post : α → W → Prop
  hn : ∀ a, (args a).length = n := by intros; rfl
def XF.f (F : XF) (ws : List W) (Q : W → Prop) : Prop := ∃ a, ws = F.args a ∧ F.pre a ∧ ∀ w, F.post a w → Q w
def XF.sp (K : PySem.W.Frag) (c : Cl) (F : XF) : Sp := Sv (fun a => W.ps K c (F.args a)) F.pre (fun a => SQ K c (F.post a))
section
variable (K : PySem.W.Frag) (c : Cl)
def Ev (te : TE) (e : XE) : Prop := ∀ (ρ : Sl) (Q : W → Prop), e.f ρ Q → T (ρ.G K c) te (SQ K c Q)
def EA (ta : TA) (a : XA) : Prop := ∀ (ρ : Sl) (Q : List W → Prop), a.f ρ Q → ∀ (σ : St) (h H : Hp), En (ρ.G K c) σ h → Ex h H → ∀ R : List V → Hp → Prop, (∀ ws vs h' H', Q ws → Stp h H h' H' → Vs (W.ps K c ws) vs h' → R vs H') → ta σ H R
def ET (tt : TT) (t : XT) : Prop := ∀ (ρ : Sl) (Q : Bool → Prop), t.f ρ Q → TB (ρ.G K c) tt Q
def EP' (to : TO) (t : XP) : Prop := ∀ (ρ : Sl) (Q : Option Int → Prop), t.f ρ Q → ∀ (σ : St) (h H : Hp), En (ρ.G K c) σ h → Ex h H → ∀ R : Option Int → Hp → Prop, (∀ o h' H', Q o → Stp h H h' H' → R o H') → to σ H R
def EO (r : R2) (o : XO) : Prop := ∀ (x y : W) (Q : W → Prop), o.f x y Q → OpP r (x.p K c) (y.p K c) (SQ K c Q)
def EU (r : V → Hp → VK → Prop) (o : XU) : Prop := ∀ (x : W) (Q : W → Prop), o.f x Q → UnP r (x.p K c) (SQ K c Q)
def EN (r : List V → Hp → VK → Prop) (o : XN) : Prop := ∀ (ws : List W) (Q : W → Prop), o.f ws Q → FnP r (W.ps K c ws) (SQ K c Q)
end
def XE.var (i : Nat) : XE := ⟨fun ρ Q => ∃ w, ρ[i]? = some (some w) ∧ Q w, fun k ⟨w, e, q⟩ => ⟨w, e, k w q⟩⟩
def XE.lit (w : W) : XE := ⟨fun _ Q => Q w, fun k q => k w q⟩
def XE.op (o : XO) (a b : XE) : XE := ⟨fun ρ Q => a.f ρ fun x => b.f ρ fun y => o.f x y Q, fun k q => a.m (fun _ z => b.m (fun _ z => o.m k z) z) q⟩
def XE.un (o : XU) (a : XE) : XE := ⟨fun ρ Q => a.f ρ fun x => o.f x Q, fun k q => a.m (fun _ z => o.m k z) q⟩
def XA.nil : XA := ⟨fun _ Q => Q [], fun k q => k _ q⟩
def XA.cons (a : XE) (r : XA) : XA := ⟨fun ρ Q => a.f ρ fun x => r.f ρ fun xs => Q (x :: xs), fun k q => a.m (fun _ z => r.m (fun _ z => k _ z) z) q⟩
def XE.fn (o : XN) (a : XA) : XE := ⟨fun ρ Q => a.f ρ fun xs => o.f xs Q, fun k q => a.m (fun _ z => o.m k z) q⟩
def XF.m (F : XF) {ws : List W} {Q Q' : W → Prop} (k : ∀ w, Q w → Q' w) (q : F.f ws Q) : F.f ws Q' := by
  obtain ⟨a, e, p, r⟩ := q
  exact ⟨a, e, p, fun w z => k w (r w z)⟩
def XE.call (F : XF) (a : XA) : XE := ⟨fun ρ Q => a.f ρ fun xs => F.f xs Q, fun k q => a.m (fun _ z => F.m k z) q⟩
def XE.ite (t : XT) (a b : XE) : XE := ⟨fun ρ Q => t.f ρ fun x => (x = true → a.f ρ Q) ∧ (x = false → b.f ρ Q), fun k q => t.m (fun _ z => ⟨fun h => a.m k (z.1 h), fun h => b.m k (z.2 h)⟩) q⟩
def XE.andV (a b : XE) : XE := ⟨fun ρ Q => a.f ρ fun x => ∃ p, x = .bl p ∧ (p = true → b.f ρ Q) ∧ (p = false → Q (.bl false)), fun k q => a.m (fun _ ⟨p, e, z, y⟩ => ⟨p, e, fun h => b.m k (z h), fun h => k _ (y h)⟩) q⟩
def XE.orV (a b : XE) : XE := ⟨fun ρ Q => a.f ρ fun x => ∃ p, x = .bl p ∧ (p = false → b.f ρ Q) ∧ (p = true → Q (.bl true)), fun k q => a.m (fun _ ⟨p, e, z, y⟩ => ⟨p, e, fun h => b.m k (z h), fun h => k _ (y h)⟩) q⟩
def XE.notV (a : XE) : XE := ⟨fun ρ Q => a.f ρ fun x => ∃ p, x = .bl p ∧ Q (.bl (!p)), fun k q => a.m (fun _ ⟨p, e, z⟩ => ⟨p, e, k _ z⟩) q⟩
def XE.lst (a : XA) : XE := ⟨fun ρ Q => a.f ρ fun ws => ws.length ≤ 100000 ∧ Q (.lst ws), fun k q => a.m (fun _ ⟨p, z⟩ => ⟨p, k _ z⟩) q⟩
def XE.tup (a : XA) : XE := ⟨fun ρ Q => a.f ρ fun ws => ws.length ≤ 100000 ∧ Q (.tup ws), fun k q => a.m (fun _ ⟨p, z⟩ => ⟨p, k _ z⟩) q⟩
def XE.chain (g g' : Int → Int → Bool) (a b d : XE) : XE := ⟨fun ρ Q => a.f ρ fun x => b.f ρ fun y => ∃ i j, x = .int i ∧ y = .int j ∧ (g i j = true → d.f ρ fun z => ∃ k, z = .int k ∧ Q (.bl (g' j k))) ∧ (g i j = false → Q (.bl false)),
  fun k q => a.m (fun _ z => b.m (fun _ ⟨i, j, e, e', z, y⟩ => ⟨i, j, e, e', fun h => d.m (fun _ ⟨n, e, z⟩ => ⟨n, e, k _ z⟩) (z h), fun h => k _ (y h)⟩) z) q⟩
def XT.val (a : XE) : XT := ⟨fun ρ Q => a.f ρ fun x => ∃ p, x = .bl p ∧ Q p, fun k q => a.m (fun _ ⟨p, e, z⟩ => ⟨p, e, k _ z⟩) q⟩
def XT.and (a b : XT) : XT := ⟨fun ρ Q => a.f ρ fun x => (x = true → b.f ρ Q) ∧ (x = false → Q false), fun k q => a.m (fun _ z => ⟨fun h => b.m k (z.1 h), fun h => k _ (z.2 h)⟩) q⟩
def XT.or (a b : XT) : XT := ⟨fun ρ Q => a.f ρ fun x => (x = false → b.f ρ Q) ∧ (x = true → Q true), fun k q => a.m (fun _ z => ⟨fun h => b.m k (z.1 h), fun h => k _ (z.2 h)⟩) q⟩
def XT.not (a : XT) : XT := ⟨fun ρ Q => a.f ρ fun x => Q (!x), fun k q => a.m (fun _ z => k _ z) q⟩
def XT.yes : XT := ⟨fun _ Q => Q true, fun k q => k _ q⟩
def XP.no : XP := ⟨fun _ Q => Q none, fun k q => k _ q⟩
def XP.at (a : XE) : XP := ⟨fun ρ Q => a.f ρ fun x => ∃ i, x = .int i ∧ Q (some i), fun k q => a.m (fun _ ⟨i, e, z⟩ => ⟨i, e, k _ z⟩) q⟩
section
variable {K : PySem.W.Frag} {c : Cl} {te ta tb tc : TE} {tr : TA} {t u : TT} {r : R2} {e a b d : XE} {ar : XA}
theorem sq_of {Q : W → Prop} {w : W} {v : V} {h : Hp} (q : Q w) (z : (w.p K c).p v h) : (SQ K c Q).p v h := ⟨w, q, z⟩
theorem ev_var {i : Nat} : Ev K c (tVar i) (.var i) := fun ρ Q ⟨w, e, q⟩ => t_weak (t_var (G_get e)) fun v h z => ⟨w, q, z⟩
theorem ev_int {i : Int} : Ev K c (tC (.int i)) (.lit (.int i)) := fun ρ Q q => t_weak t_int fun v h z => ⟨_, q, z⟩
theorem ev_bl {b : Bool} : Ev K c (tC (.bl b)) (.lit (.bl b)) := fun ρ Q q => t_weak t_bl fun v h z => ⟨_, q, z⟩
theorem ev_non : Ev K c (tC .non) (.lit .non) := fun ρ Q q => t_weak t_non fun v h z => ⟨_, q, z⟩
theorem ev_str {s : Str} : Ev K c (tC (.str s)) (.lit (.str s)) := fun ρ Q q => t_weak t_str fun v h z => ⟨_, q, z⟩
theorem ev_op {o : XO} (ha : Ev K c ta a) (hb : Ev K c tb b) (ho : EO K c r o) : Ev K c (tOp r ta tb) (.op o a b) := fun ρ Q q σ h H n e R k =>
  ha ρ _ q σ h H n e _ fun v h1 H1 s1 ⟨x, qx, px⟩ => hb ρ _ qx σ h1 H1 (n.mono s1.s) s1.i _ fun y' h2 H2 s2 ⟨y, qy, py⟩ =>
    ho x y Q qy v y' h2 H2 ((x.p K c).mono s2.s px) py s2.i R fun z h3 H3 s3 q3 => k z h3 H3 ((s1.trans s2).trans s3) q3
theorem ev_un {r : V → Hp → VK → Prop} {o : XU} (ha : Ev K c ta a) (ho : EU K c r o) : Ev K c (tUn r ta) (.un o a) := fun ρ Q q σ h H n e R k =>
  ha ρ _ q σ h H n e _ fun v h1 H1 s1 ⟨x, qx, px⟩ => ho x Q qx v h1 H1 px s1.i R fun z h3 H3 s3 q3 => k z h3 H3 (s1.trans s3) q3
theorem ea_nil : EA K c tNil .nil := fun ρ Q q σ h H n e R k => k [] [] h H q (Stp.refl e) .nil
theorem ea_cons (ha : Ev K c ta a) (hr : EA K c tr ar) : EA K c (tCons ta tr) (.cons a ar) := fun ρ Q q σ h H n e R k =>
  ha ρ _ q σ h H n e _ fun v h1 H1 s1 ⟨x, qx, px⟩ => hr ρ _ qx σ h1 H1 (n.mono s1.s) s1.i _ fun ws vs h2 H2 qw s2 p2 => k (x :: ws) (v :: vs) h2 H2 qw (s1.trans s2) (.cons ((x.p K c).mono s2.s px) p2)
theorem ev_fn {r : List V → Hp → VK → Prop} {o : XN} (ha : EA K c tr ar) (ho : EN K c r o) : Ev K c (tCB r tr) (.fn o ar) := fun ρ Q q σ h H n e R k =>
  ha ρ _ q σ h H n e _ fun ws vs h1 H1 qw s1 p1 => ho ws Q qw vs h1 H1 p1 s1.i R fun z h3 H3 s3 q3 => k z h3 H3 (s1.trans s3) q3
theorem ev_call {F : XF} (ha : EA K c tr ar) : Ev K c (tF (F.sp K c) tr) (.call F ar) := fun ρ Q q σ h H n e R k =>
  ha ρ _ q σ h H n e _ fun ws vs h1 H1 ⟨x, ex, px, kx⟩ s1 p1 => ⟨x, h1, s1.i, by subst ex; exact p1, px, fun v h2 H2 s2 ⟨w, z, pz⟩ => k v h2 H2 (s1.trans s2) ⟨w, kx w z, pz⟩⟩
theorem ev_ite {x : XT} (hx : ET K c t x) (ha : Ev K c ta a) (hb : Ev K c tb b) : Ev K c (tIf t ta tb) (.ite x a b) := fun ρ Q q =>
  t_if (hx ρ _ q) (fun z => ha ρ Q (z.1 rfl)) (fun z => hb ρ Q (z.2 rfl))
theorem p_bl {v : V} {h : Hp} {x : Bool} (q : (W.p K c (.bl x)).p v h) : v = .bl x := dp_bl q
theorem p_int {v : V} {h : Hp} {x : Int} (q : (W.p K c (.int x)).p v h) : v = .int x := dp_int q
theorem ev_and (ha : Ev K c ta a) (hb : Ev K c tb b) : Ev K c (tAndV ta tb) (.andV a b) := fun ρ Q q σ h H n e R k =>
  ha ρ _ q σ h H n e _ fun v h1 H1 s1 ⟨x, ⟨p, ex, y, z⟩, px⟩ => ⟨p, by subst ex; exact p_bl px, by
    cases p with
    | true => exact hb ρ Q (y rfl) σ h1 H1 (n.mono s1.s) s1.i R fun w h2 H2 s2 q2 => k w h2 H2 (s1.trans s2) q2
    | false => exact k _ h1 H1 s1 ⟨_, z rfl, Dq.bl false⟩⟩
theorem ev_not (ha : Ev K c ta a) : Ev K c (tNotV ta) (.notV a) := fun ρ Q q σ h H n e R k =>
  ha ρ _ q σ h H n e _ fun v h1 H1 s1 ⟨x, ⟨p, ex, y⟩, px⟩ => ⟨p, by subst ex; exact p_bl px, k _ h1 H1 s1 ⟨_, y, Dq.bl _⟩⟩
theorem ev_lst (ha : EA K c tr ar) : Ev K c (tLst tr) (.lst ar) := fun ρ Q q σ h H n e R k =>
  ha ρ _ q σ h H n e _ fun ws vs h1 H1 ⟨hz, qw⟩ s1 p1 => ⟨by rw [p1.len, ps_len]; exact Evl.sz_of hz, fun p np => k _ (upd h1 p (.lst vs)) _ (s1.trans (Stp.new s1.i np)) ⟨_, qw, p, vs, rfl, upd_same, p1.mono (Stp.new (o := .lst vs) s1.i np).s⟩⟩
theorem ev_tup (ha : EA K c tr ar) : Ev K c (tTup tr) (.tup ar) := fun ρ Q q σ h H n e R k =>
  ha ρ _ q σ h H n e _ fun ws vs h1 H1 ⟨hz, qw⟩ s1 p1 => ⟨by rw [p1.len, ps_len]; exact Evl.sz_of hz, fun p np => k _ (upd h1 p (.tup vs)) _ (s1.trans (Stp.new s1.i np)) ⟨_, qw, p, vs, rfl, .inl (.inl upd_same), p1.mono (Stp.new (o := .tup vs) s1.i np).s⟩⟩
theorem ev_chain {g g' : Int → Int → Bool} (ha : Ev K c ta a) (hb : Ev K c tb b) (hd : Ev K c tc d) : Ev K c (tChain (rI0 fun i j => .bl (g i j)) (rI0 fun i j => .bl (g' i j)) ta tb tc) (.chain g g' a b d) := fun ρ Q q σ h H n e R k =>
  ha ρ _ q σ h H n e _ fun v h1 H1 s1 ⟨x, qx, px⟩ => hb ρ _ qx σ h1 H1 (n.mono s1.s) s1.i _ fun y' h2 H2 s2 ⟨y, qy, py⟩ => by
    obtain ⟨i, j, rfl, rfl, z1, z2⟩ := qy
    refine ⟨i, j, p_int px, p_int py, g i j, rfl, ?_⟩
    cases hg : g i j with
    | true => exact hd ρ _ (z1 hg) σ h2 H2 (n.mono (s1.trans s2).s) s2.i _ fun z h3 H3 s3 ⟨w, ⟨l, el, ql⟩, pw⟩ => ⟨j, l, p_int py, by subst el; exact p_int pw, k _ h3 H3 ((s1.trans s2).trans s3) ⟨_, ql, Dq.bl _⟩⟩
    | false => exact k _ h2 H2 (s1.trans s2) ⟨_, z2 hg, Dq.bl _⟩
theorem et_b (ha : Ev K c ta a) : ET K c (tB ta) (.val a) := fun ρ Q q σ h H n e R k =>
  ha ρ _ q σ h H n e _ fun v h1 H1 s1 ⟨x, ⟨p, ex, y⟩, px⟩ => ⟨p, by subst ex; exact p_bl px, k p h1 H1 s1 y⟩
theorem et_test (ha : Ev K c ta a) : ET K c (tTest ta) (.val a) := fun ρ Q q σ h H n e R k =>
  ha ρ _ q σ h H n e _ fun v h1 H1 s1 ⟨x, ⟨p, ex, y⟩, px⟩ => ⟨p, by subst ex; exact p_bl px, k p h1 H1 s1 y⟩
theorem et_and {x y : XT} (hx : ET K c t x) (hy : ET K c u y) : ET K c (tAnd t u) (.and x y) := fun ρ Q q σ h H n e R k =>
  hx ρ _ q σ h H n e _ fun p h1 H1 s1 z => by
    cases p with
    | true => exact hy ρ Q (z.1 rfl) σ h1 H1 (n.mono s1.s) s1.i R fun w h2 H2 s2 q2 => k w h2 H2 (s1.trans s2) q2
    | false => exact k false h1 H1 s1 (z.2 rfl)
theorem et_or {x y : XT} (hx : ET K c t x) (hy : ET K c u y) : ET K c (tOr t u) (.or x y) := fun ρ Q q σ h H n e R k =>
  hx ρ _ q σ h H n e _ fun p h1 H1 s1 z => by
    cases p with
    | false => exact hy ρ Q (z.1 rfl) σ h1 H1 (n.mono s1.s) s1.i R fun w h2 H2 s2 q2 => k w h2 H2 (s1.trans s2) q2
    | true => exact k true h1 H1 s1 (z.2 rfl)
theorem et_not {x : XT} (hx : ET K c t x) : ET K c (tNot t) (.not x) := fun ρ Q q σ h H n e R k =>
  hx ρ _ q σ h H n e _ fun p h1 H1 s1 z => k _ h1 H1 s1 z
theorem et_yes : ET K c tYes .yes := fun ρ Q q σ h H n e R k => k true h H (Stp.refl e) q
theorem ep_no : EP' K c tNoPart .no := fun ρ Q q σ h H n e R k => k none h H q (Stp.refl e)
theorem ep_at (ha : Ev K c ta a) : EP' K c (tPart ta) (.at a) := fun ρ Q q σ h H n e R k =>
  ha ρ _ q σ h H n e _ fun v h1 H1 s1 ⟨x, ⟨i, ex, y⟩, px⟩ => ⟨i, by subst ex; exact p_int px, k _ h1 H1 y s1⟩
end
end Z

namespace Z
open PySem L2
/-! ### operators on plain values -/
noncomputable instance : DecidableEq W := fun a b => Classical.propDecidable (a = b)
/-- numbers, texts, None in lists and tuples less than n deep -/
def Pl : Nat → W → Prop
  | 0, _ => False
  | n + 1, .int _ => True
  | n + 1, .str s => PyData.strOk s = true
  | n + 1, .non => True
  | n + 1, .tup xs => ∀ x ∈ xs, Pl n x
  | n + 1, .lst xs => ∀ x ∈ xs, Pl n x
  | n + 1, _ => False
mutual
def W.dat : W → PyData
  | .non => .none
  | .bl b => .bool b
  | .int i => .int i
  | .str s => .str s
  | .tup xs => .tuple (W.dats xs)
  | .lst xs => .list (W.dats xs)
  | .rig _ => .none
  | .arm _ => .none
  | .mem _ => .none
  | .src => .none
  | .scr _ => .none
  | .dct _ => .none
  | .ty _ => .none
  | .cls _ => .none
  | .ob _ => .none
  | .adr _ => .none
  | .exc _ _ => .none
  | .ecl _ => .none
  | .pr _ => .none
  | .exv _ _ _ _ => .none
def W.dats : List W → List PyData
  | [] => []
  | w :: ws => W.dat w :: W.dats ws
end
theorem pl_dat {K : PySem.W.Frag} {c : Cl} : ∀ (n : Nat) (w : W), Pl n w → (∀ v h, (w.p K c).p v h → Dq K h v w.dat) ∧ w.dat.canLay0 = true ∧ w.dat.depth ≤ n
  | 0, w, h => h.elim
  | n + 1, w, h => by
    have go : ∀ xs : List W, (∀ x ∈ xs, Pl n x) → (∀ vs h, Vs (W.ps K c xs) vs h → DqAll K h vs (W.dats xs)) ∧ PyData.canLayAll0 (W.dats xs) = true ∧ PyData.depthAll (W.dats xs) ≤ n := by
      intro xs
      induction xs with
      | nil => exact fun _ => ⟨fun vs h q => by cases q; exact .nil, rfl, Nat.zero_le _⟩
      | cons x xs ih =>
        intro hx
        obtain ⟨a1, a2, a3⟩ := pl_dat n x (hx x List.mem_cons_self)
        obtain ⟨b1, b2, b3⟩ := ih fun y hy => hx y (List.mem_cons_of_mem _ hy)
        refine ⟨fun vs h q => ?_, ?_, ?_⟩
        · rw [W.ps] at q
          cases q with
          | cons q1 q2 => exact .cons (a1 _ _ q1) (b1 _ _ q2)
        · show (x.dat.canLay0 && PyData.canLayAll0 (W.dats xs)) = true
          rw [a2, b2]; rfl
        · show max x.dat.depth (PyData.depthAll (W.dats xs)) ≤ n
          omega
    cases w with
    | non => exact ⟨fun v h q => q, rfl, Nat.zero_le _⟩
    | int i => exact ⟨fun v h q => q, rfl, Nat.zero_le _⟩
    | str s => exact ⟨fun v h q => q, h, Nat.zero_le _⟩
    | tup xs =>
      obtain ⟨b1, b2, b3⟩ := go xs h
      refine ⟨fun v h q => ?_, b2, Nat.succ_le_succ b3⟩
      obtain ⟨a, vs, rfl, s, z⟩ := (show (U K (W.ps K c xs)).p v h from q)
      exact .tup s (b1 _ _ z)
    | lst xs =>
      obtain ⟨b1, b2, b3⟩ := go xs h
      refine ⟨fun v h q => ?_, b2, Nat.succ_le_succ b3⟩
      obtain ⟨a, vs, rfl, s, z⟩ := (show (L K (W.ps K c xs)).p v h from q)
      exact .lst s (b1 _ _ z)
    | bl b => exact h.elim
    | rig _ => exact h.elim
    | exc _ _ => exact h.elim
    | ecl _ => exact h.elim
    | pr _ => exact h.elim
    | exv _ _ _ _ => exact h.elim
    | arm _ => exact h.elim
    | mem _ => exact h.elim
    | src => exact h.elim
    | scr _ => exact h.elim
    | dct _ => exact h.elim
    | ty _ => exact h.elim
    | cls _ => exact h.elim
    | ob _ => exact h.elim
    | adr _ => exact h.elim
theorem pl_shape {K : PySem.W.Frag} {c : Cl} {n : Nat} {w : W} (h : Pl n w) (hn : n ≤ 64) : SeqAt.shaped w.dat = true := by
  obtain ⟨_, a, b⟩ := pl_dat (K := K) (c := c) n w h
  show (w.dat.canLay0 && decide (w.dat.depth ≤ 64)) = true
  rw [a, decide_eq_true (by omega : w.dat.depth ≤ 64)]; rfl
theorem pl_eqv : ∀ (n : Nat) (x y : W), Pl n x → Pl n y → PyData.eqv x.dat y.dat = decide (x = y)
  | 0, x, y, h, _ => h.elim
  | n + 1, x, y, hx, hy => by
    have go : ∀ xs ys : List W, (∀ x ∈ xs, Pl n x) → (∀ x ∈ ys, Pl n x) → PyData.eqvAll (W.dats xs) (W.dats ys) = decide (xs = ys) := by
      intro xs
      induction xs with
      | nil =>
        intro ys _ _
        cases ys with
        | nil => show true = _; simp
        | cons y ys => show false = _; simp
      | cons x xs ih =>
        intro ys hx hy
        cases ys with
        | nil => show false = _; simp
        | cons y ys =>
          show (PyData.eqv x.dat y.dat && PyData.eqvAll (W.dats xs) (W.dats ys)) = _
          rw [pl_eqv n x y (hx x List.mem_cons_self) (hy y List.mem_cons_self), ih ys (fun z hz => hx z (List.mem_cons_of_mem _ hz)) (fun z hz => hy z (List.mem_cons_of_mem _ hz))]
          simp
    cases x <;> first | exact hx.elim | (cases y <;> first | exact hy.elim | (show (false : Bool) = _; simp; done) | (show (true : Bool) = _; simp; done) | skip)
    · rename_i i j; show (i == j) = _; by_cases h : i = j <;> simp [h]
    · rename_i i j; show (i == j) = _; by_cases h : i = j <;> simp [h]
    · rename_i i j; show PyData.eqvAll _ _ = _; rw [go i j hx hy]; simp
    · rename_i i j; show PyData.eqvAll _ _ = _; rw [go i j hx hy]; simp
end Z

namespace Z
open PySem L2
section
variable {K : PySem.W.Frag} {c : Cl} {te ta tb tc : TE} {tr : TA} {t u : TT} {r r' : R2} {e a b d : XE} {ar : XA}
/-! ### two operands -/
def XO.or (o o' : XO) : XO := ⟨fun x y Q => o.f x y Q ∨ o'.f x y Q, fun k q => q.elim (fun z => .inl (o.m k z)) (fun z => .inr (o'.m k z))⟩
theorem eo_or {o o' : XO} (h : EO K c r o) (h' : EO K c r' o') : EO K c (fun x y H Q => r x y H Q ∨ r' x y H Q) (o.or o') := fun x y Q q => q.elim (fun z => opp_inl (h x y Q z)) (fun z => opp_inr (h' x y Q z))
def XO.iic (C : Int → Int → Prop) (g : Int → Int → W) : XO := ⟨fun x y Q => ∃ i j, x = .int i ∧ y = .int j ∧ C i j ∧ Q (g i j), fun k ⟨i, j, a, b, d, q⟩ => ⟨i, j, a, b, d, k _ q⟩⟩
def XO.ii (g : Int → Int → W) : XO := ⟨fun x y Q => ∃ i j, x = .int i ∧ y = .int j ∧ Q (g i j), fun k ⟨i, j, a, b, q⟩ => ⟨i, j, a, b, k _ q⟩⟩
theorem opp_sq {A C P : Pr} {Q : W → Prop} {w : W} (q : Q w) (h : OpP r A C P) (k : ∀ v h, P.p v h → (w.p K c).p v h) : OpP r A C (SQ K c Q) := opp_to h fun v h z => ⟨w, q, k v h z⟩
theorem eo_I {g : Int → Int → Int} : EO K c (rI0 fun i j => .int (g i j)) (.ii fun i j => .int (g i j)) := fun x y Q ⟨i, j, ex, ey, q⟩ => by
  subst ex ey; exact opp_sq q opp_I fun v h z => z
theorem eo_B {g : Int → Int → Bool} : EO K c (rI0 fun i j => .bl (g i j)) (.ii fun i j => .bl (g i j)) := fun x y Q ⟨i, j, ex, ey, q⟩ => by
  subst ex ey; exact opp_sq q opp_B fun v h z => z
theorem eo_IC {C : Int → Int → Prop} {g : Int → Int → Int} : EO K c (rI C fun i j => .int (g i j)) (.iic C fun i j => .int (g i j)) := fun x y Q ⟨i, j, ex, ey, hc, q⟩ => by
  subst ex ey; exact opp_sq q (opp_IC hc) fun v h z => z
def XO.catL : XO := ⟨fun x y Q => ∃ xs ys, x = .lst xs ∧ y = .lst ys ∧ xs.length + ys.length ≤ 100000 ∧ Q (.lst (xs ++ ys)), fun k ⟨i, j, a, b, d, q⟩ => ⟨i, j, a, b, d, k _ q⟩⟩
def XO.catT : XO := ⟨fun x y Q => ∃ xs ys, x = .tup xs ∧ y = .tup ys ∧ xs.length + ys.length ≤ 100000 ∧ Q (.tup (xs ++ ys)), fun k ⟨i, j, a, b, d, q⟩ => ⟨i, j, a, b, d, k _ q⟩⟩
theorem vs_app {Ps Rs : List Pr} {vs us : List V} {h : Hp} (a : Vs Ps vs h) (b : Vs Rs us h) : Vs (Ps ++ Rs) (vs ++ us) h := by
  induction a with
  | nil => exact b
  | cons q _ ih => exact .cons q (ih b)
theorem eo_catL : EO K c rCat .catL := fun x y Q ⟨xs, ys, ex, ey, hz, q⟩ u v h H a d e R k => by
  subst ex ey
  obtain ⟨p, us, rfl, hp, zp⟩ := (show (L K (W.ps K c xs)).p u h from a)
  obtain ⟨l, vs, rfl, hl, zl⟩ := (show (L K (W.ps K c ys)).p v h from d)
  refine ⟨p, l, us, vs, rfl, rfl, e _ _ hp, e _ _ hl, by rw [zp.len, zl.len, ps_len, ps_len]; exact Evl.sz_of hz, fun n nn => k _ (upd h n (.lst (us ++ vs))) _ (Stp.new e nn) ⟨_, q, n, _, rfl, upd_same, ?_⟩⟩
  have st := (Stp.new (o := .lst (us ++ vs)) e nn).s
  rw [ps_app]
  exact vs_app (zp.mono st) (zl.mono st)
theorem eo_catT : EO K c (rCatA K) .catT := fun x y Q ⟨xs, ys, ex, ey, hz, q⟩ u v h H a d e R k => by
  subst ex ey
  obtain ⟨p, us, rfl, hp, zp⟩ := (show (U K (W.ps K c xs)).p u h from a)
  obtain ⟨l, vs, rfl, hl, zl⟩ := (show (U K (W.ps K c ys)).p v h from d)
  refine ⟨p, l, us, vs, rfl, rfl, sqT_ex e hp, sqT_ex e hl, by rw [zp.len, zl.len, ps_len, ps_len]; exact Evl.sz_of hz, fun z => k _ h H (Stp.refl e) ⟨_, q, ?_⟩, fun _ z => k _ h H (Stp.refl e) ⟨_, q, ?_⟩, fun _ _ n nn => k _ (upd h n (.tup (us ++ vs))) _ (Stp.new e nn) ⟨_, q, n, _, rfl, .inl (.inl upd_same), ?_⟩⟩
  · subst z
    cases xs with
    | nil => exact ⟨l, vs, rfl, hl, zl⟩
    | cons x xs => rw [W.ps] at zp; cases zp
  · subst z
    cases ys with
    | nil => rw [List.append_nil]; exact ⟨p, us, rfl, hp, zp⟩
    | cons x xs => rw [W.ps] at zl; cases zl
  · have st := (Stp.new (o := .tup (us ++ vs)) e nn).s
    rw [ps_app]
    exact vs_app (zp.mono st) (zl.mono st)
/-- xs[i] -/
def XO.ixL : XO := ⟨fun x y Q => ∃ xs i w, x = .lst xs ∧ y = .int i ∧ atI xs i = some w ∧ Q w, fun k ⟨i, j, w, a, b, d, q⟩ => ⟨i, j, w, a, b, d, k _ q⟩⟩
def XO.ixT : XO := ⟨fun x y Q => ∃ xs i w, x = .tup xs ∧ y = .int i ∧ atI xs i = some w ∧ Q w, fun k ⟨i, j, w, a, b, d, q⟩ => ⟨i, j, w, a, b, d, k _ q⟩⟩
theorem ps_atI {xs : List W} {i : Int} {w : W} (h : atI xs i = some w) : atI (W.ps K c xs) i = some (w.p K c) := by rw [ps_map]; exact atI_map h
theorem eo_ixL : EO K c (rIxL K) .ixL := fun x y Q ⟨xs, i, w, ex, ey, hw, q⟩ => by
  subst ex ey; exact opp_sq q (opp_ixLP (ps_atI hw)) fun v h z => z
theorem eo_ixT : EO K c (rIxT K) .ixT := fun x y Q ⟨xs, i, w, ex, ey, hw, q⟩ => by
  subst ex ey; exact opp_sq q (opp_ixTP (ps_atI hw)) fun v h z => z
/-- == -/
def XO.eqS (n : Bool) : XO := ⟨fun x y Q => (∃ i j, x = .int i ∧ y = .int j ∧ Q (.bl (n ^^ decide (i = j)))) ∨ (∃ i j, x = .str i ∧ y = .str j ∧ Q (.bl (n ^^ decide (i = j)))) ∨ (∃ i j, x = .bl i ∧ y = .bl j ∧ Q (.bl (n ^^ decide (i = j)))),
  fun k q => by rcases q with ⟨i, j, a, b, q⟩ | ⟨i, j, a, b, q⟩ | ⟨i, j, a, b, q⟩; exact .inl ⟨i, j, a, b, k _ q⟩; exact .inr (.inl ⟨i, j, a, b, k _ q⟩); exact .inr (.inr ⟨i, j, a, b, k _ q⟩)⟩
theorem opp_neS {x y : Str} : OpP rNe (D K (.str x)) (D K (.str y)) (B K (!decide (x = y))) := fun u v h H p q z Q k => by
  rw [dp_str p, dp_str q]
  refine ⟨rfl, ?_⟩
  have e : decide (V.str x = V.str y) = decide (x = y) := by
    by_cases c : x = y
    · subst c; simp
    · rw [decide_eq_false c, decide_eq_false fun w => c (V.str.inj w)]
  rw [e]
  exact k _ h H (Stp.refl z) (.bl _)
theorem eo_eqS : EO K c rEq (.eqS false) := fun x y Q q => by
  rcases q with ⟨i, j, rfl, rfl, q⟩ | ⟨i, j, rfl, rfl, q⟩ | ⟨i, j, rfl, rfl, q⟩
  · exact opp_sq q opp_eqI fun v h z => by show (B K _).p v h; simpa using z
  · exact opp_sq q opp_eqS fun v h z => by show (B K _).p v h; simpa using z
  · exact opp_sq q opp_eqB fun v h z => by show (B K _).p v h; simpa using z
theorem eo_neS : EO K c rNe (.eqS true) := fun x y Q q => by
  rcases q with ⟨i, j, rfl, rfl, q⟩ | ⟨i, j, rfl, rfl, q⟩ | ⟨i, j, rfl, rfl, q⟩
  · exact opp_sq q opp_neI fun v h z => by show (B K _).p v h; simpa using z
  · exact opp_sq q opp_neS fun v h z => by show (B K _).p v h; simpa using z
  · exact opp_sq q opp_neB fun v h z => by show (B K _).p v h; simpa using z
def W.sq : W → Bool | .lst _ => true | .tup _ => true | _ => false
def XO.eqD (n : Bool) : XO := ⟨fun x y Q => (x.sq = true ∧ y.sq = true ∧ Pl 60 x ∧ Pl 60 y ∧ Q (.bl (n ^^ decide (x = y)))) ∨ ∃ al bl, x = .arm al ∧ y = .arm bl ∧ Q (.bl (n ^^ decide (al = bl))),
  fun k q => by rcases q with ⟨i, j, a, b, q⟩ | ⟨i, j, a, b, q⟩; exact .inl ⟨i, j, a, b, k _ q⟩; exact .inr ⟨i, j, a, b, k _ q⟩⟩
theorem opp_dp {A C A' C' P : Pr} (h : OpP r A C P) (ha : ∀ v h, A'.p v h → A.p v h) (hc : ∀ v h, C'.p v h → C.p v h) : OpP r A' C' P := fun x y h0 H a d e Q k => h x y h0 H (ha _ _ a) (hc _ _ d) e Q k
abbrev arW (al : List (Int × Int)) : List W := al.map fun p => .tup [.int p.1, .int p.2]
theorem pl_arW (al : List (Int × Int)) : Pl 60 (.tup (arW al)) := by
  intro x hx
  obtain ⟨p, _, rfl⟩ := List.mem_map.mp hx
  intro y hy
  rcases List.mem_cons.mp hy with rfl | hy
  · trivial
  · rw [List.mem_singleton.mp hy]; trivial
theorem dat_arW (al : List (Int × Int)) : (W.tup (arW al)).dat = .tuple (prI al) := by
  have go : ∀ al : List (Int × Int), W.dats (arW al) = prI al := by
    intro al
    induction al with
    | nil => rfl
    | cons p al ih => show W.dat _ :: W.dats _ = _ :: _; rw [show W.dats (List.map (fun p : Int × Int => W.tup [.int p.1, .int p.2]) al) = prI al from ih]; rfl
  show PyData.tuple _ = _
  rw [go]
theorem arW_inj {al bl : List (Int × Int)} : (W.tup (arW al) = W.tup (arW bl)) ↔ al = bl := by
  refine ⟨fun h => ?_, fun h => by rw [h]⟩
  have h' : arW al = arW bl := W.tup.inj h
  exact (List.map_inj_right (fun p q e => by
    have z := W.tup.inj e
    simp at z
    exact Prod.ext z.1 z.2)).mp h'
theorem arm_eqv (al bl : List (Int × Int)) : PyData.eqv (.tuple (prI al)) (.tuple (prI bl)) = decide (al = bl) := by
  rw [← dat_arW, ← dat_arW, pl_eqv 60 _ _ (pl_arW al) (pl_arW bl)]
  by_cases h : al = bl
  · rw [decide_eq_true (arW_inj.mpr h), decide_eq_true h]
  · rw [decide_eq_false (fun z => h (arW_inj.mp z)), decide_eq_false h]
theorem eo_eqD : EO K c (rEqD K) (.eqD false) := fun x y Q q => by
  rcases q with ⟨_, _, hx, hy, q⟩ | ⟨al, bl, rfl, rfl, q⟩
  · obtain ⟨dx, _, _⟩ := pl_dat (K := K) (c := c) 60 x hx
    obtain ⟨dy, _, _⟩ := pl_dat (K := K) (c := c) 60 y hy
    refine opp_sq q (opp_dp (opp_eq (pl_shape (K := K) (c := c) hx (by decide)) (pl_shape (K := K) (c := c) hy (by decide))) dx dy) fun v h z => ?_
    rw [pl_eqv 60 x y hx hy] at z
    show (B K _).p v h
    simpa using z
  · have s : ∀ al, SeqAt.shaped (.tuple (prI al)) = true := fun al => by rw [← dat_arW]; exact pl_shape (K := K) (c := c) (pl_arW al) (by decide)
    refine opp_sq q (opp_dp (opp_eq (s al) (s bl)) (fun _ _ z => dpl_D z) (fun _ _ z => dpl_D z)) fun v h z => ?_
    rw [arm_eqv] at z
    show (B K _).p v h
    simpa using z
theorem eo_neD : EO K c (rNeD K) (.eqD true) := fun x y Q q => by
  rcases q with ⟨_, _, hx, hy, q⟩ | ⟨al, bl, rfl, rfl, q⟩
  · obtain ⟨dx, _, _⟩ := pl_dat (K := K) (c := c) 60 x hx
    obtain ⟨dy, _, _⟩ := pl_dat (K := K) (c := c) 60 y hy
    refine opp_sq q (opp_dp (opp_ne (pl_shape (K := K) (c := c) hx (by decide)) (pl_shape (K := K) (c := c) hy (by decide))) dx dy) fun v h z => ?_
    rw [pl_eqv 60 x y hx hy] at z
    show (B K _).p v h
    simpa using z
  · have s : ∀ al, SeqAt.shaped (.tuple (prI al)) = true := fun al => by rw [← dat_arW]; exact pl_shape (K := K) (c := c) (pl_arW al) (by decide)
    refine opp_sq q (opp_dp (opp_ne (s al) (s bl)) (fun _ _ z => dpl_D z) (fun _ _ z => dpl_D z)) fun v h z => ?_
    rw [arm_eqv] at z
    show (B K _).p v h
    simpa using z
/-- is None -/
def W.kn : W → Bool | .ty _ => false | .cls _ => false | .pr _ => false | _ => true
def XO.isN (n : Bool) : XO := ⟨fun x y Q => y = .non ∧ x.kn = true ∧ Q (.bl (n ^^ decide (x = .non))), fun k ⟨a, b, q⟩ => ⟨a, b, k _ q⟩⟩
def XU.neg : XU := ⟨fun x Q => ∃ i, x = .int i ∧ Q (.int (-i)), fun k ⟨i, a, q⟩ => ⟨i, a, k _ q⟩⟩
theorem eu_neg : EU K c (rU fun i => .int (-i)) .neg := fun x Q ⟨i, ex, q⟩ v h H a e R k => by
  subst ex
  exact ⟨i, dp_int a, k _ h H (Stp.refl e) ⟨_, q, Dq.int _⟩⟩
def XU.or (o o' : XU) : XU := ⟨fun x Q => o.f x Q ∨ o'.f x Q, fun k q => q.elim (fun z => .inl (o.m k z)) (fun z => .inr (o'.m k z))⟩
/-! ### own classes -/
def W.is : Bool → W → Prop
  | true, .rig _ => True
  | false, .mem _ => True
  | _, _ => False
theorem is_ob {k : Bool} {w : W} (i : w.is k) {v : V} {h : Hp} (q : (w.p K c).p v h) : ∃ (f : Str) (F : Pr), w.p K c = Ob K (c.at k) f F := by
  cases k <;> cases w <;> first | exact i.elim | exact ⟨_, _, rfl⟩
theorem is_ins {k : Bool} {w : W} (i : w.is k) {v : V} {h : Hp} (q : (w.p K c).p v h) : ∃ o dx fs, v = .ref o ∧ h o = some (.ins (c.at k) dx fs) := by
  obtain ⟨f, F, e⟩ := is_ob (K := K) (c := c) i q
  rw [e] at q
  obtain ⟨o, dx, u, rfl, ho, _⟩ := q
  exact ⟨o, dx, _, rfl, ho⟩
def XO.ownBin (k : Bool) (F : XF) : XO := ⟨fun x y Q => x.is k ∧ y.is k ∧ F.f [x, y] Q, fun k ⟨a, b, q⟩ => ⟨a, b, F.m k q⟩⟩
theorem sp_of {F : XF} {ws : List W} {Q : W → Prop} (q : F.f ws Q) {vs : List V} {h H : Hp} (e : Ex h H) (z : Vs (W.ps K c ws) vs h) {R : VK} (k : ∀ v h' H', Stp h H h' H' → (SQ K c Q).p v h' → R v H') : F.sp K c vs H R E0 := by
  obtain ⟨x, rfl, px, kx⟩ := q
  exact ⟨x, h, e, z, px, fun v h' H' s ⟨w, y, pw⟩ => k v h' H' s ⟨w, kx w y, pw⟩⟩
def XO.ownMul (k : Bool) (F : XF) : XO := ⟨fun x y Q => x.is k ∧ (∃ n, y = .int n) ∧ F.f [x, y] Q, fun k ⟨a, b, q⟩ => ⟨a, b, F.m k q⟩⟩
def XU.ownNeg (k : Bool) (F : XF) : XU := ⟨fun x Q => x.is k ∧ F.f [x] Q, fun k ⟨a, q⟩ => ⟨a, F.m k q⟩⟩
/-- what may stand at the right of an own == : an object of the class, a tuple -/
def W.eqr (k : Bool) : W → Prop
  | .tup xs => Pl 60 (.tup xs)
  | w => w.is k
def XO.ownEq (k : Bool) (F : XF) : XO := ⟨fun x y Q => x.is k ∧ y.eqr k ∧ F.f [x, y] Q, fun k ⟨a, b, q⟩ => ⟨a, b, F.m k q⟩⟩
def XO.ownNe (k : Bool) (F : XF) : XO := ⟨fun x y Q => x.is k ∧ y.eqr k ∧ F.f [x, y] fun w => ∃ b, w = .bl b ∧ Q (.bl (!b)), fun k ⟨a, b, q⟩ => ⟨a, b, F.m (fun w ⟨b, e, z⟩ => ⟨b, e, k _ z⟩) q⟩⟩
/-! ### functions -/
def XN.or (o o' : XN) : XN := ⟨fun x Q => o.f x Q ∨ o'.f x Q, fun k q => q.elim (fun z => .inl (o.m k z)) (fun z => .inr (o'.m k z))⟩
theorem fnp_sq {r : List V → Hp → VK → Prop} {As Bs : List Pr} {P : Pr} {Q : W → Prop} {w : W} (q : Q w) (h : FnP r As P) (ha : ∀ vs h, Vs Bs vs h → Vs As vs h) (k : ∀ v h, P.p v h → (w.p K c).p v h) : FnP r Bs (SQ K c Q) := fun vs h0 H a e R kk => h vs h0 H (ha _ _ a) e R fun v h' H' s z => kk v h' H' s ⟨w, q, k _ _ z⟩
theorem vs1 {P : Pr} {vs : List V} {h : Hp} (q : Vs [P] vs h) : ∃ v, vs = [v] ∧ P.p v h := by
  cases q with
  | cons a z => cases z; exact ⟨_, rfl, a⟩
theorem vs2 {P R : Pr} {vs : List V} {h : Hp} (q : Vs [P, R] vs h) : ∃ v u, vs = [v, u] ∧ P.p v h ∧ R.p u h := by
  cases q with
  | cons a z =>
    cases z with
    | cons b z => cases z; exact ⟨_, _, rfl, a, b⟩
abbrev rLenSeq (K : PySem.W.Frag) : List V → Hp → VK → Prop := fun xs H Q => ∃ p ys, xs = [.ref p] ∧ (SqL K H p ys ∨ SqT K H p ys) ∧ Q (.int ys.length) H
def XN.len : XN := ⟨fun ws Q => (∃ xs, ws = [.lst xs] ∧ Q (.int xs.length)) ∨ (∃ xs, ws = [.tup xs] ∧ Q (.int xs.length)) ∨ (∃ al, ws = [.arm al] ∧ Q (.int al.length)),
  fun k q => by rcases q with ⟨i, a, q⟩ | ⟨i, a, q⟩ | ⟨i, a, q⟩; exact .inl ⟨i, a, k _ q⟩; exact .inr (.inl ⟨i, a, k _ q⟩); exact .inr (.inr ⟨i, a, k _ q⟩)⟩
theorem en_len : EN K c (rLenSeq K) .len := fun ws Q q vs h H a e R k => by
  rcases q with ⟨xs, rfl, q⟩ | ⟨xs, rfl, q⟩ | ⟨al, rfl, q⟩ <;> obtain ⟨v, rfl, pv⟩ := vs1 a
  · obtain ⟨p, us, rfl, hp, z⟩ := (show (L K (W.ps K c xs)).p v h from pv)
    exact ⟨p, us, rfl, .inl (.inl (.inl (e _ _ hp))), k _ h H (Stp.refl e) ⟨_, q, by rw [z.len, ps_len]; exact Dq.int _⟩⟩
  · obtain ⟨p, us, rfl, hp, z⟩ := (show (U K (W.ps K c xs)).p v h from pv)
    exact ⟨p, us, rfl, .inr (sqT_ex e hp), k _ h H (Stp.refl e) ⟨_, q, by rw [z.len, ps_len]; exact Dq.int _⟩⟩
  · obtain ⟨p, us, rfl, hp, z⟩ := dp_tup (dpl_D pv)
    exact ⟨p, us, rfl, .inr (sqT_ex e hp), k _ h H (Stp.refl e) ⟨_, q, by rw [dpa_len z, List.length_map]; exact Dq.int _⟩⟩
def XN.ii (g : Int → Int → W) : XN := ⟨fun ws Q => ∃ i j, ws = [.int i, .int j] ∧ Q (g i j), fun k ⟨i, j, a, q⟩ => ⟨i, j, a, k _ q⟩⟩
def XN.i (g : Int → W) : XN := ⟨fun ws Q => ∃ i, ws = [.int i] ∧ Q (g i), fun k ⟨i, a, q⟩ => ⟨i, a, k _ q⟩⟩
theorem en_min2 : EN K c (fun xs H Q => ∃ i j, xs = [.int i, .int j] ∧ Q (.int (if j < i then j else i)) H) (.ii fun i j => .int (min i j)) := fun ws Q ⟨i, j, e, q⟩ => by subst e; exact fnp_sq q fnp_min2 (fun _ _ z => z) fun v h z => z
theorem en_max2 : EN K c (fun xs H Q => ∃ i j, xs = [.int i, .int j] ∧ Q (.int (if j > i then j else i)) H) (.ii fun i j => .int (max i j)) := fun ws Q ⟨i, j, e, q⟩ => by subst e; exact fnp_sq q fnp_max2 (fun _ _ z => z) fun v h z => z
theorem p_intsT {ns : List Int} {v : V} {h : Hp} (q : (W.p K c (.tup (ns.map .int))).p v h) : (D K (dT ns)).p v h := by
  obtain ⟨a, vs, rfl, s, z⟩ := (show (U K (W.ps K c (ns.map .int))).p v h from q)
  rw [ps_map, List.map_map] at z
  refine Dq.tup s (vs_dpa (K := K) ?_)
  rw [List.map_map]
  exact z
theorem intsT_p {ns : List Int} {v : V} {h : Hp} (q : (D K (dT ns)).p v h) : (W.p K c (.tup (ns.map .int))).p v h := by
  have z := data_t q
  show (U K (W.ps K c (ns.map .int))).p v h
  rw [ps_map, List.map_map]
  rw [List.map_map] at z
  exact z
def XN.sum : XN := ⟨fun ws Q => ∃ ns : List Int, ws = [.lst (ns.map .int)] ∧ Q (.int ns.sum), fun k ⟨i, a, q⟩ => ⟨i, a, k _ q⟩⟩
def XN.minL : XN := ⟨fun ws Q => ∃ ns : List Int, ws = [.lst (ns.map .int)] ∧ ns ≠ [] ∧ ∀ m, m ∈ ns → (∀ y ∈ ns, m ≤ y) → Q (.int m), fun k ⟨i, a, n, q⟩ => ⟨i, a, n, fun m hm hy => k _ (q m hm hy)⟩⟩
def XN.maxL : XN := ⟨fun ws Q => ∃ ns : List Int, ws = [.lst (ns.map .int)] ∧ ns ≠ [] ∧ ∀ m, m ∈ ns → (∀ y ∈ ns, y ≤ m) → Q (.int m), fun k ⟨i, a, n, q⟩ => ⟨i, a, n, fun m hm hy => k _ (q m hm hy)⟩⟩
def XN.maxT : XN := ⟨fun ws Q => ∃ ns : List Int, ws = [.tup (ns.map .int)] ∧ ns ≠ [] ∧ ∀ m, m ∈ ns → (∀ y ∈ ns, y ≤ m) → Q (.int m), fun k ⟨i, a, n, q⟩ => ⟨i, a, n, fun m hm hy => k _ (q m hm hy)⟩⟩
def XN.all : XN := ⟨fun ws Q => ∃ bs : List Bool, ws = [.lst (bs.map .bl)] ∧ Q (.bl (bs.all id)), fun k ⟨i, a, q⟩ => ⟨i, a, k _ q⟩⟩
def XN.int1 : XN := ⟨fun ws Q => (∃ i, ws = [.int i] ∧ Q (.int i)) ∨ ∃ b, ws = [.bl b] ∧ Q (.int (if b = true then 1 else 0)), fun k q => by rcases q with ⟨i, a, q⟩ | ⟨i, a, q⟩; exact .inl ⟨i, a, k _ q⟩; exact .inr ⟨i, a, k _ q⟩⟩
def XN.list : XN := ⟨fun ws Q => (∃ xs, ws = [.lst xs] ∧ Q (.lst xs)) ∨ (∃ xs, ws = [.tup xs] ∧ Q (.lst xs)) ∨ ∃ ns : List Int, ws = [.scr ns] ∧ Q (.lst (ns.map .int)), fun k q => by rcases q with ⟨i, a, q⟩ | ⟨i, a, q⟩ | ⟨i, a, q⟩; exact .inl ⟨i, a, k _ q⟩; exact .inr (.inl ⟨i, a, k _ q⟩); exact .inr (.inr ⟨i, a, k _ q⟩)⟩
abbrev rTupleOf (K : PySem.W.Frag) : List V → Hp → VK → Prop := fun xs H Q => ∃ p ys, xs = [.ref p] ∧ ((SqL K H p ys ∧ ∀ l, H l = none → Q (.ref l) (upd H l (.tup ys))) ∨ (SqT K H p ys ∧ Q (.ref p) H))
def XN.tuple : XN := ⟨fun ws Q => (∃ xs, ws = [.lst xs] ∧ Q (.tup xs)) ∨ (∃ xs, ws = [.tup xs] ∧ Q (.tup xs)), fun k q => by rcases q with ⟨i, a, q⟩ | ⟨i, a, q⟩; exact .inl ⟨i, a, k _ q⟩; exact .inr ⟨i, a, k _ q⟩⟩
theorem en_tuple : EN K c (rTupleOf K) .tuple := fun ws Q q vs h H a e R k => by
  rcases q with ⟨xs, rfl, q⟩ | ⟨xs, rfl, q⟩ <;> obtain ⟨v, rfl, pv⟩ := vs1 a
  · obtain ⟨p, us, rfl, hp, z⟩ := (show (L K (W.ps K c xs)).p v h from pv)
    exact ⟨p, us, rfl, .inl ⟨.inl (.inl (e _ _ hp)), fun l nl => k _ (upd h l (.tup us)) _ (Stp.new e nl) ⟨_, q, l, us, rfl, .inl (.inl upd_same), z.mono (Stp.new (o := .tup us) e nl).s⟩⟩⟩
  · obtain ⟨p, us, rfl, hp, z⟩ := (show (U K (W.ps K c xs)).p v h from pv)
    exact ⟨p, us, rfl, .inr ⟨sqT_ex e hp, k _ h H (Stp.refl e) ⟨_, q, p, us, rfl, hp, z⟩⟩⟩
/-- tuple(list of pairs), plain -/
def XN.tupF : XN := ⟨fun ws Q => ∃ al, ws = [.lst (arW al)] ∧ Q (.arm al), fun k ⟨i, a, q⟩ => ⟨i, a, k _ q⟩⟩
def XN.sortedI : XN := ⟨fun ws Q => ∃ ns : List Int, ws = [.lst (ns.map .int)] ∧ ∀ ys : List Int, ys.Perm ns → ys.Pairwise (· ≤ ·) → Q (.lst (ys.map .int)), fun k ⟨i, a, q⟩ => ⟨i, a, fun y h h' => k _ (q y h h')⟩⟩
def XN.sortedD : XN := ⟨fun ws Q => ∃ al : List (Int × Int), ws = [.dct al] ∧ al.length < 64 ∧ ∀ ys : List Int, ys.Perm (al.map (·.1)) → ys.Pairwise (· ≤ ·) → Q (.lst (ys.map .int)), fun k q => by obtain ⟨i, a, n, q⟩ := q; exact ⟨i, a, n, fun y h h' => k _ (q y h h')⟩⟩
/-! isinstance -/
def W.tyn : W → Option String
  | .non => some "NoneType" | .bl _ => some "bool" | .int _ => some "int" | .str _ => some "str" | .lst _ => some "list" | .tup _ => some "tuple" | .arm _ => some "tuple" | _ => none
theorem ty_of {w : W} {n : String} (h : w.tyn = some n) {v : V} {h0 : Hp} (q : (w.p K c).p v h0) : TyX K h0 v (.type n) := by
  cases w <;> first | (cases h; done) | skip
  · cases h; obtain rfl := dp_non q; exact .base .non
  · cases h; obtain rfl := dp_bl q; exact .base (.bl _)
  · cases h; obtain rfl := dp_int q; exact .base (.int _)
  · cases h; obtain rfl := dp_str q; exact .base (.str _)
  · cases h
    obtain ⟨p, us, rfl, s, z⟩ := (show (U K (W.ps K c _)).p v h0 from q)
    rcases s with (s | ⟨o, s⟩) | ⟨o, its, m, s, c, _⟩
    · exact .base (.tup s)
    · exact .fTuple s
    · exact .kTuple s c
  · cases h
    obtain ⟨p, us, rfl, s, z⟩ := (show (L K (W.ps K c _)).p v h0 from q)
    exact .base (.lst s)
  · cases h; exact tyX_of (dpl_D q) rfl
/-- the class's own isinstance: yes for its objects, no for tuples -/
def W.isT (x t : W) : Option Bool := match t with
  | .ty n => match x.tyn with | some m => L2.kitB m n | none => none
  | .cls true => match x with | .rig _ => some true | .tup _ => some false | .arm _ => some false | _ => none
  | .cls false => match x with | .mem _ => some true | .tup _ => some false | .arm _ => some false | _ => none
  | _ => none
theorem en_isi0 : EN K c (rIsi K) ⟨fun ws Q => ∃ x n r, ws = [x, .ty n] ∧ x.isT (.ty n) = some r ∧ Q (.bl r), fun k ⟨x, t, r, a, e, q⟩ => ⟨x, t, r, a, e, k _ q⟩⟩ := fun ws Q ⟨x, n, r, ew, er, q⟩ vs h H a e R k => by
  subst ew
  obtain ⟨v, u, rfl, pv, pu⟩ := vs2 a
  obtain rfl : u = .ty n := pu
  cases hx : x.tyn with
  | none => unfold W.isT at er; rw [hx] at er; cases er
  | some m =>
    have er' : L2.kitB m n = some r := by unfold W.isT at er; rw [hx] at er; exact er
    exact ⟨_, _, .type m, .type n, r, rfl, .ty n, ty_of hx ((x.p K c).mono e pv), kit_ty er', k _ h H (Stp.refl e) ⟨_, q, Dq.bl r⟩⟩
/-- len of an own object -/
def XN.ownLen (k : Bool) (F : XF) : XN := ⟨fun ws Q => ∃ x, ws = [x] ∧ x.is k ∧ F.f [x] fun w => ∃ n : Nat, w = .int n ∧ n < 100000 ∧ Q (.int n), fun k ⟨x, a, i, q⟩ => ⟨x, a, i, F.m (fun _ ⟨n, e, l, z⟩ => ⟨n, e, l, k _ z⟩) q⟩⟩
end
/-! ### fields, properties, calls of objects, methods -/
section
variable {K : PySem.W.Frag} {c : Cl} {te ta tb tc : TE} {tr : TA} {e a b d : XE} {ar : XA}
/-- self._arms, self._places -/
def XE.fld (k : Bool) (a : XE) : XE := ⟨fun ρ Q => a.f ρ fun w => (∃ al, k = true ∧ w = .rig al ∧ Q (.arm al)) ∨ ∃ ns : List Int, k = false ∧ w = .mem ns ∧ Q (.tup (ns.map .int)), fun k q => a.m (fun w q => by rcases q with ⟨i, h, a, q⟩ | ⟨i, h, a, q⟩; exact .inl ⟨i, h, a, k _ q⟩; exact .inr ⟨i, h, a, k _ q⟩) q⟩
def fldN : Bool → Str | true => "_arms" | false => "_places"
theorem ev_fld {k : Bool} (cl : Cls K (c.at k)) (n : NoAttr K (c.at k) (fldN k)) (ha : Ev K c ta a) : Ev K c (tFld K ta (fldN k)) (.fld k a) := fun ρ Q q σ h H nn ee R kk => ha ρ _ q σ h H nn ee _ fun v h1 H1 s1 ⟨w, qw, pw⟩ => by
  rcases qw with ⟨al, rfl, rfl, q⟩ | ⟨ns, rfl, rfl, q⟩
  · obtain ⟨p, dx, u, rfl, ho, z⟩ := pw
    exact ⟨p, c.R, dx, _, u, rfl, s1.i _ _ ho, cl, n, lookup1, kk u h1 H1 s1 ⟨_, q, z⟩⟩
  · obtain ⟨p, dx, u, rfl, ho, z⟩ := pw
    exact ⟨p, c.C, dx, _, u, rfl, s1.i _ _ ho, cl, n, lookup1, kk u h1 H1 s1 ⟨_, q, intsT_p z⟩⟩
def XE.prop (k : Bool) (F : XF) (a : XE) : XE := ⟨fun ρ Q => a.f ρ fun w => w.is k ∧ F.f [w] Q, fun k q => a.m (fun w ⟨i, z⟩ => ⟨i, F.m k z⟩) q⟩
theorem ev_prop {k : Bool} {F : XF} (ha : Ev K c ta a) : Ev K c (tProp (c.at k) (F.sp K c) [] E0 ta) (.prop k F a) := fun ρ Q q σ h H nn ee R kk => ha ρ _ q σ h H nn ee _ fun v h1 H1 s1 ⟨w, ⟨i, qw⟩, pw⟩ => by
  obtain ⟨o, dx, fs, rfl, ho⟩ := is_ins i pw
  exact ⟨o, dx, fs, rfl, s1.i _ _ ho, sp_of qw s1.i (.cons pw .nil) fun v h2 H2 s2 z => kk v h2 H2 (s1.trans s2) z⟩
def XE.callO (k : Bool) (F : XF) (a : XE) (r : XA) : XE := ⟨fun ρ Q => a.f ρ fun w => w.is k ∧ r.f ρ fun ws => F.f (w :: ws) Q, fun k q => a.m (fun w ⟨i, z⟩ => ⟨i, r.m (fun _ z => F.m k z) z⟩) q⟩
theorem ev_callO {X : Cx} {k : Bool} {F : XF} (ha : Ev K c ta a) (hr : EA K c tr ar) : Ev K c (StX.tCallO X (c.at k) (F.sp K c) E0 ta tr) (.callO k F a ar) := fun ρ Q q σ h H nn ee R kk => ha ρ _ q σ h H nn ee _ fun v h1 H1 s1 ⟨w, ⟨i, qw⟩, pw⟩ => by
  obtain ⟨o, dx, fs, rfl, ho⟩ := is_ins i pw
  refine ⟨o, rfl, hr ρ _ qw σ h1 H1 (nn.mono s1.s) s1.i _ fun ws vs h2 H2 q2 s2 p2 => ⟨.inr ⟨dx, fs, s2.e _ _ (s1.i _ _ ho)⟩, ?_⟩⟩
  exact sp_of q2 s2.i (.cons ((w.p K c).mono s2.s pw) p2) fun v h3 H3 s3 z => kk v h3 H3 ((s1.trans s2).trans s3) z
def XE.mkRig (pre : List (Int × Int) → Prop) (a : XE) : XE := ⟨fun ρ Q => a.f ρ fun w => ∃ al, w = .arm al ∧ pre al ∧ Q (.rig al), fun k q => a.m (fun w ⟨al, e, p, q⟩ => ⟨al, e, p, k _ q⟩) q⟩
def XE.mkMem (pre : List Int → Prop) (a : XE) : XE := ⟨fun ρ Q => a.f ρ fun w => ∃ ns : List Int, w = .tup (ns.map .int) ∧ pre ns ∧ Q (.mem ns), fun k q => a.m (fun w ⟨al, e, p, q⟩ => ⟨al, e, p, k _ q⟩) q⟩
theorem ev_mkRig {preF : Pr → Prop} {pre : List (Int × Int) → Prop} (hp : ∀ al, pre al → preF (DPl K (prI al))) (ha : Ev K c ta a) : Ev K c (StX.tMakeR c.R (spIni K c.R "_arms" preF) E0 (tCons ta tNil)) (.mkRig pre a) := fun ρ Q q => by
  have z : T (ρ.G K c) ta (Pr.some fun al : { al // pre al ∧ Q (.rig al) } => DPl K (prI al.1)) := t_weak (ha ρ _ q) fun v h ⟨w, ⟨al, ew, p, qq⟩, pw⟩ => by subst ew; exact ⟨⟨al, p, qq⟩, pw⟩
  exact t_weak (t_mkObS z fun s => hp s.1 s.2.1) fun v h ⟨al, y⟩ => ⟨.rig al.1, al.2.2, y⟩
theorem ev_mkMem {preF : Pr → Prop} {pre : List Int → Prop} (hp : ∀ ns, pre ns → preF (D K (dT ns))) (ha : Ev K c ta a) : Ev K c (StX.tMakeR c.C (spIni K c.C "_places" preF) E0 (tCons ta tNil)) (.mkMem pre a) := fun ρ Q q => by
  have z : T (ρ.G K c) ta (Pr.some fun ns : { ns : List Int // pre ns ∧ Q (.mem ns) } => D K (dT ns.1)) := t_weak (ha ρ _ q) fun v h ⟨w, ⟨al, ew, p, qq⟩, pw⟩ => by subst ew; exact ⟨⟨al, p, qq⟩, p_intsT pw⟩
  exact t_weak (t_mkObS z fun s => hp s.1 s.2.1) fun v h ⟨al, y⟩ => ⟨.mem al.1, al.2.2, y⟩
/-- the display of a plain tuple -/
def XE.tupF (a : XA) : XE := ⟨fun ρ Q => a.f ρ fun ws => ∃ al, ws = arW al ∧ al.length ≤ 100000 ∧ Q (.arm al), fun k q => a.m (fun w ⟨al, e, p, q⟩ => ⟨al, e, p, k _ q⟩) q⟩
theorem ev_tupF (hr : EA K c tr ar) : Ev K c (tTupF tr) (.tupF ar) := fun ρ Q q σ h H n e R k =>
  hr ρ _ q σ h H n e _ fun ws vs h1 H1 ⟨al, ew, hz, qw⟩ s1 p1 => by
    subst ew
    refine ⟨by rw [p1.len, ps_len, List.length_map]; exact Evl.sz_of hz, fun p o np od => k _ (upd h1 p (.frz o (.tup vs))) _ (s1.trans (Stp.new s1.i np)) ⟨_, qw, p, o, vs, rfl, upd_same, od, ?_⟩⟩
    have st := (Stp.new (o := .frz o (.tup vs)) s1.i np).s
    have z := p1.mono st
    have hx : ∀ x ∈ arW al, Pl 59 x := pl_arW al
    have go : ∀ (al : List (Int × Int)) (vs : List V), (∀ x ∈ arW al, Pl 59 x) → Vs (W.ps K c (arW al)) vs (upd h1 p (.frz o (.tup vs))) → True := fun _ _ _ _ => trivial
    have goal : ∀ (al : List (Int × Int)) (us : List V) (hh : Hp), Vs (W.ps K c (arW al)) us hh → DqAll K hh us (prI al) := by
      intro al
      induction al with
      | nil => intro us hh q; cases q; exact .nil
      | cons x al ih =>
        intro us hh q
        cases q with
        | cons q1 q2 =>
          refine .cons ?_ (ih _ _ q2)
          have y := (pl_dat (K := K) (c := c) 59 (.tup [.int x.1, .int x.2]) (pl_arW [x] _ List.mem_cons_self)).1 _ _ q1
          exact y
    exact goal al vs _ z
/-! ### slices -/
abbrev rSlU (K : PySem.W.Frag) : V → Option Int → Option Int → Hp → VK → Prop := fun x lo hi H Q => rSlL K x lo hi H Q ∨ rSlA K x lo hi H Q
def XE.sl (a : XE) (l u : XP) : XE := ⟨fun ρ Q => a.f ρ fun w => l.f ρ fun i => u.f ρ fun j => (∃ xs, w = .lst xs ∧ Q (.lst (cutD xs i j))) ∨ ∃ xs, w = .tup xs ∧ Q (.tup (cutD xs i j)),
  fun k q => a.m (fun w z => l.m (fun i z => u.m (fun j z => by rcases z with ⟨x, e, q⟩ | ⟨x, e, q⟩; exact .inl ⟨x, e, k _ q⟩; exact .inr ⟨x, e, k _ q⟩) z) z) q⟩
theorem vs_cut {Ps : List Pr} {vs : List V} {h : Hp} (q : Vs Ps vs h) (lo hi : Option Int) : Vs (cutD Ps lo hi) (cutD vs lo hi) h := by
  have dr : ∀ (n : Nat) {Ps : List Pr} {vs : List V}, Vs Ps vs h → Vs (Ps.drop n) (vs.drop n) h := by
    intro n
    induction n with
    | zero => intro Ps vs q; exact q
    | succ n ih =>
      intro Ps vs q
      cases q with
      | nil => exact .nil
      | cons a q => exact ih q
  have tk : ∀ (n : Nat) {Ps : List Pr} {vs : List V}, Vs Ps vs h → Vs (Ps.take n) (vs.take n) h := by
    intro n
    induction n with
    | zero => intro Ps vs q; exact .nil
    | succ n ih =>
      intro Ps vs q
      cases q with
      | nil => exact .nil
      | cons a q => exact .cons a (ih q)
  unfold cutD
  rw [q.len]
  exact tk _ (dr _ q)
theorem ps_cut (xs : List W) (lo hi : Option Int) : W.ps K c (cutD xs lo hi) = cutD (W.ps K c xs) lo hi := by rw [ps_map, ps_map, cutD_map]
theorem ev_sl {tl th : TO} {l u : XP} (ha : Ev K c ta a) (hl : EP' K c tl l) (hu : EP' K c th u) : Ev K c (tSl (rSlU K) ta tl th) (.sl a l u) := fun ρ Q q σ h H nn ee R k =>
  ha ρ _ q σ h H nn ee _ fun v h1 H1 s1 ⟨w, q1, pw⟩ => hl ρ _ q1 σ h1 H1 (nn.mono s1.s) s1.i _ fun i h2 H2 q2 s2 => hu ρ _ q2 σ h2 H2 (nn.mono (s1.trans s2).s) s2.i _ fun j h3 H3 q3 s3 => by
    have s := (s1.trans s2).trans s3
    have pw3 := (w.p K c).mono (s2.trans s3).s pw
    rcases q3 with ⟨xs, rfl, q⟩ | ⟨xs, rfl, q⟩
    · obtain ⟨p, us, rfl, hp, z⟩ := (show (L K (W.ps K c xs)).p v h3 from pw3)
      refine .inl ⟨p, us, rfl, .inl (.inl (s3.i _ _ hp)), fun p' np => k _ (upd h3 p' (.lst (cutV us i j))) _ (s.trans (Stp.new s3.i np)) ⟨_, q, p', _, rfl, upd_same, ?_⟩⟩
      rw [ps_cut]
      exact vs_cut (z.mono (Stp.new (o := .lst (cutV us i j)) s3.i np).s) i j
    · obtain ⟨p, us, rfl, hp, z⟩ := (show (U K (W.ps K c xs)).p v h3 from pw3)
      refine .inr ⟨p, us, rfl, sqT_ex s3.i hp, fun w => k _ h3 H3 s ⟨_, q, p, us, rfl, hp, ?_⟩, fun _ p' np => k _ (upd h3 p' (.tup (cutV us i j))) _ (s.trans (Stp.new s3.i np)) ⟨_, q, p', _, rfl, .inl (.inl upd_same), ?_⟩⟩
      · have e : cutD xs i j = xs := by
          have hlen : us.length = xs.length := by rw [z.len, ps_len]
          unfold cutD
          rw [← hlen, w.1, w.2, List.drop_zero, Nat.sub_zero, hlen, List.take_length]
        rw [e]; exact z
      · rw [ps_cut]
        exact vs_cut (z.mono (Stp.new (o := .tup (cutV us i j)) s3.i np).s) i j
end
end Z

namespace Z
open PySem L2
/-! ### things gone over -/
section
variable (K : PySem.W.Frag) (c : Cl)
/-- the iterator J gives what ws says, as long as the part h1 stands -/
structure ItOk (J : It) (h1 : Hp) (ws : List W) : Prop where
  go : ∀ (i : Nat) (w : W) (h H : Hp), ws[i]? = some w → Ex h1 h → Ex h H → J.go i H ∧ ∀ v H', J.yld i H v H' → ∃ h', Stp h H h' H' ∧ (w.p K c).p v h'
  stop : ∀ (h H : Hp), Ex h1 h → Ex h H → J.stop ws.length H
structure XI where
  f : Sl → (List W → Prop) → Prop
  m : ∀ {ρ : Sl} {Q Q' : List W → Prop}, (∀ w, Q w → Q' w) → f ρ Q → f ρ Q'
def EI (wi : TI) (it : XI) : Prop := ∀ (ρ : Sl) (Q : List W → Prop), it.f ρ Q → ∀ (σ : St) (h H : Hp), En (ρ.G K c) σ h → Ex h H → ∀ R : It → Hp → Prop, (∀ ws J h1 H1, Q ws → Stp h H h1 H1 → ItOk K c J h1 ws → R J H1) → wi σ H R
end
section
variable {K : PySem.W.Frag} {c : Cl} {te ta tb tc : TE} {tr : TA} {e a b d : XE} {ar : XA} {J : It} {h1 : Hp}
theorem ps_get {ws : List W} {i : Nat} {w : W} (h : ws[i]? = some w) : (W.ps K c ws)[i]? = some (w.p K c) := by rw [ps_map, List.getElem?_map, h]; rfl
theorem it_list {p : Addr} {vs : List V} {ws : List W} (hs : SqL K h1 p vs) (hv : Vs (W.ps K c ws) vs h1) : ItOk K c (Itl K p) h1 ws := by
  have ln : vs.length = ws.length := by rw [hv.len, ps_len]
  refine ⟨fun i w h H hi e1 e2 => ?_, fun h H e1 e2 => ⟨vs, sqL_ex e2 (sqL_ex e1 hs), Nat.le_of_eq ln⟩⟩
  obtain ⟨v, hv1, pv⟩ := vs_get hv (ps_get hi)
  refine ⟨⟨vs, v, sqL_ex e2 (sqL_ex e1 hs), hv1⟩, fun u H' y => ?_⟩
  obtain ⟨rfl, y⟩ := y
  have e := y vs (sqL_ex e2 (sqL_ex e1 hs))
  rw [hv1] at e
  cases e
  exact ⟨h, Stp.refl e2, (w.p K c).mono e1 pv⟩
theorem it_tup {p : Addr} {vs : List V} {ws : List W} (hs : SqT K h1 p vs) (hv : Vs (W.ps K c ws) vs h1) : ItOk K c (Itt K p) h1 ws := by
  have ln : vs.length = ws.length := by rw [hv.len, ps_len]
  refine ⟨fun i w h H hi e1 e2 => ?_, fun h H e1 e2 => ⟨vs, sqT_ex e2 (sqT_ex e1 hs), Nat.le_of_eq ln⟩⟩
  obtain ⟨v, hv1, pv⟩ := vs_get hv (ps_get hi)
  refine ⟨⟨vs, v, sqT_ex e2 (sqT_ex e1 hs), hv1⟩, fun u H' y => ?_⟩
  obtain ⟨rfl, y⟩ := y
  have e := y vs (sqT_ex e2 (sqT_ex e1 hs))
  rw [hv1] at e
  cases e
  exact ⟨h, Stp.refl e2, (w.p K c).mono e1 pv⟩
/-- list, tuple: the items -/
def W.itL : W → Option (List W) | .lst xs => some xs | .scr ns => some (ns.map .int) | _ => none
def W.itT : W → Option (List W) | .tup xs => some xs | .arm al => some (arW al) | _ => none
theorem scr_vs (ns : List Int) (h : Hp) : Vs (W.ps K c (ns.map .int)) (ns.map V.int) h := by
  rw [ps_map, List.map_map]
  induction ns with
  | nil => exact .nil
  | cons n ns ih => exact .cons (Dq.int n) ih
theorem itL_of {w : W} {xs : List W} (hx : w.itL = some xs) {v : V} {h : Hp} (q : (w.p K c).p v h) : ∃ p vs, v = .ref p ∧ SqL K h p vs ∧ Vs (W.ps K c xs) vs h := by
  cases w <;> first | (cases hx; done) | skip
  · cases hx; obtain ⟨p, vs, rfl, s, z⟩ := (show (L K (W.ps K c _)).p v h from q); exact ⟨p, vs, rfl, .inl (.inl s), z⟩
  · cases hx; obtain ⟨p, rfl, s⟩ := q; exact ⟨p, _, rfl, s, scr_vs _ h⟩
theorem itT_of {w : W} {xs : List W} (hx : w.itT = some xs) {v : V} {h : Hp} (q : (w.p K c).p v h) : ∃ p vs, v = .ref p ∧ SqT K h p vs ∧ Vs (W.ps K c xs) vs h := by
  cases w <;> first | (cases hx; done) | skip
  · cases hx; exact q
  · cases hx
    rename_i al
    obtain ⟨p, vs, rfl, s, z⟩ := dp_tup (dpl_D q)
    refine ⟨p, vs, rfl, s, ?_⟩
    have go : ∀ (al : List (Int × Int)) (us : List V), DqAll K h us (prI al) → Vs (W.ps K c (arW al)) us h := by
      intro al
      induction al with
      | nil => intro us q; cases q; exact .nil
      | cons x al ih =>
        intro us q
        cases q with
        | cons q1 q2 =>
          refine .cons ?_ (ih _ q2)
          obtain ⟨l, u1, u2, rfl, s, d1, d2⟩ := dp_pair q1
          exact ⟨l, [u1, u2], rfl, s, .cons d1 (.cons d2 .nil)⟩
    exact go al vs z
/-- over a list, over a tuple, over either -/
def XI.seq (a : XE) : XI := ⟨fun ρ Q => a.f ρ fun w => (∃ xs, w.itL = some xs ∧ Q xs) ∨ ∃ xs, w.itT = some xs ∧ Q xs, fun k q => a.m (fun w z => by rcases z with ⟨x, e, q⟩ | ⟨x, e, q⟩; exact .inl ⟨x, e, k _ q⟩; exact .inr ⟨x, e, k _ q⟩) q⟩
def tSeqI (K : PySem.W.Frag) (ta : TE) : TI := fun σ H R => ta σ H fun x H1 => (∃ a, x = .ref a ∧ (∃ xs, SqL K H1 a xs) ∧ R (Itl K a) H1) ∨ (∃ a, x = .ref a ∧ (∃ xs, SqT K H1 a xs) ∧ R (Itt K a) H1)
theorem pi_seq {X : Cx} {tg l : Expr} {tl : TE} (hl : PE X l tl) : PI X tg l (tSeqI X.K tl) := by
  refine ⟨fun pins s σ H R I h => ?_⟩
  refine thn (hl.run pins s σ H _ I h) fun v s1 ⟨x, H1, I1, r1, q1⟩ => ?_
  rcases q1 with q1 | q1
  · obtain ⟨a, e, ⟨xs, hq⟩, q⟩ := q1
    subst e
    cases r1
    obtain ⟨its, rv, p, hz⟩ := I1.list hq
    refine PySem.wpAny_pyIter_list p.isList ?_
    refine ⟨s1.heap.objs.size, [s1.heap.objs.size], _, _, H1, rfl, I1.kept (t' := s1.toks) fun b o e => Heap.get?_push_of_some _ e, turn_list a _, ⟨_, Heap.get?_push_size _ rfl, rfl, rfl⟩, fun b hb => ?_, q⟩
    have e : b = s1.heap.objs.size := by simpa using hb
    subst e
    exact I1.fpOk (Nat.le_refl _) (I1.hok.fresh (Nat.le_refl _))
  · obtain ⟨a, e, ⟨xs, hq⟩, q⟩ := q1
    subst e
    cases r1
    obtain ⟨its, rv, p, hz⟩ := I1.tuple hq
    refine PySem.wpAny_pyIter_tuple (show s1.heap.IsTuple a its.toArray from p) ?_
    refine ⟨s1.heap.objs.size, [s1.heap.objs.size], _, _, H1, rfl, I1.kept (t' := s1.toks) fun b o e => Heap.get?_push_of_some _ e, turn_tuple a _, ⟨_, Heap.get?_push_size _ rfl, rfl, rfl⟩, fun b hb => ?_, q⟩
    have e : b = s1.heap.objs.size := by simpa using hb
    subst e
    exact I1.fpOk (Nat.le_refl _) (I1.hok.fresh (Nat.le_refl _))
theorem ei_seq (ha : Ev K c ta a) : EI K c (tSeqI K ta) (.seq a) := fun ρ Q q σ h H n e R k => ha ρ _ q σ h H n e _ fun v h1 H1 s1 ⟨w, qw, pw⟩ => by
  rcases qw with ⟨xs, hx, q⟩ | ⟨xs, hx, q⟩
  · obtain ⟨p, vs, rfl, s, z⟩ := itL_of hx pw
    exact .inl ⟨p, rfl, ⟨vs, sqL_ex s1.i s⟩, k xs _ h1 H1 q s1 (it_list s z)⟩
  · obtain ⟨p, vs, rfl, s, z⟩ := itT_of hx pw
    exact .inr ⟨p, rfl, ⟨vs, sqT_ex s1.i s⟩, k xs _ h1 H1 q s1 (it_tup s z)⟩
def rgW (lo : Int) (n : Nat) : List W := (List.range n).map fun (k : Nat) => .int (lo + (k : Int))
theorem rgW_get {lo : Int} {n i : Nat} {w : W} (h : (rgW lo n)[i]? = some w) : i < n ∧ w = .int (lo + (i : Int)) := by
  unfold rgW at h
  have hl := (List.getElem?_eq_some_iff.mp h).1
  rw [List.length_map, List.length_range] at hl
  rw [List.getElem?_map, List.getElem?_range hl] at h
  exact ⟨hl, (Option.some.inj h).symm⟩
theorem rgW_len {lo : Int} {n : Nat} : (rgW lo n).length = n := by unfold rgW; rw [List.length_map, List.length_range]
theorem it_range {lo : Int} {n : Nat} : ItOk K c (Itr lo n) h1 (rgW lo n) := by
  refine ⟨fun i w h H hi e1 e2 => ?_, fun h H e1 e2 => ?_⟩
  · obtain ⟨hl, rfl⟩ := rgW_get hi
    refine ⟨hl, fun v H' y => ?_⟩
    obtain ⟨rfl, rfl⟩ := y
    exact ⟨h, Stp.refl e2, Dq.int _⟩
  · rw [rgW_len]; exact Nat.le_refl _
def XI.rng1 (a : XA) : XI := ⟨fun ρ Q => a.f ρ fun ws => ∃ j, ws = [.int j] ∧ (-1000000000 ≤ j ∧ j ≤ 1000000000) ∧ Q (rgW 0 j.toNat), fun k q => a.m (fun w ⟨j, e, z, q⟩ => ⟨j, e, z, k _ q⟩) q⟩
theorem ei_rng1 (hr : EA K c tr ar) : EI K c (iRng1 tr) (.rng1 ar) := fun ρ Q q σ h H n e R k => hr ρ _ q σ h H n e _ fun ws vs h1 H1 ⟨j, ew, ⟨b1, b2⟩, q⟩ s1 p1 => by
  subst ew
  obtain ⟨v, rfl, pv⟩ := vs1 p1
  exact ⟨j, by rw [dp_int pv], by omega, by omega, k _ _ h1 H1 q s1 it_range⟩
def XI.rng2 (a : XA) : XI := ⟨fun ρ Q => a.f ρ fun ws => ∃ i j, ws = [.int i, .int j] ∧ (-1000000000 ≤ i ∧ i ≤ 1000000000 ∧ -1000000000 ≤ j ∧ j ≤ 1000000000) ∧ Q (rgW i (j - i).toNat), fun k q => a.m (fun w ⟨i, j, e, z, q⟩ => ⟨i, j, e, z, k _ q⟩) q⟩
/-- enumerate(list), zip(list, list) -/
def enumW (xs : List W) : List W := xs.zipIdx.map fun p => .tup [.int (p.2 : Int), p.1]
def XI.enum (a : XA) : XI := ⟨fun ρ Q => a.f ρ fun ws => ∃ w xs, ws = [w] ∧ w.itL = some xs ∧ Q (enumW xs), fun k q => a.m (fun w ⟨j, x, e, z, q⟩ => ⟨j, x, e, z, k _ q⟩) q⟩
theorem ei_enum (hr : EA K c tr ar) : EI K c (iEnum K tr) (.enum ar) := fun ρ Q q σ h H n e R k => hr ρ _ q σ h H n e _ fun ws vs h1 H1 ⟨w, xs, ew, hx, q⟩ s1 p1 => by
  subst ew
  obtain ⟨v, rfl, pv⟩ := vs1 p1
  obtain ⟨p, us, rfl, s, z⟩ := itL_of hx pv
  have ln : us.length = xs.length := by rw [z.len, ps_len]
  refine ⟨p, us, rfl, sqL_ex s1.i s, k _ _ h1 H1 q s1 ⟨fun i w h H hi e1 e2 => ?_, fun h H e1 e2 => ?_⟩⟩
  · unfold enumW at hi
    rw [List.getElem?_map] at hi
    cases hz : xs.zipIdx[i]? with
    | none => rw [hz] at hi; cases hi
    | some pr =>
      rw [hz] at hi
      obtain rfl := Option.some.inj hi
      rw [List.getElem?_zipIdx] at hz
      cases hx2 : xs[i]? with
      | none => rw [hx2] at hz; cases hz
      | some x =>
        rw [hx2] at hz
        obtain rfl : (x, 0 + i) = pr := by simpa using hz
        obtain ⟨u, hu, pu⟩ := vs_get z (ps_get hx2)
        have sH := sqL_ex e2 (sqL_ex e1 s)
        refine ⟨⟨us, u, sH, hu⟩, fun v H' y => ?_⟩
        obtain ⟨T, y', rfl, nT, rfl, hy⟩ := y
        have e := hy us sH
        rw [hu] at e
        cases e
        have st := Stp.new (o := .tup [.int (i : Nat), u]) e2 nT
        refine ⟨_, st, T, _, rfl, .inl (.inl upd_same), .cons ?_ (.cons ((x.p K c).mono st.s ((x.p K c).mono e1 pu)) .nil)⟩
        show (I K (((0 + i : Nat)) : Int)).p (.int (i : Nat)) _
        rw [Nat.zero_add]
        exact Dq.int _
  · refine ⟨us, sqL_ex e2 (sqL_ex e1 s), ?_⟩
    unfold enumW
    rw [List.length_map, List.length_zipIdx, ln]
    exact Nat.le_refl _
def zipW (xs ys : List W) : List W := (xs.zip ys).map fun p => .tup [p.1, p.2]
def XI.zip (a : XA) : XI := ⟨fun ρ Q => a.f ρ fun ws => ∃ w u xs ys, ws = [w, u] ∧ w.itL = some xs ∧ u.itL = some ys ∧ Q (zipW xs ys), fun k q => a.m (fun w ⟨j, x, e, z, y, a, b, q⟩ => ⟨j, x, e, z, y, a, b, k _ q⟩) q⟩
theorem ei_zip (hr : EA K c tr ar) : EI K c (iZip K tr) (.zip ar) := fun ρ Q q σ h H n e R k => hr ρ _ q σ h H n e _ fun ws vs h1 H1 ⟨w, w2, xs, ys, ew, hx, hy, q⟩ s1 p1 => by
  subst ew
  obtain ⟨v, v2, rfl, pv, pv2⟩ := vs2 p1
  obtain ⟨p, us, rfl, s, z⟩ := itL_of hx pv
  obtain ⟨p2, us2, rfl, s2, z2⟩ := itL_of hy pv2
  have ln : us.length = xs.length := by rw [z.len, ps_len]
  have ln2 : us2.length = ys.length := by rw [z2.len, ps_len]
  refine ⟨p, p2, us, us2, rfl, sqL_ex s1.i s, sqL_ex s1.i s2, k _ _ h1 H1 q s1 ⟨fun i w h H hi e1 e2 => ?_, fun h H e1 e2 => ?_⟩⟩
  · unfold zipW at hi
    rw [List.getElem?_map] at hi
    cases hz : (xs.zip ys)[i]? with
    | none => rw [hz] at hi; cases hi
    | some pr =>
      rw [hz] at hi
      obtain rfl := Option.some.inj hi
      obtain ⟨hx1, hy1⟩ := List.getElem?_zip_eq_some.mp hz
      obtain ⟨u, hu, pu⟩ := vs_get z (ps_get hx1)
      obtain ⟨u2, hu2, pu2⟩ := vs_get z2 (ps_get hy1)
      have sH := sqL_ex e2 (sqL_ex e1 s)
      have sH2 := sqL_ex e2 (sqL_ex e1 s2)
      refine ⟨⟨us, us2, u, u2, sH, sH2, hu, hu2⟩, fun v H' y => ?_⟩
      obtain ⟨T, y1, y2, rfl, nT, rfl, f1, f2⟩ := y
      have e := f1 us sH
      have e' := f2 us2 sH2
      rw [hu] at e
      rw [hu2] at e'
      cases e
      cases e'
      have st := Stp.new (o := .tup [u, u2]) e2 nT
      exact ⟨_, st, T, _, rfl, .inl (.inl upd_same), .cons ((pr.1.p K c).mono st.s ((pr.1.p K c).mono e1 pu)) (.cons ((pr.2.p K c).mono st.s ((pr.2.p K c).mono e1 pu2)) .nil)⟩
  · refine ⟨us, us2, sqL_ex e2 (sqL_ex e1 s), sqL_ex e2 (sqL_ex e1 s2), ?_⟩
    unfold zipW
    rw [List.length_map, List.length_zip, ln, ln2]
    omega
/-! ### targets -/
structure XG where
  f : W → Sl → (Sl → Prop) → Prop
  m : ∀ {w : W} {ρ : Sl} {Q Q' : Sl → Prop}, (∀ r, Q r → Q' r) → f w ρ Q → f w ρ Q'
  vs : List Nat
structure XGs where
  f : List W → Sl → (Sl → Prop) → Prop
  m : ∀ {ws : List W} {ρ : Sl} {Q Q' : Sl → Prop}, (∀ r, Q r → Q' r) → f ws ρ Q → f ws ρ Q'
  vs : List Nat
def XG.name (i : Nat) : XG := ⟨fun w ρ Q => Q (ρ.set i (some w)), fun k q => k _ q, [i]⟩
def XGs.nil : XGs := ⟨fun ws ρ Q => ws = [] ∧ Q ρ, fun k q => ⟨q.1, k _ q.2⟩, []⟩
def XGs.cons (g : XG) (r : XGs) : XGs := ⟨fun ws ρ Q => ∃ x xs, ws = x :: xs ∧ g.f x ρ fun ρ' => r.f xs ρ' Q, fun k ⟨x, xs, e, q⟩ => ⟨x, xs, e, g.m (fun _ z => r.m k z) q⟩, g.vs ++ r.vs⟩
def XG.tup (r : XGs) : XG := ⟨fun w ρ Q => ∃ xs, w = .tup xs ∧ r.f xs ρ Q, fun k ⟨xs, e, q⟩ => ⟨xs, e, r.m k q⟩, r.vs⟩
section
variable (K : PySem.W.Frag) (c : Cl)
def EG (g : TG) (x : XG) : Prop := ∀ (w : W) (v : V) (σ : St) (h H : Hp) (ρ : Sl) (Q : Sl → Prop), x.f w ρ Q → En (ρ.G K c) σ h → Ex h H → (w.p K c).p v h → ∀ R : St → Hp → Prop, (∀ ρ' σ', Q ρ' → En (ρ'.G K c) σ' h → (∀ i, i ∉ x.vs → σ'[i]? = σ[i]?) → σ'.length = σ.length → R σ' H) → g v σ H R
def EGs (g : TGs) (x : XGs) : Prop := ∀ (ws : List W) (us : List V) (σ : St) (h H : Hp) (ρ : Sl) (Q : Sl → Prop), x.f ws ρ Q → En (ρ.G K c) σ h → Ex h H → Vs (W.ps K c ws) us h → ∀ R : St → Hp → Prop, (∀ ρ' σ', Q ρ' → En (ρ'.G K c) σ' h → (∀ i, i ∉ x.vs → σ'[i]? = σ[i]?) → σ'.length = σ.length → R σ' H) → g us σ H R
end
theorem eg_name {i : Nat} : EG K c (gName i) (.name i) := fun w v σ h H ρ Q q n e pv R k => k (ρ.set i (some w)) (σ.set i (some v)) q (by rw [G_set]; exact n.set i pv) (fun j hj => List.getElem?_set_ne fun z => hj (by rw [z]; exact List.mem_cons_self)) (List.length_set ..)
theorem egs_nil : EGs K c gNil .nil := fun ws us σ h H ρ Q ⟨e1, q⟩ n e pv R k => by
  subst e1
  cases pv
  exact ⟨rfl, k ρ σ q n (fun _ _ => rfl) rfl⟩
theorem egs_cons {g : TG} {gs : TGs} {x : XG} {xs : XGs} (h1 : EG K c g x) (h2 : EGs K c gs xs) : EGs K c (gCons g gs) (.cons x xs) := fun ws us σ h H ρ Q ⟨y, ys, e1, q⟩ n e pv R k => by
  subst e1
  cases pv with
  | cons a b =>
    refine ⟨_, _, rfl, h1 y _ σ h H ρ _ q n e a _ fun ρ' σ' q' n' o' l' => h2 ys _ σ' h H ρ' Q q' n' e b R fun ρ2 σ2 q2 n2 o2 l2 => k ρ2 σ2 q2 n2 (fun i hi => ?_) (l2.trans l')⟩
    have hi' : i ∉ x.vs ++ xs.vs := hi
    rw [List.mem_append, not_or] at hi'
    rw [o2 i hi'.2, o' i hi'.1]
theorem eg_tup {gs : TGs} {xs : XGs} {n : Nat} (h : EGs K c gs xs) (hn : ∀ ws ρ Q, xs.f ws ρ Q → ws.length = n) : EG K c (gTup K n gs) (.tup xs) := fun w v σ h0 H ρ Q ⟨ws, e1, q⟩ nn e pv R k => by
  subst e1
  obtain ⟨p, us, rfl, s, z⟩ := (show (U K (W.ps K c ws)).p v h0 from pv)
  exact ⟨p, us, rfl, sqT_ex e s, by rw [z.len, ps_len]; exact hn ws ρ Q q, h ws us σ h0 H ρ Q q nn e z R k⟩
/-! ### comprehensions -/
def wS (ρ : Sl) : List Nat → Sl
  | [] => ρ
  | v :: vs => (wS ρ vs).set v none
theorem G_wS {ρ : Sl} : ∀ vs : List Nat, Sl.G K c (wS ρ vs) = wpΓ (ρ.G K c) vs
  | [] => rfl
  | v :: vs => by
    show Sl.G K c ((wS ρ vs).set v none) = (wpΓ (ρ.G K c) vs).set v none
    rw [G_wipe, G_wS vs]
theorem wipe_len (σ : St) : ∀ vs : List Nat, (wipe σ vs).length = σ.length
  | [] => rfl
  | v :: vs => by show ((wipe σ vs).set v none).length = _; rw [List.length_set, wipe_len σ vs]
theorem wipe_get (σ : St) : ∀ (vs : List Nat) (i : Nat), i < σ.length → (wipe σ vs)[i]? = if i ∈ vs then some none else σ[i]?
  | [], i, h => by rw [if_neg (by simp)]; rfl
  | v :: vs, i, h => by
    show ((wipe σ vs).set v none)[i]? = _
    by_cases e : v = i
    · subst e
      rw [List.getElem?_set_self (by rw [wipe_len]; exact h), if_pos List.mem_cons_self]
    · rw [List.getElem?_set_ne e, wipe_get σ vs i h]
      by_cases m : i ∈ vs
      · rw [if_pos m, if_pos (List.mem_cons_of_mem _ m)]
      · rw [if_neg m, if_neg fun z => (List.mem_cons.mp z).elim (fun y => e y.symm) m]
theorem wipe_back {σ σ' : St} {vs us : List Nat} (hs : ∀ i ∈ us, i ∈ vs) (ho : ∀ i, i ∉ us → σ'[i]? = (wipe σ vs)[i]?) (hl : σ'.length = (wipe σ vs).length) : wipe σ' vs = wipe σ vs := by
  have hl' : σ'.length = σ.length := by rw [hl, wipe_len]
  apply List.ext_getElem?
  intro i
  by_cases hi : i < σ.length
  · rw [wipe_get σ' vs i (by omega), wipe_get σ vs i hi]
    by_cases m : i ∈ vs
    · rw [if_pos m, if_pos m]
    · rw [if_neg m, if_neg m, ho i (fun z => m (hs i z)), wipe_get σ vs i hi, if_neg m]
  · rw [List.getElem?_eq_none (by rw [wipe_len]; omega), List.getElem?_eq_none (by rw [wipe_len]; omega)]
/-- a list is made item by item -/
def CompI (ws : List W) (g : XG) (t : XT) (e : XE) (ρ : Sl) (Q : W → Prop) : Prop := ∃ I : Nat → List W → Prop, I 0 [] ∧
  (∀ (i : Nat) (w : W) (acc : List W), ws[i]? = some w → I i acc → g.f w ρ fun ρ' => t.f ρ' fun b => (b = true → e.f ρ' fun y => I (i + 1) (acc ++ [y])) ∧ (b = false → I (i + 1) acc)) ∧ (∀ acc, I ws.length acc → Q (.lst acc))
def XE.comp (it : XI) (g : XG) (t : XT) (e : XE) (vs : List Nat) : XE := ⟨fun ρ Q => it.f ρ fun ws => ws.length ≤ 50000 ∧ CompI ws g t e (wS ρ vs) Q, fun k q => it.m (fun ws ⟨hz, I, a, b, d⟩ => ⟨hz, I, a, b, fun acc z => k _ (d acc z)⟩) q⟩
/-- the list made so far -/
structure Lx (K : PySem.W.Frag) (c : Cl) (h0 H0 : Hp) (Dl : Addr) (acc : List W) (h H' : Hp) : Prop where
  v : ∃ vs, Vs (W.ps K c acc) vs h ∧ H' Dl = some (.lst vs)
  n : h Dl = none
  st : Stp h0 H0 h (fun a => if a = Dl then none else H' a)
theorem Lx.ex {h0 H0 h H' : Hp} {Dl : Addr} {acc : List W} (x : Lx K c h0 H0 Dl acc h H') : Ex h H' := fun a o e => by
  have z : (if a = Dl then none else H' a) = some o := x.st.i a o e
  by_cases c : a = Dl
  · rw [if_pos c] at z; cases z
  · rw [if_neg c] at z; exact z
theorem Lx.go {h0 H0 h H' h1 H1 : Hp} {Dl : Addr} {acc : List W} (x : Lx K c h0 H0 Dl acc h H') (s : Stp h H' h1 H1) : Lx K c h0 H0 Dl acc h1 H1 := by
  obtain ⟨vs, hv, hl⟩ := x.v
  have n1 := s.f Dl _ hl x.n
  refine ⟨⟨vs, hv.mono s.s, s.e _ _ hl⟩, n1, x.st.e0.hide s.e0 (plo_at (s.e _ _ hl)), fun a o e => s.s a o (x.st.s a o e), fun a o e => ?_, fun a o e n y9 => ?_⟩
  · show (if a = Dl then none else H1 a) = some o
    rw [if_neg (ne_of_none e n1)]
    exact s.i a o e
  · obtain ⟨o', z⟩ := x.st.e0.some e
    have z : (if a = Dl then none else H' a) = some o' := z
    by_cases c : a = Dl
    · rw [if_pos c] at z; cases z
    · rw [if_neg c] at z
      exact s.f0 a o' z (x.st.f0 a o e n (nx_un (nx_back s.e0 (nx_if c y9)))) (nx_if c y9)
theorem comp_at {wi : TI} {g : TG} {tt : TT} {x : XG} {t : XT} {vs : List Nat} {ρ : Sl} {Q : W → Prop} {σ : St} {h H : Hp} {ws : List W} (n : En (ρ.G K c) σ h) (ee : Ex h H)
    (hi : ∀ R : It → Hp → Prop, (∀ J h1 H1, Stp h H h1 H1 → ItOk K c J h1 ws → R J H1) → wi σ H R) (hz : ws.length ≤ 50000) (hcc : CompI ws x t e (wS ρ vs) Q)
    (hg : EG K c g x) (ht : ET K c tt t) (he : Ev K c te e) (hs : ∀ i ∈ x.vs, i ∈ vs) (R : VK) (k : ∀ v h' H', Stp h H h' H' → (SQ K c Q).p v h' → R v H') : tLc wi g tt te vs σ H R := by
  obtain ⟨I, i0, is, id⟩ := hcc
  refine hi _ fun J h1 H1 s1 io => ?_
  intro Dl hD
  have hn1 : h1 Dl = none := by
    cases z : h1 Dl with
    | none => rfl
    | some o => rw [s1.i Dl o z] at hD; cases hD
  have start : Lx K c h1 H1 Dl [] h1 (upd H1 Dl (.lst [])) := by
    refine ⟨⟨[], .nil, upd_same⟩, hn1, ?_⟩
    have z : (fun a => if a = Dl then none else upd H1 Dl (.lst []) a) = H1 := by
      funext a
      by_cases c : a = Dl
      · subst c; rw [if_pos rfl]; exact hD.symm
      · rw [if_neg c, upd_ne c]
    rw [z]
    exact Stp.refl s1.i
  refine ⟨fun i m H' => m = ws.length - i ∧ i ≤ ws.length ∧ ∃ h' acc, I i acc ∧ acc.length ≤ i ∧ Lx K c h1 H1 Dl acc h' H', ⟨ws.length, by simp, Nat.zero_le _, h1, [], i0, Nat.le_refl _, start⟩, ?_⟩
  rintro i m H' ⟨rfl, hi', h', acc, iv, al, lx⟩
  have e01 : Ex h1 h' := lx.st.s
  by_cases hlt : i < ws.length
  · have hw : ws[i]? = some ws[i] := List.getElem?_eq_getElem hlt
    obtain ⟨go, yl⟩ := io.go i _ h' H' hw e01 lx.ex
    refine .inr ⟨go, fun H2 => ∃ h2 acc2, I (i + 1) acc2 ∧ acc2.length ≤ i + 1 ∧ Lx K c h1 H1 Dl acc2 h2 H2, fun H2 p2 => ⟨ws.length - (i + 1), by omega, rfl, hlt, p2⟩, fun v H2 y => ?_⟩
    obtain ⟨h2, s2, pv⟩ := yl v H2 y
    have lx2 := lx.go s2
    have en2 : En ((wS ρ vs).G K c) (wipe σ vs) h2 := by
      rw [G_wS]
      exact ((n.mono s1.s).wp vs).mono fun a o z => s2.s a o (e01 a o z)
    refine hg _ v (wipe σ vs) h2 H2 (wS ρ vs) _ (is i _ acc hw iv) en2 s2.i pv _ fun ρ3 σ3 q3 en3 ho hl3 => ⟨wipe_back hs ho hl3, ?_⟩
    refine ht ρ3 _ q3 σ3 h2 H2 en3 s2.i _ fun bb h3 H3 s3 q4 => ?_
    have lx3 := lx2.go s3
    cases bb with
    | true =>
      show te σ3 H3 _
      refine he ρ3 _ (q4.1 rfl) σ3 h3 H3 (en3.mono s3.s) s3.i _ fun y' h4 H4 s4 ⟨w4, q5, p5⟩ => ?_
      have lx4 := lx3.go s4
      obtain ⟨us, hv, hl⟩ := lx4.v
      refine ⟨us, hl, Evl.sz_lt (by rw [hv.len, ps_len]; omega), h4, acc ++ [w4], q5, by simp; omega, ⟨us ++ [y'], ?_, upd_same⟩, lx4.n, ?_⟩
      · rw [ps_app]
        exact hv.app p5
      · have e : (fun a => if a = Dl then none else upd H4 Dl (.lst (us ++ [y'])) a) = (fun a => if a = Dl then none else H4 a) := by
          funext a
          by_cases c : a = Dl
          · rw [if_pos c, if_pos c]
          · rw [if_neg c, if_neg c, upd_ne c]
        rw [e]
        exact lx4.st
    | false => exact ⟨h3, acc, q4.2 rfl, by omega, lx3⟩
  · have e : i = ws.length := by omega
    subst e
    refine .inl ⟨io.stop h' H' e01 lx.ex, ?_⟩
    obtain ⟨us, hv, hl⟩ := lx.v
    have e1 : Ex h' (upd h' Dl (.lst us)) := fun a o e => by rw [upd_ne (ne_of_none e lx.n)]; exact e
    refine k _ (upd h' Dl (.lst us)) H' (s1.trans ⟨lx.st.e0.unhide, fun a o e => e1 a o (e01 a o e), fun a o e => ?_, fun a o e nn y9 => ?_⟩) ⟨_, id acc iv, Dl, us, rfl, upd_same, hv.mono e1⟩
    · by_cases c : a = Dl
      · subst c; rw [upd_same] at e; cases e; exact hl
      · rw [upd_ne c] at e
        exact lx.ex a o e
    · rw [upd_ne (ne_of_none e hD)]
      exact lx.st.f0 a o e nn (nx_un y9)
theorem ev_comp {wi : TI} {g : TG} {tt : TT} {it : XI} {x : XG} {t : XT} {vs : List Nat} (hi : EI K c wi it) (hg : EG K c g x) (ht : ET K c tt t) (he : Ev K c te e) (hs : ∀ i ∈ x.vs, i ∈ vs) : Ev K c (tLc wi g tt te vs) (.comp it x t e vs) := fun ρ Q q σ h H n ee R k => by
  show tLc wi g tt te vs σ H R
  refine hi ρ _ q σ h H n ee _ fun ws J h1 H1 ⟨hz, hcc⟩ s1 io => ?_
  exact comp_at (wi := fun _ _ RR => RR J H1) (n.mono s1.s) s1.i (fun R kk => kk J h1 H1 (Stp.refl s1.i) io) hz hcc hg ht he hs R (fun v h' H' s q => k v h' H' (s1.trans s) q)
end
end Z

namespace Z
open PySem L2
/-! ### statements -/
/-- what the one mutable thing holds -/
inductive Co where
  | lst (xs : List W) | dct (al : List (Int × Int)) | ins (fs : List W)
def Co.w : Co → W | .lst xs => .lst xs | .dct al => .dct al | .ins fs => .ob fs
def ctIns (C : Addr) (fn : List Str) (Ps : List Pr) : Ct := ⟨fun o h => ∃ dx us, o = .ins C dx (fn.zip us) ∧ Vs Ps us h, fun e ⟨dx, us, x, q⟩ => ⟨dx, us, x, q.mono e⟩, fun ⟨_, _, x, _⟩ => by rw [x]; rfl⟩
def Co.ct (K : PySem.W.Frag) (c : Cl) : Co → Ct | .lst xs => Ct.lst (W.ps K c xs) | .dct al => Ct.dict (encD al) | .ins fs => ctIns c.X c.fn (W.ps K c fs)
structure Fr where
  s : Sl
  m : Option (Nat × Co)
def Fr.mu (K : PySem.W.Frag) (c : Cl) (φ : Fr) : Mo := φ.m.map fun p => (p.1, p.2.ct K c)
/-- the slots, the mutable thing seen as it is -/
def Fr.rev (φ : Fr) : Sl := match φ.m with | none => φ.s | some (i, co) => φ.s.set i (some co.w)
def Fr.off (φ : Fr) (is : List Nat) : Prop := ∀ p, φ.m = some p → p.1 ∉ is
structure Ko where
  nx : Fr → Prop
  rt : W → Prop
  bk : Fr → Prop
  ct : Fr → Prop
structure Ko.Le (a b : Ko) : Prop where
  nx : ∀ φ, a.nx φ → b.nx φ
  rt : ∀ w, a.rt w → b.rt w
  bk : ∀ φ, a.bk φ → b.bk φ
  ct : ∀ φ, a.ct φ → b.ct φ
structure XS where
  f : Fr → Ko → Prop
  m : ∀ {φ : Fr} {a b : Ko}, a.Le b → f φ a → f φ b
section
variable (K : PySem.W.Frag) (c : Cl)
structure Lk (b : Bs) (κ : Ko) (D : Ends) : Prop where
  nx : ∀ φ, κ.nx φ → Nx b (φ.s.G K c) (φ.mu K c) D.nx
  rt : ∀ w, κ.rt w → ∀ v h H, Stp b.h0 b.H0 h H → (w.p K c).p v h → D.rt v H
  bk : ∀ φ, κ.bk φ → Nx b (φ.s.G K c) (φ.mu K c) D.bk
  ct : ∀ φ, κ.ct φ → Nx b (φ.s.G K c) (φ.mu K c) D.ct
def ES (tu : TS) (s : XS) : Prop := ∀ (φ : Fr) (κ : Ko) (b : Bs) (D : Ends), s.f φ κ → Lk K c b κ D → Nx b (φ.s.G K c) (φ.mu K c) (tu D)
end
def W.flat : W → Bool | .non => true | .bl _ => true | .int _ => true | .str _ => true | _ => false
section
variable {K : PySem.W.Frag} {c : Cl} {te ta tb tc : TE} {tr : TA} {t : TT} {tu tw tz : TS} {e a d : XE} {ar : XA} {b : Bs} {φ : Fr} {σ : St} {h H : Hp}
/-- the mutable thing is looked at -/
theorem borrow (x : En (φ.s.G K c) σ h) (s : b.Ok h H) (m : Mu b (φ.mu K c) σ h H) : ∃ hp, En (φ.rev.G K c) σ hp ∧ b.Ok hp H ∧ ∀ h1 H1, Stp hp H h1 H1 → ∃ h1', Stp h H h1' H1 := by
  obtain ⟨sl, mm⟩ := φ
  cases mm with
  | none => exact ⟨h, x, s, fun h1 H1 st => ⟨h1, st⟩⟩
  | some p =>
    obtain ⟨i, co⟩ := p
    obtain ⟨l, o, m⟩ := (show ∃ l o, Mu1 b i (co.ct K c) σ h H l o from m)
    have e1 : Ex h (upd h l o) := fun a o e => by rw [upd_ne (ne_of_none e m.nh)]; exact e
    have il : i < sl.length := by
      have z := (List.getElem?_eq_some_iff.mp m.at_).1
      have y : σ.length = (Sl.G K c sl).length := x.len
      rw [G_len] at y
      omega
    have pw : (co.w.p K c).p (.ref l) (upd h l o) := by
      cases co with
      | lst xs =>
        obtain ⟨vs, rfl, hv⟩ := m.ct
        exact ⟨l, vs, rfl, upd_same, hv.mono e1⟩
      | dct al =>
        obtain rfl := m.ct
        exact ⟨l, rfl, .inl upd_same⟩
      | ins fs =>
        obtain ⟨dx, us, rfl, hv⟩ := m.ct
        exact ⟨l, dx, us, rfl, upd_same, hv.mono e1⟩
    refine ⟨upd h l o, ?_, ⟨⟨s.st.e0, fun a o e => e1 a o (s.st.s a o e), fun a u e => ?_, fun a u e n y9 => ?_⟩, fun a o e => e1 a o (s.kn a o e)⟩, fun h1 H1 st => ⟨fun c => if c = l then none else h1 c, ⟨st.e0, fun a u e => ?_, fun a u e => ?_, fun a u e n y9 => ?_⟩⟩⟩
    · show En (Sl.G K c (sl.set i (some co.w))) σ _
      rw [G_set]
      exact (x.mono e1).set_open i (by rw [G_len]; exact il) pw m.at_
    · by_cases c : a = l
      · subst c; rw [upd_same] at e; cases e; exact m.oH
      · rw [upd_ne c] at e; exact s.st.i a u e
    · rw [upd_ne (ne_of_none e m.n0)]
      exact s.st.f0 a u e n y9
    · show (if a = l then none else h1 a) = some u
      rw [if_neg (ne_of_none e m.nh)]
      exact st.s a u (e1 a u e)
    · have e' : (if a = l then none else h1 a) = some u := e
      by_cases c : a = l
      · rw [if_pos c] at e'; cases e'
      · rw [if_neg c] at e'; exact st.i a u e'
    · show (if a = l then none else h1 a) = none
      by_cases c : a = l
      · rw [if_pos c]
      · rw [if_neg c]
        exact st.f0 a u e (by rw [upd_ne c]; exact n) y9
theorem Mu.tg {μ : Mo} {σ' : St} {is : List Nat} (m : Mu b μ σ h H) (ho : ∀ i, i ∉ is → σ'[i]? = σ[i]?) (hm : ∀ p, μ = some p → p.1 ∉ is) : Mu b μ σ' h H := by
  cases μ with
  | none => trivial
  | some p =>
    obtain ⟨l, o, m⟩ := m
    exact ⟨l, o, by rw [ho _ (hm _ rfl)]; exact m.at_, m.nh, m.n0, m.oH, m.ct⟩
theorem off_mu {is : List Nat} (h : φ.off is) : ∀ p, φ.mu K c = some p → p.1 ∉ is := fun p e => by
  unfold Fr.mu at e
  cases hm : φ.m with
  | none => rw [hm] at e; cases e
  | some q =>
    rw [hm] at e
    obtain rfl := Option.some.inj e
    exact h q hm
def XS.asg (g : XG) (a : XE) : XS := ⟨fun φ κ => φ.off g.vs ∧ a.f φ.s fun w => g.f w φ.s fun s => κ.nx ⟨s, φ.m⟩, fun k ⟨o, q⟩ => ⟨o, a.m (fun _ z => g.m (fun _ y => k.nx _ y) z) q⟩⟩
theorem es_asg {g : TG} {x : XG} (ha : Ev K c ta a) (hg : EG K c g x) : ES K c (tAsg ta g) (.asg x a) := fun φ κ b D ⟨ho, q⟩ lk σ h H n s m => by
  refine ha φ.s _ q σ h H n s.st.i _ fun v h1 H1 s1 ⟨w, qw, pw⟩ => ?_
  refine hg w v σ h1 H1 φ.s _ qw (n.mono s1.s) s1.i pw _ fun ρ' σ' q' n' o' l' => ?_
  exact lk.nx ⟨ρ', φ.m⟩ q' σ' h1 H1 n' (s.go s1) ((m.go s1).tg o' (off_mu ho))
/-- the mutable thing is read; a flat answer -/
def XS.asgV (g : XG) (a : XE) : XS := ⟨fun φ κ => φ.off g.vs ∧ a.f φ.rev fun w => w.flat = true ∧ g.f w φ.s fun s => κ.nx ⟨s, φ.m⟩, fun k ⟨o, q⟩ => ⟨o, a.m (fun _ z => ⟨z.1, g.m (fun _ y => k.nx _ y) z.2⟩) q⟩⟩
def XS.par (i j : Nat) (a : XA) : XS := ⟨fun φ κ => φ.off [i, j] ∧ a.f φ.s fun ws => ∃ u v, ws = [u, v] ∧ κ.nx ⟨(φ.s.set i (some u)).set j (some v), φ.m⟩, fun k ⟨o, q⟩ => ⟨o, a.m (fun _ ⟨u, v, e, z⟩ => ⟨u, v, e, k.nx _ z⟩) q⟩⟩
def XS.par3 (i j l : Nat) (a : XA) : XS := ⟨fun φ κ => φ.off [i, j, l] ∧ a.f φ.s fun ws => ∃ u v w, ws = [u, v, w] ∧ κ.nx ⟨((φ.s.set i (some u)).set j (some v)).set l (some w), φ.m⟩, fun k ⟨o, q⟩ => ⟨o, a.m (fun _ ⟨u, v, w, e, z⟩ => ⟨u, v, w, e, k.nx _ z⟩) q⟩⟩
def XS.ret (a : XE) : XS := ⟨fun φ κ => a.f φ.rev κ.rt, fun k q => a.m (fun _ z => k.rt _ z) q⟩
theorem es_ret (ha : Ev K c ta a) : ES K c (tRet ta) (.ret a) := fun φ κ b D q lk σ h H n s m => by
  obtain ⟨hp, np, sp, back⟩ := borrow n s m
  exact ha φ.rev _ q σ hp H np sp.st.i _ fun v h1 H1 s1 ⟨w, qw, pw⟩ => lk.rt w qw v h1 H1 (sp.st.trans s1) pw
def XS.retN : XS := ⟨fun φ κ => κ.rt .non, fun k q => k.rt _ q⟩
def XS.drop (a : XE) : XS := ⟨fun φ κ => a.f φ.s fun _ => κ.nx φ, fun k q => a.m (fun _ z => k.nx _ z) q⟩
theorem es_drop (ha : Ev K c ta a) : ES K c (tDrop ta) (.drop a) := fun φ κ b D q lk σ h H n s m => by
  refine ha φ.s _ q σ h H n s.st.i _ fun v h1 H1 s1 ⟨w, qw, pw⟩ => ?_
  exact lk.nx φ qw σ h1 H1 (n.mono s1.s) (s.go s1) (m.go s1)
def XS.next : XS := ⟨fun φ κ => κ.nx φ, fun k q => k.nx _ q⟩
theorem es_next : ES K c tNext .next := fun φ κ b D q lk => lk.nx φ q
def XS.never : XS := ⟨fun _ _ => False, fun _ q => q⟩
theorem es_never : ES K c tNever .never := fun φ κ b D q lk => q.elim
def XS.brk : XS := ⟨fun φ κ => κ.bk φ, fun k q => k.bk _ q⟩
def XS.cnt : XS := ⟨fun φ κ => κ.ct φ, fun k q => k.ct _ q⟩
def XS.seq (x y : XS) : XS := ⟨fun φ κ => x.f φ ⟨fun φ' => y.f φ' κ, κ.rt, κ.bk, κ.ct⟩, fun {φ a b} k q => x.m (a := ⟨fun φ' => y.f φ' a, a.rt, a.bk, a.ct⟩) (b := ⟨fun φ' => y.f φ' b, b.rt, b.bk, b.ct⟩) ⟨fun _ z => y.m k z, k.rt, k.bk, k.ct⟩ q⟩
theorem es_seq {x y : XS} (hx : ES K c tu x) (hy : ES K c tw y) : ES K c (tSeq tu tw) (.seq x y) := fun φ κ b D q lk =>
  hx φ ⟨fun φ' => y.f φ' κ, κ.rt, κ.bk, κ.ct⟩ b { D with nx := tw D } q ⟨fun φ' z => hy φ' κ b D z lk, lk.rt, lk.bk, lk.ct⟩
def XS.ifs (t : XT) (x y : XS) : XS := ⟨fun φ κ => t.f φ.rev fun b => (b = true → x.f φ κ) ∧ (b = false → y.f φ κ), fun k q => t.m (fun _ z => ⟨fun h => x.m k (z.1 h), fun h => y.m k (z.2 h)⟩) q⟩
theorem es_if {x : XT} {y z : XS} (hx : ET K c t x) (hy : ES K c tu y) (hz : ES K c tw z) : ES K c (tIfS t tu tw) (.ifs x y z) := fun φ κ b D q lk σ h H n s m => by
  obtain ⟨hp, np, sp, back⟩ := borrow n s m
  refine hx φ.rev _ q σ hp H np sp.st.i _ fun bb h1 H1 s1 qq => ?_
  obtain ⟨h2, s2⟩ := back h1 H1 s1
  cases bb with
  | true => exact hy φ κ b D (qq.1 rfl) lk σ h2 H1 (n.mono s2.s) (s.go s2) (m.go s2)
  | false => exact hz φ κ b D (qq.2 rfl) lk σ h2 H1 (n.mono s2.s) (s.go s2) (m.go s2)
/-- from here on the mutable thing is not changed -/
def XS.frz (x : XS) : XS := ⟨fun φ κ => x.f ⟨φ.rev, none⟩ κ, fun k q => x.m k q⟩
/-- x op= e, whole numbers -/
def XS.aug (i : Nat) (f : Int → Int → Int) (a : XE) : XS := ⟨fun φ κ => φ.off [i] ∧ ∃ x, φ.s[i]? = some (some (.int x)) ∧ a.f φ.s fun w => ∃ n, w = .int n ∧ κ.nx ⟨φ.s.set i (some (.int (f x n))), φ.m⟩, fun k ⟨o, x, e, q⟩ => ⟨o, x, e, a.m (fun _ ⟨n, e, z⟩ => ⟨n, e, k.nx _ z⟩) q⟩⟩
theorem es_aug {i : Nat} {f : Int → Int → Int} (ha : Ev K c ta a) : ES K c (tAug i ta (ipI f)) (.aug i f a) := fun φ κ b D ⟨ho, x, ex, q⟩ lk σ h H n s m => by
  obtain ⟨v, e1, e2⟩ := n.at_ i _ (G_get ex)
  obtain rfl := p_int e2
  refine ⟨_, e1, ha φ.s _ q σ h H n s.st.i _ fun u h1 H1 s1 ⟨w, ⟨k, ew, qw⟩, pw⟩ => ?_⟩
  subst ew
  refine ⟨x, k, rfl, p_int pw, lk.nx _ qw _ h1 H1 ?_ (s.go s1) ((m.go s1).tg (is := [i]) (fun j hj => List.getElem?_set_ne fun z => hj (by rw [z]; exact List.mem_cons_self)) (off_mu ho))⟩
  show En (Sl.G K c (φ.s.set i (some (.int (f x k))))) _ _
  rw [G_set]
  exact (n.mono s1.s).set i (show (W.p K c (.int (f x k))).p _ _ from Dq.int _)
/-! loops -/
def ForI (ws : List W) (g : XG) (x : XS) (φ : Fr) (κ : Ko) : Prop := ∃ I : Nat → Fr → Prop, I 0 φ ∧
  (∀ (i : Nat) (w : W) (φ' : Fr), ws[i]? = some w → I i φ' → φ'.off g.vs ∧ g.f w φ'.s fun s => x.f ⟨s, φ'.m⟩ ⟨I (i + 1), κ.rt, κ.nx, I (i + 1)⟩) ∧ (∀ φ', I ws.length φ' → κ.nx φ')
def XS.forr (it : XI) (g : XG) (x : XS) : XS := ⟨fun φ κ => it.f φ.s fun ws => ForI ws g x φ κ, fun {φ κ κ'} k q => it.m (fun ws ⟨I, a, b, d⟩ => ⟨I, a, fun i w φ' hw hi => ⟨(b i w φ' hw hi).1, g.m (fun _ z => x.m (a := ⟨I (i + 1), κ.rt, κ.nx, I (i + 1)⟩) (b := ⟨I (i + 1), κ'.rt, κ'.nx, I (i + 1)⟩) ⟨fun _ y => y, k.rt, k.nx, fun _ y => y⟩ z) (b i w φ' hw hi).2⟩, fun φ' z => k.nx _ (d φ' z)⟩) q⟩
theorem es_for {wi : TI} {g : TG} {it : XI} {xg : XG} {x : XS} (hi : EI K c wi it) (hg : EG K c g xg) (hx : ES K c tu x) : ES K c (tFor wi g tu) (.forr it xg x) := fun φ κ b D q lk σ h H n s m => by
  refine hi φ.s _ q σ h H n s.st.i _ fun ws J h1 H1 ⟨I, i0, is, id⟩ s1 io => ?_
  have hk1 := (s.go s1).kn
  have lk' : ∀ i N, (∀ φ' σ' h' H', I (i + 1) φ' → En (φ'.s.G K c) σ' h' → Bs.Ok ⟨b.h0, b.H0, h1⟩ h' H' → Mu ⟨b.h0, b.H0, h1⟩ (φ'.mu K c) σ' h' H' → N σ' H') → Lk K c ⟨b.h0, b.H0, h1⟩ ⟨I (i + 1), κ.rt, κ.nx, I (i + 1)⟩ { D with nx := N, ct := N, bk := D.nx } := fun i N hN =>
    ⟨fun φ' z σ' h' H' n' s' m' => hN φ' σ' h' H' z n' s' m', lk.rt, fun φ' z => n_back hk1 (lk.nx φ' z), fun φ' z σ' h' H' n' s' m' => hN φ' σ' h' H' z n' s' m'⟩
  refine ⟨fun i k σ H => k = ws.length - i ∧ i ≤ ws.length ∧ ∃ φ' h', I i φ' ∧ En (φ'.s.G K c) σ h' ∧ Bs.Ok ⟨b.h0, b.H0, h1⟩ h' H ∧ Mu ⟨b.h0, b.H0, h1⟩ (φ'.mu K c) σ h' H, ⟨ws.length, by simp, Nat.zero_le _, φ, h1, i0, n.mono s1.s, ⟨(s.go s1).st, fun _ _ q => q⟩, (m.go s1).reb rfl⟩, ?_⟩
  rintro i k σ' H' ⟨rfl, hi', φ', h', iv, n', s', m'⟩
  by_cases hlt : i < ws.length
  · have hw : ws[i]? = some ws[i] := List.getElem?_eq_getElem hlt
    obtain ⟨go, yl⟩ := io.go i _ h' H' hw s'.kn s'.st.i
    refine .inr ⟨go, fun σ2 H2 => ∃ φ2 h2, I (i + 1) φ2 ∧ En (φ2.s.G K c) σ2 h2 ∧ Bs.Ok ⟨b.h0, b.H0, h1⟩ h2 H2 ∧ Mu ⟨b.h0, b.H0, h1⟩ (φ2.mu K c) σ2 h2 H2, fun σ2 H2 z => ⟨ws.length - (i + 1), by omega, rfl, hlt, z⟩, fun v H2 y => ?_⟩
    obtain ⟨h2, s2, pv⟩ := yl v H2 y
    obtain ⟨ho, qg⟩ := is i _ φ' hw iv
    refine hg _ v σ' h2 H2 φ'.s _ qg (n'.mono s2.s) s2.i pv _ fun ρ3 σ3 q3 n3 o3 l3 => ?_
    exact hx ⟨ρ3, φ'.m⟩ _ ⟨b.h0, b.H0, h1⟩ _ q3 (lk' i _ fun φ4 σ4 h4 H4 a b c d => ⟨φ4, h4, a, b, c, d⟩) σ3 h2 H2 n3 (s'.go s2) ((m'.go s2).tg o3 (off_mu ho))
  · have e : i = ws.length := by omega
    subst e
    exact .inl ⟨io.stop h' H' s'.kn s'.st.i, n_back hk1 (lk.nx φ' (id φ' iv)) σ' h' H' n' s' m'⟩
def WhI (t : XT) (x : XS) (φ : Fr) (κ : Ko) : Prop := ∃ I : Nat → Fr → Prop, (∃ m, I m φ) ∧
  ∀ (m : Nat) (φ' : Fr), I m φ' → t.f φ'.rev fun b => (b = true → x.f φ' ⟨fun φ2 => ∃ m', m' < m ∧ I m' φ2, κ.rt, κ.nx, fun φ2 => ∃ m', m' < m ∧ I m' φ2⟩) ∧ (b = false → κ.nx φ')
def XS.whil (t : XT) (x : XS) : XS := ⟨fun φ κ => WhI t x φ κ, fun {φ κ κ'} k ⟨I, a, b⟩ => ⟨I, a, fun m φ' hi => t.m (fun _ z => ⟨fun h => x.m (a := ⟨fun φ2 => ∃ m', m' < m ∧ I m' φ2, κ.rt, κ.nx, fun φ2 => ∃ m', m' < m ∧ I m' φ2⟩) (b := ⟨fun φ2 => ∃ m', m' < m ∧ I m' φ2, κ'.rt, κ'.nx, fun φ2 => ∃ m', m' < m ∧ I m' φ2⟩) ⟨fun _ y => y, k.rt, k.nx, fun _ y => y⟩ (z.1 h), fun h => k.nx _ (z.2 h)⟩) (b m φ' hi)⟩⟩
theorem es_while {tt : XT} {x : XS} (ht : ET K c t tt) (hx : ES K c tu x) : ES K c (tWhile t tu) (.whil tt x) := fun φ κ b D ⟨I, ⟨m0, i0⟩, is⟩ lk σ h H n s m => by
  refine ⟨fun k σ H => ∃ φ' h', I k φ' ∧ En (φ'.s.G K c) σ h' ∧ b.Ok h' H ∧ Mu b (φ'.mu K c) σ h' H, ⟨m0, φ, h, i0, n, s, m⟩, ?_⟩
  rintro k σ' H' ⟨φ', h', iv, n', s', m'⟩
  obtain ⟨hp, np, sp, back⟩ := borrow n' s' m'
  refine ht φ'.rev _ (is k φ' iv) σ' hp H' np sp.st.i _ fun bb h2 H2 s2 qq => ?_
  obtain ⟨h3, s3⟩ := back h2 H2 s2
  cases bb with
  | true =>
    refine ⟨fun σ4 H4 => ∃ j φ4 h4, j < k ∧ I j φ4 ∧ En (φ4.s.G K c) σ4 h4 ∧ b.Ok h4 H4 ∧ Mu b (φ4.mu K c) σ4 h4 H4, fun σ4 H4 ⟨j, φ4, h4, hj, z⟩ => ⟨j, hj, φ4, h4, z⟩, ?_⟩
    exact hx φ' ⟨fun φ2 => ∃ m', m' < k ∧ I m' φ2, κ.rt, κ.nx, fun φ2 => ∃ m', m' < k ∧ I m' φ2⟩ b { D with nx := fun σ4 H4 => ∃ j φ4 h4, j < k ∧ I j φ4 ∧ En (φ4.s.G K c) σ4 h4 ∧ b.Ok h4 H4 ∧ Mu b (φ4.mu K c) σ4 h4 H4, ct := fun σ4 H4 => ∃ j φ4 h4, j < k ∧ I j φ4 ∧ En (φ4.s.G K c) σ4 h4 ∧ b.Ok h4 H4 ∧ Mu b (φ4.mu K c) σ4 h4 H4, bk := D.nx } (qq.1 rfl) ⟨fun φ4 ⟨j, hj, z⟩ σ4 h4 H4 a b c => ⟨j, φ4, h4, hj, z, a, b, c⟩, lk.rt, fun φ4 z => lk.nx φ4 z, fun φ4 ⟨j, hj, z⟩ σ4 h4 H4 a b c => ⟨j, φ4, h4, hj, z, a, b, c⟩⟩ σ' h3 H2 (n'.mono s3.s) (s'.go s3) (m'.go s3)
  | false => exact lk.nx φ' (qq.2 rfl) σ' h3 H2 (n'.mono s3.s) (s'.go s3) (m'.go s3)
/-! the mutable thing -/
theorem new_mu {l : Addr} {i : Nat} {co : Co} {o : HO} (il : i < φ.s.length) (n : En (φ.s.G K c) σ h) (s : b.Ok h H) (hn : H l = none) (hc : (co.ct K c).p o h) : ∀ (κ : Ko) (F : St → Hp → Prop), Nx b (Sl.G K c (φ.s.set i none)) (Fr.mu K c ⟨φ.s.set i none, some (i, co)⟩) F → F (σ.set i (some (.ref l))) (upd H l o) := fun κ F k => by
  have n1 : h l = none := by
    cases z : h l with
    | none => rfl
    | some u => rw [s.st.i l u z] at hn; cases hn
  have n0 : b.H0 l = none := s.st.n l hn
  refine k _ h _ ?_ (s.go (Stp.out s.st.i hn)) ⟨l, o, List.getElem?_set_self (by rw [n.len, G_len]; exact il), n1, n0, upd_same, hc⟩
  rw [G_wipe]
  exact n.blur i
/-- x = [..], to be changed -/
def XS.newL (i : Nat) (a : XA) : XS := ⟨fun φ κ => φ.m = none ∧ i < φ.s.length ∧ a.f φ.s fun ws => ws.length ≤ 100000 ∧ κ.nx ⟨φ.s.set i none, some (i, .lst ws)⟩, fun k ⟨o, l, q⟩ => ⟨o, l, a.m (fun _ z => ⟨z.1, k.nx _ z.2⟩) q⟩⟩
theorem es_newL {i : Nat} (hr : EA K c tr ar) : ES K c (tAsg (tLst tr) (gName i)) (.newL i ar) := fun φ κ b D ⟨hm, il, q⟩ lk σ h H n s m => by
  refine hr φ.s _ q σ h H n s.st.i _ fun ws vs h1 H1 ⟨hz, qw⟩ s1 p1 => ⟨by rw [p1.len, ps_len]; exact Evl.sz_of hz, fun p np => ?_⟩
  exact new_mu (co := .lst ws) (o := .lst vs) il (n.mono s1.s) (s.go s1) np ⟨vs, rfl, p1⟩ κ D.nx (lk.nx _ qw)
/-- x = dict(t) -/
def XS.newD (i : Nat) (a : XE) : XS := ⟨fun φ κ => φ.m = none ∧ i < φ.s.length ∧ a.f φ.s fun w => ∃ al, w = .arm al ∧ (al.map (·.1)).Nodup ∧ κ.nx ⟨φ.s.set i none, some (i, .dct al)⟩, fun k ⟨o, l, q⟩ => ⟨o, l, a.m (fun _ ⟨al, e, d, z⟩ => ⟨al, e, d, k.nx _ z⟩) q⟩⟩
/-- x = {} -/
def XS.newD0 (i : Nat) : XS := ⟨fun φ κ => φ.m = none ∧ i < φ.s.length ∧ κ.nx ⟨φ.s.set i none, some (i, .dct [])⟩, fun k ⟨o, l, q⟩ => ⟨o, l, k.nx _ q⟩⟩
/-- x.append(e) -/
def XS.app (i : Nat) (a : XE) : XS := ⟨fun φ κ => ∃ xs, φ.m = some (i, .lst xs) ∧ xs.length < 100000 ∧ a.f φ.s fun w => κ.nx ⟨φ.s, some (i, .lst (xs ++ [w]))⟩, fun k ⟨xs, e, l, q⟩ => ⟨xs, e, l, a.m (fun _ z => k.nx _ z) q⟩⟩
theorem es_app {i : Nat} (ha : Ev K c ta a) : ES K c (tDrop (tBM K "list" rAppend (tVar i) (tCons ta tNil))) (.app i a) := fun φ κ b D ⟨xs, hm, hz, q⟩ lk σ h H n s m => by
  have m' : Mu b (some (i, Ct.lst (W.ps K c xs))) σ h H := by
    unfold Fr.mu at m; rw [hm] at m; exact m
  obtain ⟨l, o, m1⟩ := m'
  obtain ⟨vs, rfl, hv⟩ := m1.ct
  refine ⟨.ref l, m1.at_, .inl ⟨rfl, vs, .inl (.inl m1.oH)⟩, ?_⟩
  refine ha φ.s _ q σ h H n s.st.i _ fun v h1 H1 s1 ⟨w, qw, pw⟩ => ?_
  have n1 := s1.f l _ m1.oH m1.nh
  refine ⟨l, vs, v, rfl, rfl, s1.e l _ m1.oH, Evl.sz_lt (by rw [hv.len, ps_len]; exact hz), ?_⟩
  have s2 := s.go s1
  refine lk.nx _ qw σ h1 _ (n.mono s1.s) ⟨⟨?_, s2.st.s, ?_, fun a o e n z => s2.st.f0 a o e n (nx_ne (ne_of_none e m1.n0) z)⟩, s2.kn⟩ ⟨l, _, m1.at_, n1, m1.n0, upd_same, _, rfl, ?_⟩
  · exact s2.st.e0.upd m1.n0 (plo_at (s1.e l _ m1.oH))
  · intro a o e
    rw [upd_ne (ne_of_none e n1)]
    exact s2.st.i a o e
  · rw [ps_app]; exact (hv.mono s1.s).app pw
def XS.appV (i : Nat) (a : XE) : XS := ⟨fun φ κ => ∃ xs, φ.m = some (i, .lst xs) ∧ xs.length < 100000 ∧ a.f φ.rev fun w => w.flat = true ∧ κ.nx ⟨φ.s, some (i, .lst (xs ++ [w]))⟩, fun k ⟨xs, e, l, q⟩ => ⟨xs, e, l, a.m (fun _ z => ⟨z.1, k.nx _ z.2⟩) q⟩⟩
/-- d[x] = d.get(x, 0) + e -/
def XS.dput (i j : Nat) (a : XE) : XS := ⟨fun φ κ => ∃ al x, φ.m = some (i, .dct al) ∧ φ.s[j]? = some (some (.int x)) ∧ al.length < 100000 ∧ a.f φ.s fun w => ∃ n, w = .int n ∧ κ.nx ⟨φ.s, some (i, .dct (putI al x (cf al x + n)))⟩, fun k ⟨al, x, e, f, l, q⟩ => ⟨al, x, e, f, l, a.m (fun _ ⟨n, e, z⟩ => ⟨n, e, k.nx _ z⟩) q⟩⟩
/-- d[k], d.get(k, 0) of a dict that stands -/
def XE.dget (a b : XE) : XE := ⟨fun ρ Q => a.f ρ fun w => ∃ al, w = .dct al ∧ b.f ρ fun u => ∃ x n, u = .int x ∧ getI al x = some n ∧ Q (.int n), fun k q => a.m (fun _ ⟨al, e, z⟩ => ⟨al, e, b.m (fun _ ⟨x, n, e, g, z⟩ => ⟨x, n, e, g, k _ z⟩) z⟩) q⟩
def XE.dget2 (a b : XE) : XE := ⟨fun ρ Q => a.f ρ fun w => ∃ al, w = .dct al ∧ b.f ρ fun u => ∃ x, u = .int x ∧ Q (.int (cf al x)), fun k q => a.m (fun _ ⟨al, e, z⟩ => ⟨al, e, b.m (fun _ ⟨x, e, z⟩ => ⟨x, e, k _ z⟩) z⟩) q⟩
/-- truth of values -/
def W.tru : W → Option Bool
  | .non => some false | .bl b => some b | .int i => some (decide (i ≠ 0)) | .lst xs => some (!xs.isEmpty) | .tup xs => some (!xs.isEmpty) | .arm al => some (!al.isEmpty) | _ => none
def XT.tru (a : XE) : XT := ⟨fun ρ Q => a.f ρ fun w => ∃ b, w.tru = some b ∧ Q b, fun k q => a.m (fun _ ⟨b, e, z⟩ => ⟨b, e, k _ z⟩) q⟩
/-! a, .., x, .. = .., [], ..: x is to be changed -/
structure XAN where
  f : Sl → (List W → List W → Prop) → Prop
  m : ∀ {ρ : Sl} {Q Q' : List W → List W → Prop}, (∀ a b, Q a b → Q' a b) → f ρ Q → f ρ Q'
def XAN.here (r : XA) : XAN := ⟨fun ρ Q => r.f ρ fun ws => Q [] ws, fun k q => r.m (fun _ z => k _ _ z) q⟩
def XAN.cons (a : XE) (x : XAN) : XAN := ⟨fun ρ Q => a.f ρ fun w => x.f ρ fun p q => Q (w :: p) q, fun k q => a.m (fun _ z => x.m (fun _ _ y => k _ _ y) z) q⟩
def setAll : List Nat → List (Option W) → Sl → Sl | i :: is, w :: ws, ρ => setAll is ws (ρ.set i w) | _, _, ρ => ρ
def XS.parN (is : List Nat) (x : XAN) : XS := ⟨fun φ κ => (φ.m = none ∧ is.length ≤ 100000) ∧ is.Nodup ∧ (∀ i ∈ is, i < φ.s.length) ∧ x.f φ.s fun p q => is.length = p.length + 1 + q.length ∧ κ.nx ⟨setAll is (p.map some ++ none :: q.map some) φ.s, some (is.getD p.length 0, .lst [])⟩, fun k ⟨a, b, d, q⟩ => ⟨a, b, d, x.m (fun _ _ z => ⟨z.1, k.nx _ z.2⟩) q⟩⟩
end
/-! ### defs -/
section
variable {P : Program} {w : World} {K : PySem.W.Frag} {mg : Str → Option Value} {base : Heap} {c : Cl}
theorem vs_start {F : XF} {N ps : List Str} (a : F.α) (hn : F.n = ps.length) : ((W.ps K c (F.args a)).map some ++ List.replicate (N.length - ps.length) none : Ctx) = Sl.G K c ((F.args a).map some ++ List.replicate (N.length - ps.length) none) := by
  unfold Sl.G
  rw [List.map_append, List.map_map, ps_map, List.map_map, List.map_replicate]
  rfl
/-- the whole run of a body -/
def XS.whole (s : XS) (ws : List W) (k : Nat) (Q : W → Prop) : Prop := s.f ⟨ws.map some ++ List.replicate k none, none⟩ ⟨fun _ => Q .non, Q, fun _ => False, fun _ => False⟩
theorem Dn.run {F : XF} {x : Str} {st : Stmt} {ps N : List Str} {k : Nat} {s : XS} (d : Dn K mg x st ps) (S : FnScope N ps (defScope st)) (hn : F.n = ps.length)
    (hb : ∀ (a : F.α) (Q : W → Prop), F.pre a → (∀ w, F.post a w → Q w) → s.whole (F.args a) (N.length - ps.length) Q)
    (ht : ∀ (f : Addr) (cdv : Value) (A : Around) (outer : List Env) (sh : Shared) (H : Hp) (E : XK), Room k (A.deeper (PyProof.Rows.envOfC x (defScope st) sh.heap.objs.size f cdv)) → ∃ t : TS, PSs (cxOf CX0 P w K mg base N x (defScope st) f cdv A outer sh H E).nox (defBody st) t ∧ ES K c t s) :
    Fx P w K mg base (k + 1) x (F.sp K c) := by
  refine d.fx S (fun vs H Q E h => ?_) fun f cdv A outer sh H vs Q E hr h => ?_
  · obtain ⟨a, _, _, q, _⟩ := h
    rw [q.len, ps_len, F.hn, hn]
  · obtain ⟨t, ht, hs⟩ := ht f cdv A outer sh H E hr
    refine ⟨t, ht, ?_⟩
    obtain ⟨a, h, e, q, p, kk⟩ := h
    have hl : (W.ps K c (F.args a)).length = ps.length := by rw [ps_len, F.hn, hn]
    have z := en_start (args := fun _ : Unit => W.ps K c (F.args a)) (N := N) (ps := ps) (a := ()) (fun _ => hl) q
    have z' : En (((W.ps K c (F.args a)).map some ++ List.replicate (N.length - ps.length) none : Ctx)) (L2.start N vs) h := z
    rw [vs_start a hn] at z'
    refine hs _ _ ⟨h, H, h⟩ _ (hb a (fun w => F.post a w) p fun w z => z) ?_ (L2.start N vs) h H z' ⟨Stp.refl e, fun _ _ q => q⟩ trivial
    exact ⟨fun φ z σ h' H' n s' m => kk .non h' H' s'.st ⟨_, z, Dq.non⟩, fun w z v h' H' s' pw => kk v h' H' s' ⟨w, z, pw⟩, fun φ z => z.elim, fun φ z => z.elim⟩
theorem Dm.run {F : XF} {m qual : Str} {st : Stmt} {ps N : List Str} {k : Nat} {f : Addr} {s : XS} (d : Dm K m qual st ps f) (S : FnScope N ps (defScope st)) (hn : F.n = ps.length)
    (hb : ∀ (a : F.α) (Q : W → Prop), F.pre a → (∀ w, F.post a w → Q w) → s.whole (F.args a) (N.length - ps.length) Q)
    (ht : ∀ (cdv : Value) (A : Around) (outer : List Env) (sh : Shared) (H : Hp) (E : XK), Room k (A.deeper (PyProof.Rows.envOfC qual (defScope st) sh.heap.objs.size f cdv)) → ∃ t : TS, PSs (cxOf CX0 P w K mg base N qual (defScope st) f cdv A outer sh H E).nox (defBody st) t ∧ ES K c t s) :
    ∃ fd, FnOk P w K mg base CX0 (k + 1) f fd ps (F.sp K c) ∧ Binds K fd ps [] := by
  refine d.ok S (fun vs H Q E h => ?_) fun cdv A outer sh H vs Q E hr h => ?_
  · obtain ⟨a, _, _, q, _⟩ := h
    rw [q.len, ps_len, F.hn, hn]
  · obtain ⟨t, ht, hs⟩ := ht cdv A outer sh H E hr
    refine ⟨t, ht, ?_⟩
    obtain ⟨a, h, e, q, p, kk⟩ := h
    have hl : (W.ps K c (F.args a)).length = ps.length := by rw [ps_len, F.hn, hn]
    have z := en_start (args := fun _ : Unit => W.ps K c (F.args a)) (N := N) (ps := ps) (a := ()) (fun _ => hl) q
    have z' : En (((W.ps K c (F.args a)).map some ++ List.replicate (N.length - ps.length) none : Ctx)) (L2.start N vs) h := z
    rw [vs_start a hn] at z'
    refine hs _ _ ⟨h, H, h⟩ _ (hb a (fun w => F.post a w) p fun w z => z) ?_ (L2.start N vs) h H z' ⟨Stp.refl e, fun _ _ q => q⟩ trivial
    exact ⟨fun φ z σ h' H' n s' m => kk .non h' H' s'.st ⟨_, z, Dq.non⟩, fun w z v h' H' s' pw => kk v h' H' s' ⟨w, z, pw⟩, fun φ z => z.elim, fun φ z => z.elim⟩
theorem fun_run {F : XF} {m qual : Str} {st : Stmt} {ps N : List Str} {k : Nat} {f : Addr} {fd : FuncData} {s : XS} (d : L2.Fun K m qual st f fd) (S : FnScope N ps (defScope st)) (hn : F.n = ps.length)
    (hb : ∀ (a : F.α) (Q : W → Prop), F.pre a → (∀ w, F.post a w → Q w) → s.whole (F.args a) (N.length - ps.length) Q)
    (ht : ∀ (cdv : Value) (A : Around) (outer : List Env) (sh : Shared) (H : Hp) (E : XK), Room k (A.deeper (PyProof.Rows.envOfC qual (defScope st) sh.heap.objs.size f cdv)) → ∃ t : TS, PSs (cxOf CX0 P w K mg base N qual (defScope st) f cdv A outer sh H E).nox (defBody st) t ∧ ES K c t s) :
    FnOk P w K mg base CX0 (k + 1) f fd ps (F.sp K c) := by
  refine d.ok S (fun vs H Q E h => ?_) fun cdv A outer sh H vs Q E hr h => ?_
  · obtain ⟨a, _, _, q, _⟩ := h
    rw [q.len, ps_len, F.hn, hn]
  · obtain ⟨t, ht, hs⟩ := ht cdv A outer sh H E hr
    refine ⟨t, ht, ?_⟩
    obtain ⟨a, h, e, q, p, kk⟩ := h
    have hl : (W.ps K c (F.args a)).length = ps.length := by rw [ps_len, F.hn, hn]
    have z := en_start (args := fun _ : Unit => W.ps K c (F.args a)) (N := N) (ps := ps) (a := ()) (fun _ => hl) q
    have z' : En (((W.ps K c (F.args a)).map some ++ List.replicate (N.length - ps.length) none : Ctx)) (L2.start N vs) h := z
    rw [vs_start a hn] at z'
    refine hs _ _ ⟨h, H, h⟩ _ (hb a (fun w => F.post a w) p fun w z => z) ?_ (L2.start N vs) h H z' ⟨Stp.refl e, fun _ _ q => q⟩ trivial
    exact ⟨fun φ z σ h' H' n s' m => kk .non h' H' s'.st ⟨_, z, Dq.non⟩, fun w z v h' H' s' pw => kk v h' H' s' ⟨w, z, pw⟩, fun φ z => z.elim, fun φ z => z.elim⟩
end
end Z

namespace Z
open PySem L2
/-! ### the operators of plain values, of every kind at once -/
section
variable {X : Cx} {K : PySem.W.Frag} {c : Cl}
abbrev oAdd : XO := .or (.ii fun i j => .int (i + j)) (.or .catL .catT)
theorem opAdd : OpR X (binaryOp .Add) (fun x y H Q => rI0 (fun i j => .int (i + j)) x y H Q ∨ rCat x y H Q ∨ rCatA X.K x y H Q) := op_add.or (op_cat.or op_catA)
theorem eoAdd : EO K c (fun x y H Q => rI0 (fun i j => .int (i + j)) x y H Q ∨ rCat x y H Q ∨ rCatA K x y H Q) oAdd := eo_or eo_I (eo_or eo_catL eo_catT)
abbrev oSub : XO := .ii fun i j => .int (i - j)
theorem opSub : OpR X (binaryOp .Sub) (rI0 fun i j => .int (i - j)) := op_sub
theorem eoSub : EO K c (rI0 fun i j => .int (i - j)) oSub := eo_I
abbrev oMul : XO := .iic CMul fun i j => .int (i * j)
theorem opMul : OpR X (binaryOp .Mult) (rI CMul fun i j => .int (i * j)) := op_mul
theorem eoMul : EO K c (rI CMul fun i j => .int (i * j)) oMul := eo_IC
abbrev oLt : XO := .ii fun i j => .bl (decide (i < j))
abbrev oLe : XO := .ii fun i j => .bl (decide (i ≤ j))
abbrev oGt : XO := .ii fun i j => .bl (decide (j < i))
abbrev oGe : XO := .ii fun i j => .bl (decide (j ≤ i))
abbrev oEq : XO := .or (.eqS false) (.eqD false)
abbrev oNe : XO := .or (.eqS true) (.eqD true)
theorem opEq (hu : X.A.units + 64 < cLine) : OpR X (compareOp .Eq) (fun x y H Q => rEq x y H Q ∨ rEqD X.K x y H Q) := op_eq.or (op_eqD hu)
theorem opNe (hu : X.A.units + 64 < cLine) : OpR X (compareOp .NotEq) (fun x y H Q => rNe x y H Q ∨ rNeD X.K x y H Q) := op_ne.or (op_neD hu)
theorem eoEq : EO K c (fun x y H Q => rEq x y H Q ∨ rEqD K x y H Q) oEq := eo_or eo_eqS eo_eqD
theorem eoNe : EO K c (fun x y H Q => rNe x y H Q ∨ rNeD K x y H Q) oNe := eo_or eo_neS eo_neD
def XO.ixA : XO := ⟨fun x y Q => ∃ al i p, x = .arm al ∧ y = .int i ∧ atI al i = some p ∧ Q (.tup [.int p.1, .int p.2]), fun k ⟨i, j, w, a, b, d, q⟩ => ⟨i, j, w, a, b, d, k _ q⟩⟩
theorem eo_ixA : EO K c (rIxT K) .ixA := fun x y Q ⟨al, i, p, ex, ey, hw, q⟩ => by
  subst ex ey
  refine opp_sq (w := .tup [.int p.1, .int p.2]) q (fun x y h H a d e R k => opp_ixTP (P := (W.tup [.int p.1, .int p.2]).p K c) (ps_atI (xs := arW al) (atI_map (f := fun p : Int × Int => W.tup [.int p.1, .int p.2]) hw)) x y h H (itT_of (xs := arW al) rfl a) d e R k) fun v h z => z
theorem eo_or2 {r : R2} {o o' : XO} (h : EO K c r o) (h' : EO K c r o') : EO K c r (o.or o') := fun x y Q q => q.elim (fun z => h x y Q z) (fun z => h' x y Q z)
abbrev oIx : XO := .or .ixL (.or .ixT .ixA)
theorem ix_lt : IxR X (fun x y H Q => rIxL X.K x y H Q ∨ rIxT X.K x y H Q) := ix_list.or ix_tup
theorem eoIx : EO K c (fun x y H Q => rIxL K x y H Q ∨ rIxT K x y H Q) oIx := eo_or eo_ixL (eo_or2 eo_ixT eo_ixA)
def xIsi : XN := ⟨fun ws Q => ∃ x n r, ws = [x, .ty n] ∧ x.isT (.ty n) = some r ∧ Q (.bl r), fun k ⟨x, t, r, a, e, q⟩ => ⟨x, t, r, a, e, k _ q⟩⟩
def xIsC (j : Bool) : XN := ⟨fun ws Q => ∃ x r, ws = [x, .cls j] ∧ x.isT (.cls j) = some r ∧ Q (.bl r), fun k ⟨x, r, a, e, q⟩ => ⟨x, r, a, e, k _ q⟩⟩
theorem ev_ty {n : String} : Ev K c (tC (.ty n)) (.lit (.ty n)) := fun ρ Q q => t_weak t_ty fun v h z => ⟨_, q, z⟩
/-! list(range(..)) -/
variable {ta tb : TE} {tr : TA} {a b : XE} {ar : XA}
def XE.lrg2 (a b : XE) : XE := ⟨fun ρ Q => a.f ρ fun x => b.f ρ fun y => ∃ i j, x = .int i ∧ y = .int j ∧ (-1000000000 ≤ i ∧ i ≤ 1000000000 ∧ -1000000000 ≤ j ∧ j ≤ 1000000000 ∧ j - i ≤ 50000) ∧ Q (.lst (rgW i (j - i).toNat)), fun k q => a.m (fun _ z => b.m (fun _ ⟨i, j, x, y, h, q⟩ => ⟨i, j, x, y, h, k _ q⟩) z) q⟩
def dnW (i : Int) (n : Nat) : List W := (List.range n).map fun (k : Nat) => .int (i - (k : Int))
/-- list(range(i, j, -1)) -/
def XE.lrg3 (a : XA) : XE := ⟨fun ρ Q => a.f ρ fun ws => ∃ i j, ws = [.int i, .int j, .int (-1)] ∧ (-1000000000 ≤ i ∧ i ≤ 1000000000 ∧ -1000000000 ≤ j ∧ j ≤ 1000000000 ∧ i - j ≤ 50000) ∧ Q (.lst (dnW i (i - j).toNat)), fun k q => a.m (fun _ ⟨i, j, x, h, q⟩ => ⟨i, j, x, h, k _ q⟩) q⟩
/-- an old promise as a new one -/
theorem xf_of {α : Type _} {F : XF} {args : α → List Pr} {pre : α → Prop} {res : α → Pr} (f : F.α → α) (hA : ∀ a vs h, Vs (W.ps K c (F.args a)) vs h → Vs (args (f a)) vs h) (hp : ∀ a, F.pre a → pre (f a)) (hr : ∀ a v h, F.pre a → (res (f a)).p v h → ∃ w, F.post a w ∧ (W.p K c w).p v h) : ∀ vs H Q E, F.sp K c vs H Q E → Sv args pre res vs H Q E := fun vs H Q E ⟨a, h, e, q, p, kk⟩ =>
  ⟨f a, h, e, hA a vs h q, hp a p, fun v h' H' s z => kk v h' H' s (hr a v h' p z)⟩
end
/-! ### running -/
theorem ints_inj {ns ms : List Int} : ns.map W.int = ms.map W.int ↔ ns = ms := List.map_inj_right fun _ _ h => W.int.inj h
end Z

namespace Z
open PySem L2
/-! ### one equation a word: a run is opened by them -/
theorem r_call {ρ : Sl} {Q : W → Prop} {a b d : XE} {ar : XA} {t u : XT} {φ : Fr} {κ : Ko} {x y : XS} {F : XF} : ((XE.call F ar).f ρ Q) = (ar.f ρ fun xs => F.f xs Q) := rfl
theorem r_ite {ρ : Sl} {Q : W → Prop} {a b d : XE} {ar : XA} {t u : XT} {φ : Fr} {κ : Ko} {x y : XS} : ((XE.ite t a b).f ρ Q) = (t.f ρ fun x => (x = true → a.f ρ Q) ∧ (x = false → b.f ρ Q)) := rfl
theorem r_andV {ρ : Sl} {Q : W → Prop} {a b d : XE} {ar : XA} {t u : XT} {φ : Fr} {κ : Ko} {x y : XS} : ((XE.andV a b).f ρ Q) = (a.f ρ fun x => ∃ p, x = .bl p ∧ (p = true → b.f ρ Q) ∧ (p = false → Q (.bl false))) := rfl
theorem r_orV {ρ : Sl} {Q : W → Prop} {a b d : XE} {ar : XA} {t u : XT} {φ : Fr} {κ : Ko} {x y : XS} : ((XE.orV a b).f ρ Q) = (a.f ρ fun x => ∃ p, x = .bl p ∧ (p = false → b.f ρ Q) ∧ (p = true → Q (.bl true))) := rfl
theorem r_chain {ρ : Sl} {Q : W → Prop} {a b d : XE} {ar : XA} {t u : XT} {φ : Fr} {κ : Ko} {x y : XS} {g g' : Int → Int → Bool} : ((XE.chain g g' a b d).f ρ Q) = (a.f ρ fun x => b.f ρ fun y => ∃ i j, x = .int i ∧ y = .int j ∧ (g i j = true → d.f ρ fun z => ∃ k, z = .int k ∧ Q (.bl (g' j k))) ∧ (g i j = false → Q (.bl false))) := rfl
theorem r_tand {ρ : Sl} {Q : W → Prop} {a b d : XE} {ar : XA} {t u : XT} {φ : Fr} {κ : Ko} {x y : XS} {B : Bool → Prop} : ((XT.and t u).f ρ B) = (t.f ρ fun x => (x = true → u.f ρ B) ∧ (x = false → B false)) := rfl
theorem r_tor {ρ : Sl} {Q : W → Prop} {a b d : XE} {ar : XA} {t u : XT} {φ : Fr} {κ : Ko} {x y : XS} {B : Bool → Prop} : ((XT.or t u).f ρ B) = (t.f ρ fun x => (x = false → u.f ρ B) ∧ (x = true → B true)) := rfl
theorem r_fldR {ρ : Sl} {Q : W → Prop} {a : XE} : ((XE.fld true a).f ρ Q) = (a.f ρ fun w => ∃ al, w = .rig al ∧ Q (.arm al)) := propext ⟨a.m fun w z => by rcases z with ⟨i, h, e, q⟩ | ⟨i, h, e, q⟩ <;> first | (cases h; done) | exact ⟨i, e, q⟩, a.m fun w ⟨i, e, q⟩ => by first | exact .inl ⟨i, rfl, e, q⟩ | exact .inr ⟨i, rfl, e, q⟩⟩
theorem r_fldM {ρ : Sl} {Q : W → Prop} {a : XE} : ((XE.fld false a).f ρ Q) = (a.f ρ fun w => ∃ ns : List Int, w = .mem ns ∧ Q (.tup (ns.map .int))) := propext ⟨a.m fun w z => by rcases z with ⟨i, h, e, q⟩ | ⟨i, h, e, q⟩ <;> first | (cases h; done) | exact ⟨i, e, q⟩, a.m fun w ⟨i, e, q⟩ => by first | exact .inl ⟨i, rfl, e, q⟩ | exact .inr ⟨i, rfl, e, q⟩⟩
theorem r_dget {ρ : Sl} {Q : W → Prop} {a b d : XE} {ar : XA} {t u : XT} {φ : Fr} {κ : Ko} {x y : XS} : ((XE.dget a b).f ρ Q) = (a.f ρ fun w => ∃ al, w = .dct al ∧ b.f ρ fun u => ∃ x n, u = .int x ∧ getI al x = some n ∧ Q (.int n)) := rfl
theorem r_lrg2 {ρ : Sl} {Q : W → Prop} {a b d : XE} {ar : XA} {t u : XT} {φ : Fr} {κ : Ko} {x y : XS} : ((XE.lrg2 a b).f ρ Q) = (a.f ρ fun x => b.f ρ fun y => ∃ i j, x = .int i ∧ y = .int j ∧ (-1000000000 ≤ i ∧ i ≤ 1000000000 ∧ -1000000000 ≤ j ∧ j ≤ 1000000000 ∧ j - i ≤ 50000) ∧ Q (.lst (rgW i (j - i).toNat))) := rfl
theorem r_gnil {ρ : Sl} {Q : W → Prop} {a b d : XE} {ar : XA} {t u : XT} {φ : Fr} {κ : Ko} {x y : XS} {ws : List W} {S : Sl → Prop} : (XGs.nil.f ws ρ S) = (ws = [] ∧ S ρ) := rfl
theorem r_gcons {ρ : Sl} {Q : W → Prop} {a b d : XE} {ar : XA} {t u : XT} {φ : Fr} {κ : Ko} {x y : XS} {g : XG} {r : XGs} {ws : List W} {S : Sl → Prop} : ((XGs.cons g r).f ws ρ S) = (∃ x xs, ws = x :: xs ∧ g.f x ρ fun ρ' => r.f xs ρ' S) := rfl
theorem r_vname {i : Nat} : ((XG.name i).vs) = ([i]) := rfl
theorem r_vtup {r : XGs} : ((XG.tup r).vs) = (r.vs) := rfl
theorem r_vnil  : (XGs.nil.vs) = ([]) := rfl
theorem r_vcons {g : XG} {r : XGs} : ((XGs.cons g r).vs) = (g.vs ++ r.vs) := rfl
theorem r_oeqS {x y : W} {Q : W → Prop} {n : Bool} : ((XO.eqS n).f x y Q) = ((∃ i j, x = .int i ∧ y = .int j ∧ Q (.bl (n ^^ decide (i = j)))) ∨ (∃ i j, x = .str i ∧ y = .str j ∧ Q (.bl (n ^^ decide (i = j)))) ∨ (∃ i j, x = .bl i ∧ y = .bl j ∧ Q (.bl (n ^^ decide (i = j))))) := rfl
theorem r_oeqD {x y : W} {Q : W → Prop} {n : Bool} : ((XO.eqD n).f x y Q) = ((x.sq = true ∧ y.sq = true ∧ Pl 60 x ∧ Pl 60 y ∧ Q (.bl (n ^^ decide (x = y)))) ∨ ∃ al bl, x = .arm al ∧ y = .arm bl ∧ Q (.bl (n ^^ decide (al = bl)))) := rfl
theorem r_parN {φ : Fr} {κ : Ko} {is : List Nat} {x : XAN} : ((XS.parN is x).f φ κ) = ((φ.m = none ∧ is.length ≤ 100000) ∧ is.Nodup ∧ (∀ i ∈ is, i < φ.s.length) ∧ x.f φ.s fun p q => is.length = p.length + 1 + q.length ∧ κ.nx ⟨setAll is (p.map some ++ none :: q.map some) φ.s, some (is.getD p.length 0, .lst [])⟩) := rfl
theorem r_wS0 {ρ : Sl} : (wS ρ []) = (ρ) := rfl
theorem r_wS1 {ρ : Sl} {i : Nat} {is : List Nat} : (wS ρ (i :: is)) = ((wS ρ is).set i none) := rfl
theorem r_sA {ρ : Sl} {i : Nat} {is : List Nat} {w : Option W} {ws : List (Option W)} : (setAll (i :: is) (w :: ws) ρ) = (setAll is ws (ρ.set i w)) := rfl
theorem r_eqR {al : List (Int × Int)} : (W.eqr true (.rig al)) = (True) := rfl
theorem r_eqM {ns : List Int} : (W.eqr false (.mem ns)) = (True) := rfl
theorem r_eqTR {xs : List W} : (W.eqr true (.tup xs)) = (Pl 60 (.tup xs)) := rfl
theorem r_eqTM {xs : List W} : (W.eqr false (.tup xs)) = (Pl 60 (.tup xs)) := rfl
theorem r_sA0 {ρ : Sl} {ws : List (Option W)} : setAll [] ws ρ = ρ := by cases ws <;> rfl
theorem is_N_int  : W.isT .non (.ty "int") = some false := (show L2.kitB "NoneType" "int" = some false by decide +kernel)
theorem is_N_bool  : W.isT .non (.ty "bool") = some false := (show L2.kitB "NoneType" "bool" = some false by decide +kernel)
theorem is_N_str  : W.isT .non (.ty "str") = some false := (show L2.kitB "NoneType" "str" = some false by decide +kernel)
theorem is_N_list  : W.isT .non (.ty "list") = some false := (show L2.kitB "NoneType" "list" = some false by decide +kernel)
theorem is_N_tuple  : W.isT .non (.ty "tuple") = some false := (show L2.kitB "NoneType" "tuple" = some false by decide +kernel)
theorem is_N_dict  : W.isT .non (.ty "dict") = some false := (show L2.kitB "NoneType" "dict" = some false by decide +kernel)
theorem is_B_int {b : Bool} : W.isT (.bl b) (.ty "int") = some true := (show L2.kitB "bool" "int" = some true by decide +kernel)
theorem is_B_bool {b : Bool} : W.isT (.bl b) (.ty "bool") = some true := (show L2.kitB "bool" "bool" = some true by decide +kernel)
theorem is_B_str {b : Bool} : W.isT (.bl b) (.ty "str") = some false := (show L2.kitB "bool" "str" = some false by decide +kernel)
theorem is_B_list {b : Bool} : W.isT (.bl b) (.ty "list") = some false := (show L2.kitB "bool" "list" = some false by decide +kernel)
theorem is_B_tuple {b : Bool} : W.isT (.bl b) (.ty "tuple") = some false := (show L2.kitB "bool" "tuple" = some false by decide +kernel)
theorem is_B_dict {b : Bool} : W.isT (.bl b) (.ty "dict") = some false := (show L2.kitB "bool" "dict" = some false by decide +kernel)
theorem is_I_int {i : Int} : W.isT (.int i) (.ty "int") = some true := (show L2.kitB "int" "int" = some true by decide +kernel)
theorem is_I_bool {i : Int} : W.isT (.int i) (.ty "bool") = some false := (show L2.kitB "int" "bool" = some false by decide +kernel)
theorem is_I_str {i : Int} : W.isT (.int i) (.ty "str") = some false := (show L2.kitB "int" "str" = some false by decide +kernel)
theorem is_I_list {i : Int} : W.isT (.int i) (.ty "list") = some false := (show L2.kitB "int" "list" = some false by decide +kernel)
theorem is_I_tuple {i : Int} : W.isT (.int i) (.ty "tuple") = some false := (show L2.kitB "int" "tuple" = some false by decide +kernel)
theorem is_I_dict {i : Int} : W.isT (.int i) (.ty "dict") = some false := (show L2.kitB "int" "dict" = some false by decide +kernel)
theorem is_S_int {s : Str} : W.isT (.str s) (.ty "int") = some false := (show L2.kitB "str" "int" = some false by decide +kernel)
theorem is_S_bool {s : Str} : W.isT (.str s) (.ty "bool") = some false := (show L2.kitB "str" "bool" = some false by decide +kernel)
theorem is_S_str {s : Str} : W.isT (.str s) (.ty "str") = some true := (show L2.kitB "str" "str" = some true by decide +kernel)
theorem is_S_list {s : Str} : W.isT (.str s) (.ty "list") = some false := (show L2.kitB "str" "list" = some false by decide +kernel)
theorem is_S_tuple {s : Str} : W.isT (.str s) (.ty "tuple") = some false := (show L2.kitB "str" "tuple" = some false by decide +kernel)
theorem is_S_dict {s : Str} : W.isT (.str s) (.ty "dict") = some false := (show L2.kitB "str" "dict" = some false by decide +kernel)
theorem is_L_int {xs : List W} : W.isT (.lst xs) (.ty "int") = some false := (show L2.kitB "list" "int" = some false by decide +kernel)
theorem is_L_bool {xs : List W} : W.isT (.lst xs) (.ty "bool") = some false := (show L2.kitB "list" "bool" = some false by decide +kernel)
theorem is_L_str {xs : List W} : W.isT (.lst xs) (.ty "str") = some false := (show L2.kitB "list" "str" = some false by decide +kernel)
theorem is_L_list {xs : List W} : W.isT (.lst xs) (.ty "list") = some true := (show L2.kitB "list" "list" = some true by decide +kernel)
theorem is_L_tuple {xs : List W} : W.isT (.lst xs) (.ty "tuple") = some false := (show L2.kitB "list" "tuple" = some false by decide +kernel)
theorem is_L_dict {xs : List W} : W.isT (.lst xs) (.ty "dict") = some false := (show L2.kitB "list" "dict" = some false by decide +kernel)
theorem is_T_int {xs : List W} : W.isT (.tup xs) (.ty "int") = some false := (show L2.kitB "tuple" "int" = some false by decide +kernel)
theorem is_T_bool {xs : List W} : W.isT (.tup xs) (.ty "bool") = some false := (show L2.kitB "tuple" "bool" = some false by decide +kernel)
theorem is_T_str {xs : List W} : W.isT (.tup xs) (.ty "str") = some false := (show L2.kitB "tuple" "str" = some false by decide +kernel)
theorem is_T_list {xs : List W} : W.isT (.tup xs) (.ty "list") = some false := (show L2.kitB "tuple" "list" = some false by decide +kernel)
theorem is_T_tuple {xs : List W} : W.isT (.tup xs) (.ty "tuple") = some true := (show L2.kitB "tuple" "tuple" = some true by decide +kernel)
theorem is_T_dict {xs : List W} : W.isT (.tup xs) (.ty "dict") = some false := (show L2.kitB "tuple" "dict" = some false by decide +kernel)
theorem is_rR {al : List (Int × Int)} : W.isT (.rig al) (.cls true) = some true := rfl
theorem is_tR {xs : List W} : W.isT (.tup xs) (.cls true) = some false := rfl
/-! places of short tuples, names of trees -/
section
variable {α : Type _} {a b c d : α} {r : List α}
theorem r_at0 : atI (a :: r) 0 = some a := atI_nat (j := 0) rfl
theorem r_at1 : atI (a :: b :: r) 1 = some b := atI_nat (j := 1) rfl
theorem r_at2 : atI (a :: b :: c :: r) 2 = some c := atI_nat (j := 2) rfl
theorem r_at3 : atI (a :: b :: c :: d :: r) 3 = some d := atI_nat (j := 3) rfl
end
theorem tg01 : ((("rod" : Str) = "*") = False) := eq_false (by decide)
theorem tg02 : ((("rod" : Str) = "neg") = False) := eq_false (by decide)
theorem tg03 : ((("rod" : Str) = "+") = False) := eq_false (by decide)
theorem tg04 : ((("rod" : Str) = "-") = False) := eq_false (by decide)
theorem tg05 : ((("rod" : Str) = ">>") = False) := eq_false (by decide)
theorem tg10 : ((("*" : Str) = "rod") = False) := eq_false (by decide)
theorem tg12 : ((("*" : Str) = "neg") = False) := eq_false (by decide)
theorem tg13 : ((("*" : Str) = "+") = False) := eq_false (by decide)
theorem tg14 : ((("*" : Str) = "-") = False) := eq_false (by decide)
theorem tg15 : ((("*" : Str) = ">>") = False) := eq_false (by decide)
theorem tg20 : ((("neg" : Str) = "rod") = False) := eq_false (by decide)
theorem tg21 : ((("neg" : Str) = "*") = False) := eq_false (by decide)
theorem tg23 : ((("neg" : Str) = "+") = False) := eq_false (by decide)
theorem tg24 : ((("neg" : Str) = "-") = False) := eq_false (by decide)
theorem tg25 : ((("neg" : Str) = ">>") = False) := eq_false (by decide)
theorem tg30 : ((("+" : Str) = "rod") = False) := eq_false (by decide)
theorem tg31 : ((("+" : Str) = "*") = False) := eq_false (by decide)
theorem tg32 : ((("+" : Str) = "neg") = False) := eq_false (by decide)
theorem tg34 : ((("+" : Str) = "-") = False) := eq_false (by decide)
theorem tg35 : ((("+" : Str) = ">>") = False) := eq_false (by decide)
theorem tg40 : ((("-" : Str) = "rod") = False) := eq_false (by decide)
theorem tg41 : ((("-" : Str) = "*") = False) := eq_false (by decide)
theorem tg42 : ((("-" : Str) = "neg") = False) := eq_false (by decide)
theorem tg43 : ((("-" : Str) = "+") = False) := eq_false (by decide)
theorem tg45 : ((("-" : Str) = ">>") = False) := eq_false (by decide)
theorem tg50 : (((">>" : Str) = "rod") = False) := eq_false (by decide)
theorem tg51 : (((">>" : Str) = "*") = False) := eq_false (by decide)
theorem tg52 : (((">>" : Str) = "neg") = False) := eq_false (by decide)
theorem tg53 : (((">>" : Str) = "+") = False) := eq_false (by decide)
theorem tg54 : (((">>" : Str) = "-") = False) := eq_false (by decide)
/-! comprehensions and loops, the simple ones -/
section
variable {ws : List W} {g : XG} {t : XT} {e : XE} {ρ : Sl} {Q : W → Prop}
theorem comp_map (f : Nat → W) (hs : ∀ i w, ws[i]? = some w → g.f w ρ fun ρ' => t.f ρ' fun b => (b = true → e.f ρ' fun y => y = f i) ∧ (b = false → False)) (hd : Q (.lst ((List.range ws.length).map f))) : CompI ws g t e ρ Q := by
  refine ⟨fun i acc => acc = (List.range i).map f, rfl, fun i w acc hw ha => ?_, fun acc h => by rw [h]; exact hd⟩
  refine g.m (fun ρ' z => t.m (fun b y => ⟨fun hb => e.m (fun v hv => ?_) (y.1 hb), fun hb => (y.2 hb).elim⟩) z) (hs i w hw)
  have ha' : acc = (List.range i).map f := ha
  show acc ++ [v] = (List.range (i + 1)).map f
  rw [ha', hv, List.range_succ, List.map_append]; rfl
theorem comp_ints (f : Nat → Int) (hs : ∀ i w, ws[i]? = some w → g.f w ρ fun ρ' => t.f ρ' fun b => (b = true → e.f ρ' fun y => y = .int (f i)) ∧ (b = false → False)) (hd : Q (.lst (((List.range ws.length).map f).map .int))) : CompI ws g t e ρ Q :=
  comp_map (fun i => .int (f i)) hs (by rw [List.map_map] at hd; exact hd)
/-- some are left out -/
theorem comp_flt (p : Nat → Bool) (f : Nat → W) (hs : ∀ i w, ws[i]? = some w → g.f w ρ fun ρ' => t.f ρ' fun b => b = p i ∧ (b = true → e.f ρ' fun y => y = f i)) (hd : Q (.lst (((List.range ws.length).filter p).map f))) : CompI ws g t e ρ Q := by
  refine ⟨fun i acc => acc = ((List.range i).filter p).map f, rfl, fun i w acc hw ha => ?_, fun acc h => by rw [h]; exact hd⟩
  refine g.m (fun ρ' z => t.m (fun b y => ⟨fun hb => e.m (fun v hv => ?_) (y.2 hb), fun hb => ?_⟩) z) (hs i w hw)
  · have ha' : acc = ((List.range i).filter p).map f := ha
    show acc ++ [v] = ((List.range (i + 1)).filter p).map f
    rw [ha', hv, List.range_succ, List.filter_append, List.map_append]
    have : p i = true := by rw [← y.1, hb]
    simp [this]
  · have ha' : acc = ((List.range i).filter p).map f := ha
    show acc = ((List.range (i + 1)).filter p).map f
    rw [ha', List.range_succ, List.filter_append, List.map_append]
    have : p i = false := by rw [← y.1, hb]
    simp [this]
theorem rgW_at {lo : Int} {n i : Nat} {w : W} (h : (rgW lo n)[i]? = some w) : i < n ∧ w = .int (lo + (i : Int)) := rgW_get h
theorem zipW_at {xs ys : List W} {i : Nat} {w : W} (h : (zipW xs ys)[i]? = some w) : ∃ x y, xs[i]? = some x ∧ ys[i]? = some y ∧ w = .tup [x, y] := by
  unfold zipW at h
  rw [List.getElem?_map] at h
  cases hz : (xs.zip ys)[i]? with
  | none => rw [hz] at h; cases h
  | some pr =>
    rw [hz] at h
    obtain ⟨a, b⟩ := List.getElem?_zip_eq_some.mp hz
    exact ⟨_, _, a, b, (Option.some.inj h).symm⟩
theorem zipW_len {xs ys : List W} : (zipW xs ys).length = min xs.length ys.length := by unfold zipW; rw [List.length_map, List.length_zip]
theorem enumW_at {xs : List W} {i : Nat} {w : W} (h : (enumW xs)[i]? = some w) : ∃ x, xs[i]? = some x ∧ w = .tup [.int (i : Int), x] := by
  unfold enumW at h
  rw [List.getElem?_map, List.getElem?_zipIdx] at h
  cases e : xs[i]? with
  | none => rw [e] at h; cases h
  | some x => rw [e] at h; refine ⟨x, rfl, ?_⟩; have := Option.some.inj h; simpa using this.symm
theorem enumW_len {xs : List W} : (enumW xs).length = xs.length := by unfold enumW; rw [List.length_map, List.length_zipIdx]
theorem mapW_at {ns : List Int} {i : Nat} {w : W} (h : (ns.map W.int)[i]? = some w) : ∃ x, ns[i]? = some x ∧ w = .int x := by
  rw [List.getElem?_map] at h
  cases e : ns[i]? with
  | none => rw [e] at h; cases h
  | some x => rw [e] at h; exact ⟨x, rfl, (Option.some.inj h).symm⟩
theorem arW_at {al : List (Int × Int)} {i : Nat} {w : W} (h : (arW al)[i]? = some w) : ∃ a, al[i]? = some a ∧ w = .tup [.int a.1, .int a.2] := by
  rw [List.getElem?_map] at h
  cases e : al[i]? with
  | none => rw [e] at h; cases h
  | some x => rw [e] at h; exact ⟨x, rfl, (Option.some.inj h).symm⟩
end

end Z

namespace Z
open PySem L2
/-! ### names from a list -/
def XG.lst (r : XGs) : XG := ⟨fun w ρ Q => ∃ xs, w = .lst xs ∧ r.f xs ρ Q, fun k ⟨xs, e, q⟩ => ⟨xs, e, r.m k q⟩, r.vs⟩
/-! ### a run from the top down -/
theorem br {b : Bool} {X Y : Prop} : ((b = true → X) ∧ (b = false → Y)) = (if b = true then X else Y) := by cases b <;> simp
theorem br' {b : Bool} {X Y : Prop} : ((b = false → Y) ∧ (b = true → X)) = (if b = true then X else Y) := by cases b <;> simp
theorem ite_and {c : Prop} [Decidable c] {X Y : Prop} : (if c then X else Y) = ((c → X) ∧ (¬c → Y)) := by by_cases h : c <;> simp [h]
def onS (ρ : Sl) (i : Nat) (Q : W → Prop) : Prop := ∃ w, ρ[i]? = some (some w) ∧ Q w
def setC (ρ : Sl) (i : Nat) (o : Option W) (S : Sl → Prop) : Prop := S (ρ.set i o)
def on1 (ws : List W) (P : W → Prop) : Prop := ∃ x, ws = [x] ∧ P x
def on2 (ws : List W) (P : W → W → Prop) : Prop := ∃ x y, ws = [x, y] ∧ P x y
def on3 (ws : List W) (P : W → W → W → Prop) : Prop := ∃ x y z, ws = [x, y, z] ∧ P x y z
def onI (x : W) (P : Int → Prop) : Prop := ∃ i, x = .int i ∧ P i
def onB (x : W) (P : Bool → Prop) : Prop := ∃ i, x = .bl i ∧ P i
def onStr (x : W) (P : Str → Prop) : Prop := ∃ i, x = .str i ∧ P i
def onT (x : W) (P : List W → Prop) : Prop := ∃ i, x = .tup i ∧ P i
def onL (x : W) (P : List W → Prop) : Prop := ∃ i, x = .lst i ∧ P i
def onA (x : W) (P : List (Int × Int) → Prop) : Prop := ∃ i, x = .arm i ∧ P i
def onR (x : W) (P : List (Int × Int) → Prop) : Prop := ∃ i, x = .rig i ∧ P i
def onM (x : W) (P : List Int → Prop) : Prop := ∃ i, x = .mem i ∧ P i
def onD (x : W) (P : List (Int × Int) → Prop) : Prop := ∃ i, x = .dct i ∧ P i
def onScr (x : W) (P : List Int → Prop) : Prop := ∃ i, x = .scr i ∧ P i
def onTy (x : W) (P : String → Prop) : Prop := ∃ i, x = .ty i ∧ P i
def onIs (x : W) (P : List Int → Prop) : Prop := ∃ ns : List Int, x = .lst (ns.map .int) ∧ P ns
def onIsT (x : W) (P : List Int → Prop) : Prop := ∃ ns : List Int, x = .tup (ns.map .int) ∧ P ns
def onAr (x : W) (P : List (Int × Int) → Prop) : Prop := ∃ al, x = .lst (arW al) ∧ P al
def onAt (xs : List W) (i : Int) (Q : W → Prop) : Prop := ∃ w, atI xs i = some w ∧ Q w
def sqC (x : W) (P : Prop) : Prop := x.sq = true ∧ P
def flC (x : W) (P : Prop) : Prop := x.flat = true ∧ P
def isC (k : Bool) (x : W) (P : Prop) : Prop := x.is k ∧ P
def eqC (k : Bool) (x : W) (P : Prop) : Prop := x.eqr k ∧ P
def itLC (x : W) (P : List W → Prop) : Prop := ∃ xs, x.itL = some xs ∧ P xs
def itTC (x : W) (P : List W → Prop) : Prop := ∃ xs, x.itT = some xs ∧ P xs
def truC (x : W) (P : Bool → Prop) : Prop := ∃ b, x.tru = some b ∧ P b
def isTC (x t : W) (P : Bool → Prop) : Prop := ∃ r, x.isT t = some r ∧ P r
def wipeC (ρ : Sl) (vs : List Nat) (S : Sl → Prop) : Prop := S (wS ρ vs)
theorem onS_0 {ρ : Sl} {Q : W → Prop} {w : W} : (onS (some w :: ρ) 0 Q) = (Q w) := propext ⟨fun ⟨u, e, q⟩ => by cases e; exact q, fun q => ⟨w, rfl, q⟩⟩
theorem onS_n {ρ : Sl} {Q : W → Prop} : (onS (none :: ρ) 0 Q) = (False) := propext ⟨fun ⟨u, e, q⟩ => (by cases e), False.elim⟩
theorem onS_s {ρ : Sl} {Q : W → Prop} {o : Option W} {i : Nat} : (onS (o :: ρ) (i + 1) Q) = (onS ρ i Q) := rfl
theorem setC_0 {ρ : Sl} {S : Sl → Prop} {o u : Option W} : (setC (u :: ρ) 0 o S) = (S (o :: ρ)) := rfl
theorem setC_s {ρ : Sl} {S : Sl → Prop} {o u : Option W} {i : Nat} : (setC (u :: ρ) (i + 1) o S) = (setC ρ i o fun ρ' => S (u :: ρ')) := rfl
theorem on1_c {P : W → Prop} {a : W} : (on1 [a] P) = (P a) := propext ⟨fun ⟨x, e, p⟩ => (by cases e; exact p), fun p => ⟨a, rfl, p⟩⟩
theorem on2_c {P : W → W → Prop} {a b : W} : (on2 [a, b] P) = (P a b) := propext ⟨fun ⟨x, y, e, p⟩ => (by cases e; exact p), fun p => ⟨a, b, rfl, p⟩⟩
theorem on3_c {P : W → W → W → Prop} {a b c : W} : (on3 [a, b, c] P) = (P a b c) := propext ⟨fun ⟨x, y, z, e, p⟩ => (by cases e; exact p), fun p => ⟨a, b, c, rfl, p⟩⟩
theorem on1_2 {P : W → Prop} {a b : W} {r : List W} : (on1 (a :: b :: r) P) = (False) := propext ⟨fun ⟨x, e, p⟩ => (by cases e), False.elim⟩
theorem on2_1 {P : W → W → Prop} {a : W} : (on2 [a] P) = (False) := propext ⟨fun ⟨x, y, e, p⟩ => (by cases e), False.elim⟩
theorem onI_non  {P : Int → Prop} : (onI (.non) P) = (False) := propext ⟨fun ⟨x, e, p⟩ => (by cases e), False.elim⟩
theorem onI_bl {b : Bool} {P : Int → Prop} : (onI (.bl b) P) = (False) := propext ⟨fun ⟨x, e, p⟩ => (by cases e), False.elim⟩
theorem onI_int {i : Int} {P : Int → Prop} : (onI (.int i) P) = (P i) := propext ⟨fun ⟨x, e, p⟩ => (by cases e; exact p), fun p => ⟨_, rfl, p⟩⟩
theorem onI_str {s : Str} {P : Int → Prop} : (onI (.str s) P) = (False) := propext ⟨fun ⟨x, e, p⟩ => (by cases e), False.elim⟩
theorem onI_lst {xs : List W} {P : Int → Prop} : (onI (.lst xs) P) = (False) := propext ⟨fun ⟨x, e, p⟩ => (by cases e), False.elim⟩
theorem onI_tup {xs : List W} {P : Int → Prop} : (onI (.tup xs) P) = (False) := propext ⟨fun ⟨x, e, p⟩ => (by cases e), False.elim⟩
theorem onI_rig {al : List (Int × Int)} {P : Int → Prop} : (onI (.rig al) P) = (False) := propext ⟨fun ⟨x, e, p⟩ => (by cases e), False.elim⟩
theorem onI_arm {al : List (Int × Int)} {P : Int → Prop} : (onI (.arm al) P) = (False) := propext ⟨fun ⟨x, e, p⟩ => (by cases e), False.elim⟩
theorem onI_mem {ns : List Int} {P : Int → Prop} : (onI (.mem ns) P) = (False) := propext ⟨fun ⟨x, e, p⟩ => (by cases e), False.elim⟩
theorem onI_scr {ns : List Int} {P : Int → Prop} : (onI (.scr ns) P) = (False) := propext ⟨fun ⟨x, e, p⟩ => (by cases e), False.elim⟩
theorem onI_dct {al : List (Int × Int)} {P : Int → Prop} : (onI (.dct al) P) = (False) := propext ⟨fun ⟨x, e, p⟩ => (by cases e), False.elim⟩
theorem onI_src  {P : Int → Prop} : (onI (.src) P) = (False) := propext ⟨fun ⟨x, e, p⟩ => (by cases e), False.elim⟩
theorem onB_non  {P : Bool → Prop} : (onB (.non) P) = (False) := propext ⟨fun ⟨x, e, p⟩ => (by cases e), False.elim⟩
theorem onB_bl {b : Bool} {P : Bool → Prop} : (onB (.bl b) P) = (P b) := propext ⟨fun ⟨x, e, p⟩ => (by cases e; exact p), fun p => ⟨_, rfl, p⟩⟩
theorem onB_int {i : Int} {P : Bool → Prop} : (onB (.int i) P) = (False) := propext ⟨fun ⟨x, e, p⟩ => (by cases e), False.elim⟩
theorem onB_str {s : Str} {P : Bool → Prop} : (onB (.str s) P) = (False) := propext ⟨fun ⟨x, e, p⟩ => (by cases e), False.elim⟩
theorem onB_lst {xs : List W} {P : Bool → Prop} : (onB (.lst xs) P) = (False) := propext ⟨fun ⟨x, e, p⟩ => (by cases e), False.elim⟩
theorem onB_tup {xs : List W} {P : Bool → Prop} : (onB (.tup xs) P) = (False) := propext ⟨fun ⟨x, e, p⟩ => (by cases e), False.elim⟩
theorem onB_rig {al : List (Int × Int)} {P : Bool → Prop} : (onB (.rig al) P) = (False) := propext ⟨fun ⟨x, e, p⟩ => (by cases e), False.elim⟩
theorem onB_arm {al : List (Int × Int)} {P : Bool → Prop} : (onB (.arm al) P) = (False) := propext ⟨fun ⟨x, e, p⟩ => (by cases e), False.elim⟩
theorem onB_mem {ns : List Int} {P : Bool → Prop} : (onB (.mem ns) P) = (False) := propext ⟨fun ⟨x, e, p⟩ => (by cases e), False.elim⟩
theorem onB_scr {ns : List Int} {P : Bool → Prop} : (onB (.scr ns) P) = (False) := propext ⟨fun ⟨x, e, p⟩ => (by cases e), False.elim⟩
theorem onB_dct {al : List (Int × Int)} {P : Bool → Prop} : (onB (.dct al) P) = (False) := propext ⟨fun ⟨x, e, p⟩ => (by cases e), False.elim⟩
theorem onB_src  {P : Bool → Prop} : (onB (.src) P) = (False) := propext ⟨fun ⟨x, e, p⟩ => (by cases e), False.elim⟩
theorem onStr_non  {P : Str → Prop} : (onStr (.non) P) = (False) := propext ⟨fun ⟨x, e, p⟩ => (by cases e), False.elim⟩
theorem onStr_bl {b : Bool} {P : Str → Prop} : (onStr (.bl b) P) = (False) := propext ⟨fun ⟨x, e, p⟩ => (by cases e), False.elim⟩
theorem onStr_int {i : Int} {P : Str → Prop} : (onStr (.int i) P) = (False) := propext ⟨fun ⟨x, e, p⟩ => (by cases e), False.elim⟩
theorem onStr_str {s : Str} {P : Str → Prop} : (onStr (.str s) P) = (P s) := propext ⟨fun ⟨x, e, p⟩ => (by cases e; exact p), fun p => ⟨_, rfl, p⟩⟩
theorem onStr_lst {xs : List W} {P : Str → Prop} : (onStr (.lst xs) P) = (False) := propext ⟨fun ⟨x, e, p⟩ => (by cases e), False.elim⟩
theorem onStr_tup {xs : List W} {P : Str → Prop} : (onStr (.tup xs) P) = (False) := propext ⟨fun ⟨x, e, p⟩ => (by cases e), False.elim⟩
theorem onStr_rig {al : List (Int × Int)} {P : Str → Prop} : (onStr (.rig al) P) = (False) := propext ⟨fun ⟨x, e, p⟩ => (by cases e), False.elim⟩
theorem onStr_arm {al : List (Int × Int)} {P : Str → Prop} : (onStr (.arm al) P) = (False) := propext ⟨fun ⟨x, e, p⟩ => (by cases e), False.elim⟩
theorem onStr_mem {ns : List Int} {P : Str → Prop} : (onStr (.mem ns) P) = (False) := propext ⟨fun ⟨x, e, p⟩ => (by cases e), False.elim⟩
theorem onStr_scr {ns : List Int} {P : Str → Prop} : (onStr (.scr ns) P) = (False) := propext ⟨fun ⟨x, e, p⟩ => (by cases e), False.elim⟩
theorem onStr_dct {al : List (Int × Int)} {P : Str → Prop} : (onStr (.dct al) P) = (False) := propext ⟨fun ⟨x, e, p⟩ => (by cases e), False.elim⟩
theorem onStr_src  {P : Str → Prop} : (onStr (.src) P) = (False) := propext ⟨fun ⟨x, e, p⟩ => (by cases e), False.elim⟩
theorem onT_non  {P : List W → Prop} : (onT (.non) P) = (False) := propext ⟨fun ⟨x, e, p⟩ => (by cases e), False.elim⟩
theorem onT_bl {b : Bool} {P : List W → Prop} : (onT (.bl b) P) = (False) := propext ⟨fun ⟨x, e, p⟩ => (by cases e), False.elim⟩
theorem onT_int {i : Int} {P : List W → Prop} : (onT (.int i) P) = (False) := propext ⟨fun ⟨x, e, p⟩ => (by cases e), False.elim⟩
theorem onT_str {s : Str} {P : List W → Prop} : (onT (.str s) P) = (False) := propext ⟨fun ⟨x, e, p⟩ => (by cases e), False.elim⟩
theorem onT_lst {xs : List W} {P : List W → Prop} : (onT (.lst xs) P) = (False) := propext ⟨fun ⟨x, e, p⟩ => (by cases e), False.elim⟩
theorem onT_tup {xs : List W} {P : List W → Prop} : (onT (.tup xs) P) = (P xs) := propext ⟨fun ⟨x, e, p⟩ => (by cases e; exact p), fun p => ⟨_, rfl, p⟩⟩
theorem onT_rig {al : List (Int × Int)} {P : List W → Prop} : (onT (.rig al) P) = (False) := propext ⟨fun ⟨x, e, p⟩ => (by cases e), False.elim⟩
theorem onT_arm {al : List (Int × Int)} {P : List W → Prop} : (onT (.arm al) P) = (False) := propext ⟨fun ⟨x, e, p⟩ => (by cases e), False.elim⟩
theorem onT_mem {ns : List Int} {P : List W → Prop} : (onT (.mem ns) P) = (False) := propext ⟨fun ⟨x, e, p⟩ => (by cases e), False.elim⟩
theorem onT_scr {ns : List Int} {P : List W → Prop} : (onT (.scr ns) P) = (False) := propext ⟨fun ⟨x, e, p⟩ => (by cases e), False.elim⟩
theorem onT_dct {al : List (Int × Int)} {P : List W → Prop} : (onT (.dct al) P) = (False) := propext ⟨fun ⟨x, e, p⟩ => (by cases e), False.elim⟩
theorem onT_src  {P : List W → Prop} : (onT (.src) P) = (False) := propext ⟨fun ⟨x, e, p⟩ => (by cases e), False.elim⟩
theorem onL_non  {P : List W → Prop} : (onL (.non) P) = (False) := propext ⟨fun ⟨x, e, p⟩ => (by cases e), False.elim⟩
theorem onL_bl {b : Bool} {P : List W → Prop} : (onL (.bl b) P) = (False) := propext ⟨fun ⟨x, e, p⟩ => (by cases e), False.elim⟩
theorem onL_int {i : Int} {P : List W → Prop} : (onL (.int i) P) = (False) := propext ⟨fun ⟨x, e, p⟩ => (by cases e), False.elim⟩
theorem onL_str {s : Str} {P : List W → Prop} : (onL (.str s) P) = (False) := propext ⟨fun ⟨x, e, p⟩ => (by cases e), False.elim⟩
theorem onL_lst {xs : List W} {P : List W → Prop} : (onL (.lst xs) P) = (P xs) := propext ⟨fun ⟨x, e, p⟩ => (by cases e; exact p), fun p => ⟨_, rfl, p⟩⟩
theorem onL_tup {xs : List W} {P : List W → Prop} : (onL (.tup xs) P) = (False) := propext ⟨fun ⟨x, e, p⟩ => (by cases e), False.elim⟩
theorem onL_rig {al : List (Int × Int)} {P : List W → Prop} : (onL (.rig al) P) = (False) := propext ⟨fun ⟨x, e, p⟩ => (by cases e), False.elim⟩
theorem onL_arm {al : List (Int × Int)} {P : List W → Prop} : (onL (.arm al) P) = (False) := propext ⟨fun ⟨x, e, p⟩ => (by cases e), False.elim⟩
theorem onL_mem {ns : List Int} {P : List W → Prop} : (onL (.mem ns) P) = (False) := propext ⟨fun ⟨x, e, p⟩ => (by cases e), False.elim⟩
theorem onL_scr {ns : List Int} {P : List W → Prop} : (onL (.scr ns) P) = (False) := propext ⟨fun ⟨x, e, p⟩ => (by cases e), False.elim⟩
theorem onL_dct {al : List (Int × Int)} {P : List W → Prop} : (onL (.dct al) P) = (False) := propext ⟨fun ⟨x, e, p⟩ => (by cases e), False.elim⟩
theorem onL_src  {P : List W → Prop} : (onL (.src) P) = (False) := propext ⟨fun ⟨x, e, p⟩ => (by cases e), False.elim⟩
theorem onA_non  {P : List (Int × Int) → Prop} : (onA (.non) P) = (False) := propext ⟨fun ⟨x, e, p⟩ => (by cases e), False.elim⟩
theorem onA_bl {b : Bool} {P : List (Int × Int) → Prop} : (onA (.bl b) P) = (False) := propext ⟨fun ⟨x, e, p⟩ => (by cases e), False.elim⟩
theorem onA_int {i : Int} {P : List (Int × Int) → Prop} : (onA (.int i) P) = (False) := propext ⟨fun ⟨x, e, p⟩ => (by cases e), False.elim⟩
theorem onA_str {s : Str} {P : List (Int × Int) → Prop} : (onA (.str s) P) = (False) := propext ⟨fun ⟨x, e, p⟩ => (by cases e), False.elim⟩
theorem onA_lst {xs : List W} {P : List (Int × Int) → Prop} : (onA (.lst xs) P) = (False) := propext ⟨fun ⟨x, e, p⟩ => (by cases e), False.elim⟩
theorem onA_tup {xs : List W} {P : List (Int × Int) → Prop} : (onA (.tup xs) P) = (False) := propext ⟨fun ⟨x, e, p⟩ => (by cases e), False.elim⟩
theorem onA_rig {al : List (Int × Int)} {P : List (Int × Int) → Prop} : (onA (.rig al) P) = (False) := propext ⟨fun ⟨x, e, p⟩ => (by cases e), False.elim⟩
theorem onA_arm {al : List (Int × Int)} {P : List (Int × Int) → Prop} : (onA (.arm al) P) = (P al) := propext ⟨fun ⟨x, e, p⟩ => (by cases e; exact p), fun p => ⟨_, rfl, p⟩⟩
theorem onA_mem {ns : List Int} {P : List (Int × Int) → Prop} : (onA (.mem ns) P) = (False) := propext ⟨fun ⟨x, e, p⟩ => (by cases e), False.elim⟩
theorem onA_scr {ns : List Int} {P : List (Int × Int) → Prop} : (onA (.scr ns) P) = (False) := propext ⟨fun ⟨x, e, p⟩ => (by cases e), False.elim⟩
theorem onA_dct {al : List (Int × Int)} {P : List (Int × Int) → Prop} : (onA (.dct al) P) = (False) := propext ⟨fun ⟨x, e, p⟩ => (by cases e), False.elim⟩
theorem onA_src  {P : List (Int × Int) → Prop} : (onA (.src) P) = (False) := propext ⟨fun ⟨x, e, p⟩ => (by cases e), False.elim⟩
theorem onR_non  {P : List (Int × Int) → Prop} : (onR (.non) P) = (False) := propext ⟨fun ⟨x, e, p⟩ => (by cases e), False.elim⟩
theorem onR_bl {b : Bool} {P : List (Int × Int) → Prop} : (onR (.bl b) P) = (False) := propext ⟨fun ⟨x, e, p⟩ => (by cases e), False.elim⟩
theorem onR_int {i : Int} {P : List (Int × Int) → Prop} : (onR (.int i) P) = (False) := propext ⟨fun ⟨x, e, p⟩ => (by cases e), False.elim⟩
theorem onR_str {s : Str} {P : List (Int × Int) → Prop} : (onR (.str s) P) = (False) := propext ⟨fun ⟨x, e, p⟩ => (by cases e), False.elim⟩
theorem onR_lst {xs : List W} {P : List (Int × Int) → Prop} : (onR (.lst xs) P) = (False) := propext ⟨fun ⟨x, e, p⟩ => (by cases e), False.elim⟩
theorem onR_tup {xs : List W} {P : List (Int × Int) → Prop} : (onR (.tup xs) P) = (False) := propext ⟨fun ⟨x, e, p⟩ => (by cases e), False.elim⟩
theorem onR_rig {al : List (Int × Int)} {P : List (Int × Int) → Prop} : (onR (.rig al) P) = (P al) := propext ⟨fun ⟨x, e, p⟩ => (by cases e; exact p), fun p => ⟨_, rfl, p⟩⟩
theorem onR_arm {al : List (Int × Int)} {P : List (Int × Int) → Prop} : (onR (.arm al) P) = (False) := propext ⟨fun ⟨x, e, p⟩ => (by cases e), False.elim⟩
theorem onR_mem {ns : List Int} {P : List (Int × Int) → Prop} : (onR (.mem ns) P) = (False) := propext ⟨fun ⟨x, e, p⟩ => (by cases e), False.elim⟩
theorem onR_scr {ns : List Int} {P : List (Int × Int) → Prop} : (onR (.scr ns) P) = (False) := propext ⟨fun ⟨x, e, p⟩ => (by cases e), False.elim⟩
theorem onR_dct {al : List (Int × Int)} {P : List (Int × Int) → Prop} : (onR (.dct al) P) = (False) := propext ⟨fun ⟨x, e, p⟩ => (by cases e), False.elim⟩
theorem onR_src  {P : List (Int × Int) → Prop} : (onR (.src) P) = (False) := propext ⟨fun ⟨x, e, p⟩ => (by cases e), False.elim⟩
theorem onM_non  {P : List Int → Prop} : (onM (.non) P) = (False) := propext ⟨fun ⟨x, e, p⟩ => (by cases e), False.elim⟩
theorem onM_bl {b : Bool} {P : List Int → Prop} : (onM (.bl b) P) = (False) := propext ⟨fun ⟨x, e, p⟩ => (by cases e), False.elim⟩
theorem onM_int {i : Int} {P : List Int → Prop} : (onM (.int i) P) = (False) := propext ⟨fun ⟨x, e, p⟩ => (by cases e), False.elim⟩
theorem onM_str {s : Str} {P : List Int → Prop} : (onM (.str s) P) = (False) := propext ⟨fun ⟨x, e, p⟩ => (by cases e), False.elim⟩
theorem onM_lst {xs : List W} {P : List Int → Prop} : (onM (.lst xs) P) = (False) := propext ⟨fun ⟨x, e, p⟩ => (by cases e), False.elim⟩
theorem onM_tup {xs : List W} {P : List Int → Prop} : (onM (.tup xs) P) = (False) := propext ⟨fun ⟨x, e, p⟩ => (by cases e), False.elim⟩
theorem onM_rig {al : List (Int × Int)} {P : List Int → Prop} : (onM (.rig al) P) = (False) := propext ⟨fun ⟨x, e, p⟩ => (by cases e), False.elim⟩
theorem onM_arm {al : List (Int × Int)} {P : List Int → Prop} : (onM (.arm al) P) = (False) := propext ⟨fun ⟨x, e, p⟩ => (by cases e), False.elim⟩
theorem onM_mem {ns : List Int} {P : List Int → Prop} : (onM (.mem ns) P) = (P ns) := propext ⟨fun ⟨x, e, p⟩ => (by cases e; exact p), fun p => ⟨_, rfl, p⟩⟩
theorem onM_scr {ns : List Int} {P : List Int → Prop} : (onM (.scr ns) P) = (False) := propext ⟨fun ⟨x, e, p⟩ => (by cases e), False.elim⟩
theorem onM_dct {al : List (Int × Int)} {P : List Int → Prop} : (onM (.dct al) P) = (False) := propext ⟨fun ⟨x, e, p⟩ => (by cases e), False.elim⟩
theorem onM_src  {P : List Int → Prop} : (onM (.src) P) = (False) := propext ⟨fun ⟨x, e, p⟩ => (by cases e), False.elim⟩
theorem onD_non  {P : List (Int × Int) → Prop} : (onD (.non) P) = (False) := propext ⟨fun ⟨x, e, p⟩ => (by cases e), False.elim⟩
theorem onD_bl {b : Bool} {P : List (Int × Int) → Prop} : (onD (.bl b) P) = (False) := propext ⟨fun ⟨x, e, p⟩ => (by cases e), False.elim⟩
theorem onD_int {i : Int} {P : List (Int × Int) → Prop} : (onD (.int i) P) = (False) := propext ⟨fun ⟨x, e, p⟩ => (by cases e), False.elim⟩
theorem onD_str {s : Str} {P : List (Int × Int) → Prop} : (onD (.str s) P) = (False) := propext ⟨fun ⟨x, e, p⟩ => (by cases e), False.elim⟩
theorem onD_lst {xs : List W} {P : List (Int × Int) → Prop} : (onD (.lst xs) P) = (False) := propext ⟨fun ⟨x, e, p⟩ => (by cases e), False.elim⟩
theorem onD_tup {xs : List W} {P : List (Int × Int) → Prop} : (onD (.tup xs) P) = (False) := propext ⟨fun ⟨x, e, p⟩ => (by cases e), False.elim⟩
theorem onD_rig {al : List (Int × Int)} {P : List (Int × Int) → Prop} : (onD (.rig al) P) = (False) := propext ⟨fun ⟨x, e, p⟩ => (by cases e), False.elim⟩
theorem onD_arm {al : List (Int × Int)} {P : List (Int × Int) → Prop} : (onD (.arm al) P) = (False) := propext ⟨fun ⟨x, e, p⟩ => (by cases e), False.elim⟩
theorem onD_mem {ns : List Int} {P : List (Int × Int) → Prop} : (onD (.mem ns) P) = (False) := propext ⟨fun ⟨x, e, p⟩ => (by cases e), False.elim⟩
theorem onD_scr {ns : List Int} {P : List (Int × Int) → Prop} : (onD (.scr ns) P) = (False) := propext ⟨fun ⟨x, e, p⟩ => (by cases e), False.elim⟩
theorem onD_dct {al : List (Int × Int)} {P : List (Int × Int) → Prop} : (onD (.dct al) P) = (P al) := propext ⟨fun ⟨x, e, p⟩ => (by cases e; exact p), fun p => ⟨_, rfl, p⟩⟩
theorem onD_src  {P : List (Int × Int) → Prop} : (onD (.src) P) = (False) := propext ⟨fun ⟨x, e, p⟩ => (by cases e), False.elim⟩
theorem onScr_non  {P : List Int → Prop} : (onScr (.non) P) = (False) := propext ⟨fun ⟨x, e, p⟩ => (by cases e), False.elim⟩
theorem onScr_bl {b : Bool} {P : List Int → Prop} : (onScr (.bl b) P) = (False) := propext ⟨fun ⟨x, e, p⟩ => (by cases e), False.elim⟩
theorem onScr_int {i : Int} {P : List Int → Prop} : (onScr (.int i) P) = (False) := propext ⟨fun ⟨x, e, p⟩ => (by cases e), False.elim⟩
theorem onScr_str {s : Str} {P : List Int → Prop} : (onScr (.str s) P) = (False) := propext ⟨fun ⟨x, e, p⟩ => (by cases e), False.elim⟩
theorem onScr_lst {xs : List W} {P : List Int → Prop} : (onScr (.lst xs) P) = (False) := propext ⟨fun ⟨x, e, p⟩ => (by cases e), False.elim⟩
theorem onScr_tup {xs : List W} {P : List Int → Prop} : (onScr (.tup xs) P) = (False) := propext ⟨fun ⟨x, e, p⟩ => (by cases e), False.elim⟩
theorem onScr_rig {al : List (Int × Int)} {P : List Int → Prop} : (onScr (.rig al) P) = (False) := propext ⟨fun ⟨x, e, p⟩ => (by cases e), False.elim⟩
theorem onScr_arm {al : List (Int × Int)} {P : List Int → Prop} : (onScr (.arm al) P) = (False) := propext ⟨fun ⟨x, e, p⟩ => (by cases e), False.elim⟩
theorem onScr_mem {ns : List Int} {P : List Int → Prop} : (onScr (.mem ns) P) = (False) := propext ⟨fun ⟨x, e, p⟩ => (by cases e), False.elim⟩
theorem onScr_scr {ns : List Int} {P : List Int → Prop} : (onScr (.scr ns) P) = (P ns) := propext ⟨fun ⟨x, e, p⟩ => (by cases e; exact p), fun p => ⟨_, rfl, p⟩⟩
theorem onScr_dct {al : List (Int × Int)} {P : List Int → Prop} : (onScr (.dct al) P) = (False) := propext ⟨fun ⟨x, e, p⟩ => (by cases e), False.elim⟩
theorem onScr_src  {P : List Int → Prop} : (onScr (.src) P) = (False) := propext ⟨fun ⟨x, e, p⟩ => (by cases e), False.elim⟩
theorem onIs_non  {P : List Int → Prop} : (onIs (.non) P) = (False) := propext ⟨fun ⟨x, e, p⟩ => (by cases e), False.elim⟩
theorem onAr_non  {P : List (Int × Int) → Prop} : (onAr (.non) P) = (False) := propext ⟨fun ⟨x, e, p⟩ => (by cases e), False.elim⟩
theorem onIsT_non  {P : List Int → Prop} : (onIsT (.non) P) = (False) := propext ⟨fun ⟨x, e, p⟩ => (by cases e), False.elim⟩
theorem itLC_non  {P : List W → Prop} : (itLC (.non) P) = (False) := propext ⟨fun ⟨x, e, p⟩ => (by cases e), False.elim⟩
theorem itTC_non  {P : List W → Prop} : (itTC (.non) P) = (False) := propext ⟨fun ⟨x, e, p⟩ => (by cases e), False.elim⟩
theorem truC_non  {P : Bool → Prop} : (truC (.non) P) = (P false) := propext ⟨fun ⟨x, e, p⟩ => (by cases e; exact p), fun p => ⟨_, rfl, p⟩⟩
theorem sqC_non  {P : Prop} : (sqC (.non) P) = (False) := propext ⟨fun p => (by cases p.1), False.elim⟩
theorem flC_non  {P : Prop} : (flC (.non) P) = (P) := propext ⟨fun p => p.2, fun p => ⟨rfl, p⟩⟩
theorem isC_true_non  {P : Prop} : (isC true (.non) P) = (False) := propext ⟨fun p => p.1.elim, False.elim⟩
theorem eqC_true_non  {P : Prop} : (eqC true (.non) P) = (False) := propext ⟨fun p => p.1.elim, False.elim⟩
theorem isC_false_non  {P : Prop} : (isC false (.non) P) = (False) := propext ⟨fun p => p.1.elim, False.elim⟩
theorem eqC_false_non  {P : Prop} : (eqC false (.non) P) = (False) := propext ⟨fun p => p.1.elim, False.elim⟩
theorem onIs_bl {b : Bool} {P : List Int → Prop} : (onIs (.bl b) P) = (False) := propext ⟨fun ⟨x, e, p⟩ => (by cases e), False.elim⟩
theorem onAr_bl {b : Bool} {P : List (Int × Int) → Prop} : (onAr (.bl b) P) = (False) := propext ⟨fun ⟨x, e, p⟩ => (by cases e), False.elim⟩
theorem onIsT_bl {b : Bool} {P : List Int → Prop} : (onIsT (.bl b) P) = (False) := propext ⟨fun ⟨x, e, p⟩ => (by cases e), False.elim⟩
theorem itLC_bl {b : Bool} {P : List W → Prop} : (itLC (.bl b) P) = (False) := propext ⟨fun ⟨x, e, p⟩ => (by cases e), False.elim⟩
theorem itTC_bl {b : Bool} {P : List W → Prop} : (itTC (.bl b) P) = (False) := propext ⟨fun ⟨x, e, p⟩ => (by cases e), False.elim⟩
theorem truC_bl {b : Bool} {P : Bool → Prop} : (truC (.bl b) P) = (P b) := propext ⟨fun ⟨x, e, p⟩ => (by cases e; exact p), fun p => ⟨_, rfl, p⟩⟩
theorem sqC_bl {b : Bool} {P : Prop} : (sqC (.bl b) P) = (False) := propext ⟨fun p => (by cases p.1), False.elim⟩
theorem flC_bl {b : Bool} {P : Prop} : (flC (.bl b) P) = (P) := propext ⟨fun p => p.2, fun p => ⟨rfl, p⟩⟩
theorem isC_true_bl {b : Bool} {P : Prop} : (isC true (.bl b) P) = (False) := propext ⟨fun p => p.1.elim, False.elim⟩
theorem eqC_true_bl {b : Bool} {P : Prop} : (eqC true (.bl b) P) = (False) := propext ⟨fun p => p.1.elim, False.elim⟩
theorem isC_false_bl {b : Bool} {P : Prop} : (isC false (.bl b) P) = (False) := propext ⟨fun p => p.1.elim, False.elim⟩
theorem eqC_false_bl {b : Bool} {P : Prop} : (eqC false (.bl b) P) = (False) := propext ⟨fun p => p.1.elim, False.elim⟩
theorem onIs_int {i : Int} {P : List Int → Prop} : (onIs (.int i) P) = (False) := propext ⟨fun ⟨x, e, p⟩ => (by cases e), False.elim⟩
theorem onAr_int {i : Int} {P : List (Int × Int) → Prop} : (onAr (.int i) P) = (False) := propext ⟨fun ⟨x, e, p⟩ => (by cases e), False.elim⟩
theorem onIsT_int {i : Int} {P : List Int → Prop} : (onIsT (.int i) P) = (False) := propext ⟨fun ⟨x, e, p⟩ => (by cases e), False.elim⟩
theorem itLC_int {i : Int} {P : List W → Prop} : (itLC (.int i) P) = (False) := propext ⟨fun ⟨x, e, p⟩ => (by cases e), False.elim⟩
theorem itTC_int {i : Int} {P : List W → Prop} : (itTC (.int i) P) = (False) := propext ⟨fun ⟨x, e, p⟩ => (by cases e), False.elim⟩
theorem truC_int {i : Int} {P : Bool → Prop} : (truC (.int i) P) = (P (decide (i ≠ 0))) := propext ⟨fun ⟨x, e, p⟩ => (by cases e; exact p), fun p => ⟨_, rfl, p⟩⟩
theorem sqC_int {i : Int} {P : Prop} : (sqC (.int i) P) = (False) := propext ⟨fun p => (by cases p.1), False.elim⟩
theorem flC_int {i : Int} {P : Prop} : (flC (.int i) P) = (P) := propext ⟨fun p => p.2, fun p => ⟨rfl, p⟩⟩
theorem isC_true_int {i : Int} {P : Prop} : (isC true (.int i) P) = (False) := propext ⟨fun p => p.1.elim, False.elim⟩
theorem eqC_true_int {i : Int} {P : Prop} : (eqC true (.int i) P) = (False) := propext ⟨fun p => p.1.elim, False.elim⟩
theorem isC_false_int {i : Int} {P : Prop} : (isC false (.int i) P) = (False) := propext ⟨fun p => p.1.elim, False.elim⟩
theorem eqC_false_int {i : Int} {P : Prop} : (eqC false (.int i) P) = (False) := propext ⟨fun p => p.1.elim, False.elim⟩
theorem onIs_str {s : Str} {P : List Int → Prop} : (onIs (.str s) P) = (False) := propext ⟨fun ⟨x, e, p⟩ => (by cases e), False.elim⟩
theorem onAr_str {s : Str} {P : List (Int × Int) → Prop} : (onAr (.str s) P) = (False) := propext ⟨fun ⟨x, e, p⟩ => (by cases e), False.elim⟩
theorem onIsT_str {s : Str} {P : List Int → Prop} : (onIsT (.str s) P) = (False) := propext ⟨fun ⟨x, e, p⟩ => (by cases e), False.elim⟩
theorem itLC_str {s : Str} {P : List W → Prop} : (itLC (.str s) P) = (False) := propext ⟨fun ⟨x, e, p⟩ => (by cases e), False.elim⟩
theorem itTC_str {s : Str} {P : List W → Prop} : (itTC (.str s) P) = (False) := propext ⟨fun ⟨x, e, p⟩ => (by cases e), False.elim⟩
theorem truC_str {s : Str} {P : Bool → Prop} : (truC (.str s) P) = (False) := propext ⟨fun ⟨x, e, p⟩ => (by cases e), False.elim⟩
theorem sqC_str {s : Str} {P : Prop} : (sqC (.str s) P) = (False) := propext ⟨fun p => (by cases p.1), False.elim⟩
theorem flC_str {s : Str} {P : Prop} : (flC (.str s) P) = (P) := propext ⟨fun p => p.2, fun p => ⟨rfl, p⟩⟩
theorem isC_true_str {s : Str} {P : Prop} : (isC true (.str s) P) = (False) := propext ⟨fun p => p.1.elim, False.elim⟩
theorem eqC_true_str {s : Str} {P : Prop} : (eqC true (.str s) P) = (False) := propext ⟨fun p => p.1.elim, False.elim⟩
theorem isC_false_str {s : Str} {P : Prop} : (isC false (.str s) P) = (False) := propext ⟨fun p => p.1.elim, False.elim⟩
theorem eqC_false_str {s : Str} {P : Prop} : (eqC false (.str s) P) = (False) := propext ⟨fun p => p.1.elim, False.elim⟩
theorem onIsT_lst {xs : List W} {P : List Int → Prop} : (onIsT (.lst xs) P) = (False) := propext ⟨fun ⟨x, e, p⟩ => (by cases e), False.elim⟩
theorem itLC_lst {xs : List W} {P : List W → Prop} : (itLC (.lst xs) P) = (P xs) := propext ⟨fun ⟨x, e, p⟩ => (by cases e; exact p), fun p => ⟨_, rfl, p⟩⟩
theorem itTC_lst {xs : List W} {P : List W → Prop} : (itTC (.lst xs) P) = (False) := propext ⟨fun ⟨x, e, p⟩ => (by cases e), False.elim⟩
theorem truC_lst {xs : List W} {P : Bool → Prop} : (truC (.lst xs) P) = (P (!xs.isEmpty)) := propext ⟨fun ⟨x, e, p⟩ => (by cases e; exact p), fun p => ⟨_, rfl, p⟩⟩
theorem sqC_lst {xs : List W} {P : Prop} : (sqC (.lst xs) P) = (P) := propext ⟨fun p => p.2, fun p => ⟨rfl, p⟩⟩
theorem flC_lst {xs : List W} {P : Prop} : (flC (.lst xs) P) = (False) := propext ⟨fun p => (by cases p.1), False.elim⟩
theorem isC_true_lst {xs : List W} {P : Prop} : (isC true (.lst xs) P) = (False) := propext ⟨fun p => p.1.elim, False.elim⟩
theorem eqC_true_lst {xs : List W} {P : Prop} : (eqC true (.lst xs) P) = (False) := propext ⟨fun p => p.1.elim, False.elim⟩
theorem isC_false_lst {xs : List W} {P : Prop} : (isC false (.lst xs) P) = (False) := propext ⟨fun p => p.1.elim, False.elim⟩
theorem eqC_false_lst {xs : List W} {P : Prop} : (eqC false (.lst xs) P) = (False) := propext ⟨fun p => p.1.elim, False.elim⟩
theorem onIs_tup {xs : List W} {P : List Int → Prop} : (onIs (.tup xs) P) = (False) := propext ⟨fun ⟨x, e, p⟩ => (by cases e), False.elim⟩
theorem onAr_tup {xs : List W} {P : List (Int × Int) → Prop} : (onAr (.tup xs) P) = (False) := propext ⟨fun ⟨x, e, p⟩ => (by cases e), False.elim⟩
theorem itLC_tup {xs : List W} {P : List W → Prop} : (itLC (.tup xs) P) = (False) := propext ⟨fun ⟨x, e, p⟩ => (by cases e), False.elim⟩
theorem itTC_tup {xs : List W} {P : List W → Prop} : (itTC (.tup xs) P) = (P xs) := propext ⟨fun ⟨x, e, p⟩ => (by cases e; exact p), fun p => ⟨_, rfl, p⟩⟩
theorem truC_tup {xs : List W} {P : Bool → Prop} : (truC (.tup xs) P) = (P (!xs.isEmpty)) := propext ⟨fun ⟨x, e, p⟩ => (by cases e; exact p), fun p => ⟨_, rfl, p⟩⟩
theorem sqC_tup {xs : List W} {P : Prop} : (sqC (.tup xs) P) = (P) := propext ⟨fun p => p.2, fun p => ⟨rfl, p⟩⟩
theorem flC_tup {xs : List W} {P : Prop} : (flC (.tup xs) P) = (False) := propext ⟨fun p => (by cases p.1), False.elim⟩
theorem isC_true_tup {xs : List W} {P : Prop} : (isC true (.tup xs) P) = (False) := propext ⟨fun p => p.1.elim, False.elim⟩
theorem isC_false_tup {xs : List W} {P : Prop} : (isC false (.tup xs) P) = (False) := propext ⟨fun p => p.1.elim, False.elim⟩
theorem onIs_rig {al : List (Int × Int)} {P : List Int → Prop} : (onIs (.rig al) P) = (False) := propext ⟨fun ⟨x, e, p⟩ => (by cases e), False.elim⟩
theorem onAr_rig {al : List (Int × Int)} {P : List (Int × Int) → Prop} : (onAr (.rig al) P) = (False) := propext ⟨fun ⟨x, e, p⟩ => (by cases e), False.elim⟩
theorem onIsT_rig {al : List (Int × Int)} {P : List Int → Prop} : (onIsT (.rig al) P) = (False) := propext ⟨fun ⟨x, e, p⟩ => (by cases e), False.elim⟩
theorem itLC_rig {al : List (Int × Int)} {P : List W → Prop} : (itLC (.rig al) P) = (False) := propext ⟨fun ⟨x, e, p⟩ => (by cases e), False.elim⟩
theorem itTC_rig {al : List (Int × Int)} {P : List W → Prop} : (itTC (.rig al) P) = (False) := propext ⟨fun ⟨x, e, p⟩ => (by cases e), False.elim⟩
theorem truC_rig {al : List (Int × Int)} {P : Bool → Prop} : (truC (.rig al) P) = (False) := propext ⟨fun ⟨x, e, p⟩ => (by cases e), False.elim⟩
theorem sqC_rig {al : List (Int × Int)} {P : Prop} : (sqC (.rig al) P) = (False) := propext ⟨fun p => (by cases p.1), False.elim⟩
theorem flC_rig {al : List (Int × Int)} {P : Prop} : (flC (.rig al) P) = (False) := propext ⟨fun p => (by cases p.1), False.elim⟩
theorem isC_true_rig {al : List (Int × Int)} {P : Prop} : (isC true (.rig al) P) = (P) := propext ⟨fun p => p.2, fun p => ⟨trivial, p⟩⟩
theorem eqC_true_rig {al : List (Int × Int)} {P : Prop} : (eqC true (.rig al) P) = (P) := propext ⟨fun p => p.2, fun p => ⟨trivial, p⟩⟩
theorem isC_false_rig {al : List (Int × Int)} {P : Prop} : (isC false (.rig al) P) = (False) := propext ⟨fun p => p.1.elim, False.elim⟩
theorem eqC_false_rig {al : List (Int × Int)} {P : Prop} : (eqC false (.rig al) P) = (False) := propext ⟨fun p => p.1.elim, False.elim⟩
theorem onIs_arm {al : List (Int × Int)} {P : List Int → Prop} : (onIs (.arm al) P) = (False) := propext ⟨fun ⟨x, e, p⟩ => (by cases e), False.elim⟩
theorem onAr_arm {al : List (Int × Int)} {P : List (Int × Int) → Prop} : (onAr (.arm al) P) = (False) := propext ⟨fun ⟨x, e, p⟩ => (by cases e), False.elim⟩
theorem onIsT_arm {al : List (Int × Int)} {P : List Int → Prop} : (onIsT (.arm al) P) = (False) := propext ⟨fun ⟨x, e, p⟩ => (by cases e), False.elim⟩
theorem itLC_arm {al : List (Int × Int)} {P : List W → Prop} : (itLC (.arm al) P) = (False) := propext ⟨fun ⟨x, e, p⟩ => (by cases e), False.elim⟩
theorem itTC_arm {al : List (Int × Int)} {P : List W → Prop} : (itTC (.arm al) P) = (P (arW al)) := propext ⟨fun ⟨x, e, p⟩ => (by cases e; exact p), fun p => ⟨_, rfl, p⟩⟩
theorem truC_arm {al : List (Int × Int)} {P : Bool → Prop} : (truC (.arm al) P) = (P (!al.isEmpty)) := propext ⟨fun ⟨x, e, p⟩ => (by cases e; exact p), fun p => ⟨_, rfl, p⟩⟩
theorem sqC_arm {al : List (Int × Int)} {P : Prop} : (sqC (.arm al) P) = (False) := propext ⟨fun p => (by cases p.1), False.elim⟩
theorem flC_arm {al : List (Int × Int)} {P : Prop} : (flC (.arm al) P) = (False) := propext ⟨fun p => (by cases p.1), False.elim⟩
theorem isC_true_arm {al : List (Int × Int)} {P : Prop} : (isC true (.arm al) P) = (False) := propext ⟨fun p => p.1.elim, False.elim⟩
theorem eqC_true_arm {al : List (Int × Int)} {P : Prop} : (eqC true (.arm al) P) = (False) := propext ⟨fun p => p.1.elim, False.elim⟩
theorem isC_false_arm {al : List (Int × Int)} {P : Prop} : (isC false (.arm al) P) = (False) := propext ⟨fun p => p.1.elim, False.elim⟩
theorem eqC_false_arm {al : List (Int × Int)} {P : Prop} : (eqC false (.arm al) P) = (False) := propext ⟨fun p => p.1.elim, False.elim⟩
theorem onIs_mem {ns : List Int} {P : List Int → Prop} : (onIs (.mem ns) P) = (False) := propext ⟨fun ⟨x, e, p⟩ => (by cases e), False.elim⟩
theorem onAr_mem {ns : List Int} {P : List (Int × Int) → Prop} : (onAr (.mem ns) P) = (False) := propext ⟨fun ⟨x, e, p⟩ => (by cases e), False.elim⟩
theorem onIsT_mem {ns : List Int} {P : List Int → Prop} : (onIsT (.mem ns) P) = (False) := propext ⟨fun ⟨x, e, p⟩ => (by cases e), False.elim⟩
theorem itLC_mem {ns : List Int} {P : List W → Prop} : (itLC (.mem ns) P) = (False) := propext ⟨fun ⟨x, e, p⟩ => (by cases e), False.elim⟩
theorem itTC_mem {ns : List Int} {P : List W → Prop} : (itTC (.mem ns) P) = (False) := propext ⟨fun ⟨x, e, p⟩ => (by cases e), False.elim⟩
theorem truC_mem {ns : List Int} {P : Bool → Prop} : (truC (.mem ns) P) = (False) := propext ⟨fun ⟨x, e, p⟩ => (by cases e), False.elim⟩
theorem sqC_mem {ns : List Int} {P : Prop} : (sqC (.mem ns) P) = (False) := propext ⟨fun p => (by cases p.1), False.elim⟩
theorem flC_mem {ns : List Int} {P : Prop} : (flC (.mem ns) P) = (False) := propext ⟨fun p => (by cases p.1), False.elim⟩
theorem isC_true_mem {ns : List Int} {P : Prop} : (isC true (.mem ns) P) = (False) := propext ⟨fun p => p.1.elim, False.elim⟩
theorem eqC_true_mem {ns : List Int} {P : Prop} : (eqC true (.mem ns) P) = (False) := propext ⟨fun p => p.1.elim, False.elim⟩
theorem isC_false_mem {ns : List Int} {P : Prop} : (isC false (.mem ns) P) = (P) := propext ⟨fun p => p.2, fun p => ⟨trivial, p⟩⟩
theorem eqC_false_mem {ns : List Int} {P : Prop} : (eqC false (.mem ns) P) = (P) := propext ⟨fun p => p.2, fun p => ⟨trivial, p⟩⟩
theorem onIs_scr {ns : List Int} {P : List Int → Prop} : (onIs (.scr ns) P) = (False) := propext ⟨fun ⟨x, e, p⟩ => (by cases e), False.elim⟩
theorem onAr_scr {ns : List Int} {P : List (Int × Int) → Prop} : (onAr (.scr ns) P) = (False) := propext ⟨fun ⟨x, e, p⟩ => (by cases e), False.elim⟩
theorem onIsT_scr {ns : List Int} {P : List Int → Prop} : (onIsT (.scr ns) P) = (False) := propext ⟨fun ⟨x, e, p⟩ => (by cases e), False.elim⟩
theorem itLC_scr {ns : List Int} {P : List W → Prop} : (itLC (.scr ns) P) = (P (ns.map .int)) := propext ⟨fun ⟨x, e, p⟩ => (by cases e; exact p), fun p => ⟨_, rfl, p⟩⟩
theorem itTC_scr {ns : List Int} {P : List W → Prop} : (itTC (.scr ns) P) = (False) := propext ⟨fun ⟨x, e, p⟩ => (by cases e), False.elim⟩
theorem truC_scr {ns : List Int} {P : Bool → Prop} : (truC (.scr ns) P) = (False) := propext ⟨fun ⟨x, e, p⟩ => (by cases e), False.elim⟩
theorem sqC_scr {ns : List Int} {P : Prop} : (sqC (.scr ns) P) = (False) := propext ⟨fun p => (by cases p.1), False.elim⟩
theorem flC_scr {ns : List Int} {P : Prop} : (flC (.scr ns) P) = (False) := propext ⟨fun p => (by cases p.1), False.elim⟩
theorem isC_true_scr {ns : List Int} {P : Prop} : (isC true (.scr ns) P) = (False) := propext ⟨fun p => p.1.elim, False.elim⟩
theorem eqC_true_scr {ns : List Int} {P : Prop} : (eqC true (.scr ns) P) = (False) := propext ⟨fun p => p.1.elim, False.elim⟩
theorem isC_false_scr {ns : List Int} {P : Prop} : (isC false (.scr ns) P) = (False) := propext ⟨fun p => p.1.elim, False.elim⟩
theorem eqC_false_scr {ns : List Int} {P : Prop} : (eqC false (.scr ns) P) = (False) := propext ⟨fun p => p.1.elim, False.elim⟩
theorem onIs_dct {al : List (Int × Int)} {P : List Int → Prop} : (onIs (.dct al) P) = (False) := propext ⟨fun ⟨x, e, p⟩ => (by cases e), False.elim⟩
theorem onAr_dct {al : List (Int × Int)} {P : List (Int × Int) → Prop} : (onAr (.dct al) P) = (False) := propext ⟨fun ⟨x, e, p⟩ => (by cases e), False.elim⟩
theorem onIsT_dct {al : List (Int × Int)} {P : List Int → Prop} : (onIsT (.dct al) P) = (False) := propext ⟨fun ⟨x, e, p⟩ => (by cases e), False.elim⟩
theorem itLC_dct {al : List (Int × Int)} {P : List W → Prop} : (itLC (.dct al) P) = (False) := propext ⟨fun ⟨x, e, p⟩ => (by cases e), False.elim⟩
theorem itTC_dct {al : List (Int × Int)} {P : List W → Prop} : (itTC (.dct al) P) = (False) := propext ⟨fun ⟨x, e, p⟩ => (by cases e), False.elim⟩
theorem truC_dct {al : List (Int × Int)} {P : Bool → Prop} : (truC (.dct al) P) = (False) := propext ⟨fun ⟨x, e, p⟩ => (by cases e), False.elim⟩
theorem sqC_dct {al : List (Int × Int)} {P : Prop} : (sqC (.dct al) P) = (False) := propext ⟨fun p => (by cases p.1), False.elim⟩
theorem flC_dct {al : List (Int × Int)} {P : Prop} : (flC (.dct al) P) = (False) := propext ⟨fun p => (by cases p.1), False.elim⟩
theorem isC_true_dct {al : List (Int × Int)} {P : Prop} : (isC true (.dct al) P) = (False) := propext ⟨fun p => p.1.elim, False.elim⟩
theorem eqC_true_dct {al : List (Int × Int)} {P : Prop} : (eqC true (.dct al) P) = (False) := propext ⟨fun p => p.1.elim, False.elim⟩
theorem isC_false_dct {al : List (Int × Int)} {P : Prop} : (isC false (.dct al) P) = (False) := propext ⟨fun p => p.1.elim, False.elim⟩
theorem eqC_false_dct {al : List (Int × Int)} {P : Prop} : (eqC false (.dct al) P) = (False) := propext ⟨fun p => p.1.elim, False.elim⟩
theorem onIs_src  {P : List Int → Prop} : (onIs (.src) P) = (False) := propext ⟨fun ⟨x, e, p⟩ => (by cases e), False.elim⟩
theorem onAr_src  {P : List (Int × Int) → Prop} : (onAr (.src) P) = (False) := propext ⟨fun ⟨x, e, p⟩ => (by cases e), False.elim⟩
theorem onIsT_src  {P : List Int → Prop} : (onIsT (.src) P) = (False) := propext ⟨fun ⟨x, e, p⟩ => (by cases e), False.elim⟩
theorem itLC_src  {P : List W → Prop} : (itLC (.src) P) = (False) := propext ⟨fun ⟨x, e, p⟩ => (by cases e), False.elim⟩
theorem itTC_src  {P : List W → Prop} : (itTC (.src) P) = (False) := propext ⟨fun ⟨x, e, p⟩ => (by cases e), False.elim⟩
theorem truC_src  {P : Bool → Prop} : (truC (.src) P) = (False) := propext ⟨fun ⟨x, e, p⟩ => (by cases e), False.elim⟩
theorem sqC_src  {P : Prop} : (sqC (.src) P) = (False) := propext ⟨fun p => (by cases p.1), False.elim⟩
theorem flC_src  {P : Prop} : (flC (.src) P) = (False) := propext ⟨fun p => (by cases p.1), False.elim⟩
theorem isC_true_src  {P : Prop} : (isC true (.src) P) = (False) := propext ⟨fun p => p.1.elim, False.elim⟩
theorem eqC_true_src  {P : Prop} : (eqC true (.src) P) = (False) := propext ⟨fun p => p.1.elim, False.elim⟩
theorem isC_false_src  {P : Prop} : (isC false (.src) P) = (False) := propext ⟨fun p => p.1.elim, False.elim⟩
theorem eqC_false_src  {P : Prop} : (eqC false (.src) P) = (False) := propext ⟨fun p => p.1.elim, False.elim⟩
theorem isTC_non_int  {P : Bool → Prop} : (isTC (.non) (.ty "int") P) = (P false) := propext ⟨fun ⟨x, e, p⟩ => by rw [is_N_int] at e; cases e; exact p, fun p => ⟨_, is_N_int, p⟩⟩
theorem isTC_non_bool  {P : Bool → Prop} : (isTC (.non) (.ty "bool") P) = (P false) := propext ⟨fun ⟨x, e, p⟩ => by rw [is_N_bool] at e; cases e; exact p, fun p => ⟨_, is_N_bool, p⟩⟩
theorem isTC_non_str  {P : Bool → Prop} : (isTC (.non) (.ty "str") P) = (P false) := propext ⟨fun ⟨x, e, p⟩ => by rw [is_N_str] at e; cases e; exact p, fun p => ⟨_, is_N_str, p⟩⟩
theorem isTC_non_list  {P : Bool → Prop} : (isTC (.non) (.ty "list") P) = (P false) := propext ⟨fun ⟨x, e, p⟩ => by rw [is_N_list] at e; cases e; exact p, fun p => ⟨_, is_N_list, p⟩⟩
theorem isTC_non_tuple  {P : Bool → Prop} : (isTC (.non) (.ty "tuple") P) = (P false) := propext ⟨fun ⟨x, e, p⟩ => by rw [is_N_tuple] at e; cases e; exact p, fun p => ⟨_, is_N_tuple, p⟩⟩
theorem isTC_non_dict  {P : Bool → Prop} : (isTC (.non) (.ty "dict") P) = (P false) := propext ⟨fun ⟨x, e, p⟩ => by rw [is_N_dict] at e; cases e; exact p, fun p => ⟨_, is_N_dict, p⟩⟩
theorem isTC_bl_int {b : Bool} {P : Bool → Prop} : (isTC (.bl b) (.ty "int") P) = (P true) := propext ⟨fun ⟨x, e, p⟩ => by rw [is_B_int] at e; cases e; exact p, fun p => ⟨_, is_B_int, p⟩⟩
theorem isTC_bl_bool {b : Bool} {P : Bool → Prop} : (isTC (.bl b) (.ty "bool") P) = (P true) := propext ⟨fun ⟨x, e, p⟩ => by rw [is_B_bool] at e; cases e; exact p, fun p => ⟨_, is_B_bool, p⟩⟩
theorem isTC_bl_str {b : Bool} {P : Bool → Prop} : (isTC (.bl b) (.ty "str") P) = (P false) := propext ⟨fun ⟨x, e, p⟩ => by rw [is_B_str] at e; cases e; exact p, fun p => ⟨_, is_B_str, p⟩⟩
theorem isTC_bl_list {b : Bool} {P : Bool → Prop} : (isTC (.bl b) (.ty "list") P) = (P false) := propext ⟨fun ⟨x, e, p⟩ => by rw [is_B_list] at e; cases e; exact p, fun p => ⟨_, is_B_list, p⟩⟩
theorem isTC_bl_tuple {b : Bool} {P : Bool → Prop} : (isTC (.bl b) (.ty "tuple") P) = (P false) := propext ⟨fun ⟨x, e, p⟩ => by rw [is_B_tuple] at e; cases e; exact p, fun p => ⟨_, is_B_tuple, p⟩⟩
theorem isTC_bl_dict {b : Bool} {P : Bool → Prop} : (isTC (.bl b) (.ty "dict") P) = (P false) := propext ⟨fun ⟨x, e, p⟩ => by rw [is_B_dict] at e; cases e; exact p, fun p => ⟨_, is_B_dict, p⟩⟩
theorem isTC_int_int {i : Int} {P : Bool → Prop} : (isTC (.int i) (.ty "int") P) = (P true) := propext ⟨fun ⟨x, e, p⟩ => by rw [is_I_int] at e; cases e; exact p, fun p => ⟨_, is_I_int, p⟩⟩
theorem isTC_int_bool {i : Int} {P : Bool → Prop} : (isTC (.int i) (.ty "bool") P) = (P false) := propext ⟨fun ⟨x, e, p⟩ => by rw [is_I_bool] at e; cases e; exact p, fun p => ⟨_, is_I_bool, p⟩⟩
theorem isTC_int_str {i : Int} {P : Bool → Prop} : (isTC (.int i) (.ty "str") P) = (P false) := propext ⟨fun ⟨x, e, p⟩ => by rw [is_I_str] at e; cases e; exact p, fun p => ⟨_, is_I_str, p⟩⟩
theorem isTC_int_list {i : Int} {P : Bool → Prop} : (isTC (.int i) (.ty "list") P) = (P false) := propext ⟨fun ⟨x, e, p⟩ => by rw [is_I_list] at e; cases e; exact p, fun p => ⟨_, is_I_list, p⟩⟩
theorem isTC_int_tuple {i : Int} {P : Bool → Prop} : (isTC (.int i) (.ty "tuple") P) = (P false) := propext ⟨fun ⟨x, e, p⟩ => by rw [is_I_tuple] at e; cases e; exact p, fun p => ⟨_, is_I_tuple, p⟩⟩
theorem isTC_int_dict {i : Int} {P : Bool → Prop} : (isTC (.int i) (.ty "dict") P) = (P false) := propext ⟨fun ⟨x, e, p⟩ => by rw [is_I_dict] at e; cases e; exact p, fun p => ⟨_, is_I_dict, p⟩⟩
theorem isTC_str_int {s : Str} {P : Bool → Prop} : (isTC (.str s) (.ty "int") P) = (P false) := propext ⟨fun ⟨x, e, p⟩ => by rw [is_S_int] at e; cases e; exact p, fun p => ⟨_, is_S_int, p⟩⟩
theorem isTC_str_bool {s : Str} {P : Bool → Prop} : (isTC (.str s) (.ty "bool") P) = (P false) := propext ⟨fun ⟨x, e, p⟩ => by rw [is_S_bool] at e; cases e; exact p, fun p => ⟨_, is_S_bool, p⟩⟩
theorem isTC_str_str {s : Str} {P : Bool → Prop} : (isTC (.str s) (.ty "str") P) = (P true) := propext ⟨fun ⟨x, e, p⟩ => by rw [is_S_str] at e; cases e; exact p, fun p => ⟨_, is_S_str, p⟩⟩
theorem isTC_str_list {s : Str} {P : Bool → Prop} : (isTC (.str s) (.ty "list") P) = (P false) := propext ⟨fun ⟨x, e, p⟩ => by rw [is_S_list] at e; cases e; exact p, fun p => ⟨_, is_S_list, p⟩⟩
theorem isTC_str_tuple {s : Str} {P : Bool → Prop} : (isTC (.str s) (.ty "tuple") P) = (P false) := propext ⟨fun ⟨x, e, p⟩ => by rw [is_S_tuple] at e; cases e; exact p, fun p => ⟨_, is_S_tuple, p⟩⟩
theorem isTC_str_dict {s : Str} {P : Bool → Prop} : (isTC (.str s) (.ty "dict") P) = (P false) := propext ⟨fun ⟨x, e, p⟩ => by rw [is_S_dict] at e; cases e; exact p, fun p => ⟨_, is_S_dict, p⟩⟩
theorem isTC_lst_int {xs : List W} {P : Bool → Prop} : (isTC (.lst xs) (.ty "int") P) = (P false) := propext ⟨fun ⟨x, e, p⟩ => by rw [is_L_int] at e; cases e; exact p, fun p => ⟨_, is_L_int, p⟩⟩
theorem isTC_lst_bool {xs : List W} {P : Bool → Prop} : (isTC (.lst xs) (.ty "bool") P) = (P false) := propext ⟨fun ⟨x, e, p⟩ => by rw [is_L_bool] at e; cases e; exact p, fun p => ⟨_, is_L_bool, p⟩⟩
theorem isTC_lst_str {xs : List W} {P : Bool → Prop} : (isTC (.lst xs) (.ty "str") P) = (P false) := propext ⟨fun ⟨x, e, p⟩ => by rw [is_L_str] at e; cases e; exact p, fun p => ⟨_, is_L_str, p⟩⟩
theorem isTC_lst_list {xs : List W} {P : Bool → Prop} : (isTC (.lst xs) (.ty "list") P) = (P true) := propext ⟨fun ⟨x, e, p⟩ => by rw [is_L_list] at e; cases e; exact p, fun p => ⟨_, is_L_list, p⟩⟩
theorem isTC_lst_tuple {xs : List W} {P : Bool → Prop} : (isTC (.lst xs) (.ty "tuple") P) = (P false) := propext ⟨fun ⟨x, e, p⟩ => by rw [is_L_tuple] at e; cases e; exact p, fun p => ⟨_, is_L_tuple, p⟩⟩
theorem isTC_lst_dict {xs : List W} {P : Bool → Prop} : (isTC (.lst xs) (.ty "dict") P) = (P false) := propext ⟨fun ⟨x, e, p⟩ => by rw [is_L_dict] at e; cases e; exact p, fun p => ⟨_, is_L_dict, p⟩⟩
theorem isTC_tup_int {xs : List W} {P : Bool → Prop} : (isTC (.tup xs) (.ty "int") P) = (P false) := propext ⟨fun ⟨x, e, p⟩ => by rw [is_T_int] at e; cases e; exact p, fun p => ⟨_, is_T_int, p⟩⟩
theorem isTC_tup_bool {xs : List W} {P : Bool → Prop} : (isTC (.tup xs) (.ty "bool") P) = (P false) := propext ⟨fun ⟨x, e, p⟩ => by rw [is_T_bool] at e; cases e; exact p, fun p => ⟨_, is_T_bool, p⟩⟩
theorem isTC_tup_str {xs : List W} {P : Bool → Prop} : (isTC (.tup xs) (.ty "str") P) = (P false) := propext ⟨fun ⟨x, e, p⟩ => by rw [is_T_str] at e; cases e; exact p, fun p => ⟨_, is_T_str, p⟩⟩
theorem isTC_tup_list {xs : List W} {P : Bool → Prop} : (isTC (.tup xs) (.ty "list") P) = (P false) := propext ⟨fun ⟨x, e, p⟩ => by rw [is_T_list] at e; cases e; exact p, fun p => ⟨_, is_T_list, p⟩⟩
theorem isTC_tup_tuple {xs : List W} {P : Bool → Prop} : (isTC (.tup xs) (.ty "tuple") P) = (P true) := propext ⟨fun ⟨x, e, p⟩ => by rw [is_T_tuple] at e; cases e; exact p, fun p => ⟨_, is_T_tuple, p⟩⟩
theorem isTC_tup_dict {xs : List W} {P : Bool → Prop} : (isTC (.tup xs) (.ty "dict") P) = (P false) := propext ⟨fun ⟨x, e, p⟩ => by rw [is_T_dict] at e; cases e; exact p, fun p => ⟨_, is_T_dict, p⟩⟩
theorem isTC_is_rR {al : List (Int × Int)} {P : Bool → Prop} : (isTC (.rig al) (.cls true) P) = (P true) := propext ⟨fun ⟨x, e, p⟩ => (by cases e; exact p), fun p => ⟨_, rfl, p⟩⟩
theorem isTC_is_tR {xs : List W} {P : Bool → Prop} : (isTC (.tup xs) (.cls true) P) = (P false) := propext ⟨fun ⟨x, e, p⟩ => (by cases e; exact p), fun p => ⟨_, rfl, p⟩⟩
theorem isTC_is_mM {ns : List Int} {P : Bool → Prop} : (isTC (.mem ns) (.cls false) P) = (P true) := propext ⟨fun ⟨x, e, p⟩ => (by cases e; exact p), fun p => ⟨_, rfl, p⟩⟩
theorem isTC_is_tM {xs : List W} {P : Bool → Prop} : (isTC (.tup xs) (.cls false) P) = (P false) := propext ⟨fun ⟨x, e, p⟩ => (by cases e; exact p), fun p => ⟨_, rfl, p⟩⟩
theorem onIs_m {ns : List Int} {P : List Int → Prop} : (onIs (.lst (ns.map .int)) P) = (P ns) := propext ⟨fun ⟨x, e, p⟩ => by have := ints_inj.mp (W.lst.inj e); subst this; exact p, fun p => ⟨_, rfl, p⟩⟩
theorem onIsT_m {ns : List Int} {P : List Int → Prop} : (onIsT (.tup (ns.map .int)) P) = (P ns) := propext ⟨fun ⟨x, e, p⟩ => by have := ints_inj.mp (W.tup.inj e); subst this; exact p, fun p => ⟨_, rfl, p⟩⟩
theorem onIs_0 {P : List Int → Prop} : (onIs (.lst []) P) = (P []) := propext ⟨fun ⟨x, e, p⟩ => (by cases x with | nil => exact p | cons a x => cases e), fun p => ⟨[], rfl, p⟩⟩
theorem onIs_c {P : List Int → Prop} {i : Int} {r : List W} : (onIs (.lst (.int i :: r)) P) = (onIs (.lst r) fun ns => P (i :: ns)) := propext ⟨fun ⟨x, e, p⟩ => (by cases x with | nil => cases e | cons a x => cases e; exact ⟨x, rfl, p⟩), fun ⟨x, e, p⟩ => (by cases e; exact ⟨i :: x, rfl, p⟩)⟩
theorem onIs_r {P : List Int → Prop} {a : Int} {n : Nat} : (onIs (.lst (rgW a n)) P) = (P ((List.range n).map fun (k : Nat) => a + (k : Int))) := by
  have e : rgW a n = ((List.range n).map fun (k : Nat) => a + (k : Int)).map .int := by
    unfold rgW
    rw [List.map_map]; rfl
  rw [e]; exact onIs_m
theorem atI_unmap {ns : List Int} {i : Int} {w : W} (h : atI (ns.map W.int) i = some w) : ∃ z, atI ns i = some z ∧ w = .int z := by
  unfold atI at h ⊢
  rw [List.length_map] at h
  cases e : ixN ns.length i with
  | none => rw [e] at h; cases h
  | some j =>
    rw [e] at h
    have h : (ns.map W.int)[j]? = some w := h
    obtain ⟨z, a, b⟩ := mapW_at h
    exact ⟨z, a, b⟩
theorem arWinj {al bl : List (Int × Int)} (h : arW al = arW bl) : al = bl := arW_inj.mp (congrArg W.tup h)
theorem onAr_m {al : List (Int × Int)} {P : List (Int × Int) → Prop} : (onAr (.lst (arW al)) P) = (P al) := propext ⟨fun ⟨x, e, p⟩ => by have := arWinj (W.lst.inj e); subst this; exact p, fun p => ⟨_, rfl, p⟩⟩
theorem onAt_0 {Q : W → Prop} {a : W} {r : List W} : (onAt (a :: r) 0 Q) = (Q a) := propext ⟨fun ⟨x, e, p⟩ => by rw [r_at0] at e; cases e; exact p, fun p => ⟨_, r_at0, p⟩⟩
theorem onAt_1 {Q : W → Prop} {a b : W} {r : List W} : (onAt (a :: b :: r) 1 Q) = (Q b) := propext ⟨fun ⟨x, e, p⟩ => by rw [r_at1] at e; cases e; exact p, fun p => ⟨_, r_at1, p⟩⟩
theorem onAt_2 {Q : W → Prop} {a b c : W} {r : List W} : (onAt (a :: b :: c :: r) 2 Q) = (Q c) := propext ⟨fun ⟨x, e, p⟩ => by rw [r_at2] at e; cases e; exact p, fun p => ⟨_, r_at2, p⟩⟩
theorem onAt_3 {Q : W → Prop} {a b c d : W} {r : List W} : (onAt (a :: b :: c :: d :: r) 3 Q) = (Q d) := propext ⟨fun ⟨x, e, p⟩ => by rw [r_at3] at e; cases e; exact p, fun p => ⟨_, r_at3, p⟩⟩
theorem onAt_m {Q : W → Prop} {ns : List Int} {i : Int} : (onAt (ns.map .int) i Q) = (∃ z, atI ns i = some z ∧ Q (.int z)) := propext ⟨fun ⟨x, e, p⟩ => by obtain ⟨z, h, rfl⟩ := atI_unmap e; exact ⟨z, h, p⟩, fun ⟨z, h, p⟩ => ⟨.int z, atI_map h, p⟩⟩
theorem d_var {ρ : Sl} {Q : W → Prop} {i : Nat} : ((XE.var i).f ρ Q) = (onS ρ i Q) := rfl
theorem d_lit {ρ : Sl} {Q : W → Prop} {w : W} : ((XE.lit w).f ρ Q) = (Q w) := rfl
theorem d_op {ρ : Sl} {Q : W → Prop} {a b : XE} {o : XO} : ((XE.op o a b).f ρ Q) = (a.f ρ fun x => b.f ρ fun y => o.f x y Q) := rfl
theorem d_un {ρ : Sl} {Q : W → Prop} {a : XE} {o : XU} : ((XE.un o a).f ρ Q) = (a.f ρ fun x => o.f x Q) := rfl
theorem d_anil {ρ : Sl} {R : List W → Prop} : (XA.nil.f ρ R) = (R []) := rfl
theorem d_acons {ρ : Sl} {R : List W → Prop} {a : XE} {ar : XA} : ((XA.cons a ar).f ρ R) = (a.f ρ fun x => ar.f ρ fun xs => R (x :: xs)) := rfl
theorem d_fn {ρ : Sl} {Q : W → Prop} {ar : XA} {o : XN} : ((XE.fn o ar).f ρ Q) = (ar.f ρ fun xs => o.f xs Q) := rfl
theorem d_call {ρ : Sl} {Q : W → Prop} {ar : XA} {F : XF} : ((XE.call F ar).f ρ Q) = (ar.f ρ fun xs => F.f xs Q) := rfl
theorem d_ite {ρ : Sl} {Q : W → Prop} {t : XT} {a b : XE} : ((XE.ite t a b).f ρ Q) = (t.f ρ fun x => if x = true then a.f ρ Q else b.f ρ Q) := by simp only [r_ite, br]
theorem d_andV {ρ : Sl} {Q : W → Prop} {a b : XE} : ((XE.andV a b).f ρ Q) = (a.f ρ fun x => onB x fun p => if p = true then b.f ρ Q else Q (.bl false)) := by simp only [r_andV, br, onB]
theorem d_orV {ρ : Sl} {Q : W → Prop} {a b : XE} : ((XE.orV a b).f ρ Q) = (a.f ρ fun x => onB x fun p => if p = true then Q (.bl true) else b.f ρ Q) := by simp only [r_orV, br', onB]
theorem d_notV {ρ : Sl} {Q : W → Prop} {a : XE} : ((XE.notV a).f ρ Q) = (a.f ρ fun x => onB x fun p => Q (.bl (!p))) := rfl
theorem d_lst {ρ : Sl} {Q : W → Prop} {ar : XA} : ((XE.lst ar).f ρ Q) = (ar.f ρ fun ws => ws.length ≤ 100000 ∧ Q (.lst ws)) := rfl
theorem d_tup {ρ : Sl} {Q : W → Prop} {ar : XA} : ((XE.tup ar).f ρ Q) = (ar.f ρ fun ws => ws.length ≤ 100000 ∧ Q (.tup ws)) := rfl
theorem d_tupF {ρ : Sl} {Q : W → Prop} {ar : XA} : ((XE.tupF ar).f ρ Q) = (ar.f ρ fun ws => ∃ al, ws = arW al ∧ al.length ≤ 100000 ∧ Q (.arm al)) := rfl
theorem d_chain {ρ : Sl} {Q : W → Prop} {a b d : XE} {g g' : Int → Int → Bool} : ((XE.chain g g' a b d).f ρ Q) = (a.f ρ fun x => b.f ρ fun y => onI x fun i => onI y fun j => if g i j = true then d.f ρ fun z => onI z fun k => Q (.bl (g' j k)) else Q (.bl false)) := by simp only [r_chain, onI, br, exists_and_left]
theorem d_tval {ρ : Sl} {a : XE} {B : Bool → Prop} : ((XT.val a).f ρ B) = (a.f ρ fun x => onB x B) := rfl
theorem d_ttru {ρ : Sl} {a : XE} {B : Bool → Prop} : ((XT.tru a).f ρ B) = (a.f ρ fun w => truC w B) := rfl
theorem d_tand {ρ : Sl} {t u : XT} {B : Bool → Prop} : ((XT.and t u).f ρ B) = (t.f ρ fun x => if x = true then u.f ρ B else B false) := by simp only [r_tand, br]
theorem d_tor {ρ : Sl} {t u : XT} {B : Bool → Prop} : ((XT.or t u).f ρ B) = (t.f ρ fun x => if x = true then B true else u.f ρ B) := by simp only [r_tor, br']
theorem d_tnot {ρ : Sl} {t : XT} {B : Bool → Prop} : ((XT.not t).f ρ B) = (t.f ρ fun x => B (!x)) := rfl
theorem d_tyes {ρ : Sl} {B : Bool → Prop} : (XT.yes.f ρ B) = (B true) := rfl
theorem d_pno {ρ : Sl} {O : Option Int → Prop} : (XP.no.f ρ O) = (O none) := rfl
theorem d_pat {ρ : Sl} {a : XE} {O : Option Int → Prop} : ((XP.at a).f ρ O) = (a.f ρ fun x => onI x fun i => O (some i)) := rfl
theorem d_sl {ρ : Sl} {Q : W → Prop} {a : XE} {l h : XP} : ((XE.sl a l h).f ρ Q) = (a.f ρ fun w => l.f ρ fun i => h.f ρ fun j => (onL w fun xs => Q (.lst (cutD xs i j))) ∨ onT w fun xs => Q (.tup (cutD xs i j))) := rfl
theorem d_fldR {ρ : Sl} {Q : W → Prop} {a : XE} : ((XE.fld true a).f ρ Q) = (a.f ρ fun w => onR w fun al => Q (.arm al)) := r_fldR
theorem d_fldM {ρ : Sl} {Q : W → Prop} {a : XE} : ((XE.fld false a).f ρ Q) = (a.f ρ fun w => onM w fun ns => Q (.tup (ns.map .int))) := r_fldM
theorem d_prop {ρ : Sl} {Q : W → Prop} {a : XE} {k : Bool} {F : XF} : ((XE.prop k F a).f ρ Q) = (a.f ρ fun w => isC k w (F.f [w] Q)) := rfl
theorem d_callO {ρ : Sl} {Q : W → Prop} {a : XE} {ar : XA} {k : Bool} {F : XF} : ((XE.callO k F a ar).f ρ Q) = (a.f ρ fun w => isC k w (ar.f ρ fun ws => F.f (w :: ws) Q)) := rfl
theorem d_mkRig {ρ : Sl} {Q : W → Prop} {a : XE} {pre : List (Int × Int) → Prop} : ((XE.mkRig pre a).f ρ Q) = (a.f ρ fun w => onA w fun al => pre al ∧ Q (.rig al)) := rfl
theorem d_mkMem {ρ : Sl} {Q : W → Prop} {a : XE} {pre : List Int → Prop} : ((XE.mkMem pre a).f ρ Q) = (a.f ρ fun w => onIsT w fun ns => pre ns ∧ Q (.mem ns)) := rfl
theorem d_dget {ρ : Sl} {Q : W → Prop} {a b : XE} : ((XE.dget a b).f ρ Q) = (a.f ρ fun w => onD w fun al => b.f ρ fun u => onI u fun x => ∃ n, getI al x = some n ∧ Q (.int n)) := by simp only [r_dget, onI, onD, exists_and_left]
theorem d_dget2 {ρ : Sl} {Q : W → Prop} {a b : XE} : ((XE.dget2 a b).f ρ Q) = (a.f ρ fun w => onD w fun al => b.f ρ fun u => onI u fun x => Q (.int (cf al x))) := rfl
theorem d_lrg2 {ρ : Sl} {Q : W → Prop} {a b : XE} : ((XE.lrg2 a b).f ρ Q) = (a.f ρ fun x => b.f ρ fun y => onI x fun i => onI y fun j => (-1000000000 ≤ i ∧ i ≤ 1000000000 ∧ -1000000000 ≤ j ∧ j ≤ 1000000000 ∧ j - i ≤ 50000) ∧ Q (.lst (rgW i (j - i).toNat))) := by simp only [r_lrg2, onI, exists_and_left]
theorem d_lrg3 {ρ : Sl} {Q : W → Prop} {ar : XA} : ((XE.lrg3 ar).f ρ Q) = (ar.f ρ fun ws => on3 ws fun x y z => onI x fun i => onI y fun j => z = .int (-1) ∧ (-1000000000 ≤ i ∧ i ≤ 1000000000 ∧ -1000000000 ≤ j ∧ j ≤ 1000000000 ∧ i - j ≤ 50000) ∧ Q (.lst (dnW i (i - j).toNat))) := by
  show ar.f ρ _ = ar.f ρ _
  congr 1
  funext ws
  exact propext ⟨fun ⟨i, j, e, h, q⟩ => ⟨_, _, _, e, i, rfl, j, rfl, rfl, h, q⟩, fun ⟨x, y, z, e, i, e1, j, e2, e3, h, q⟩ => ⟨i, j, by rw [e, e1, e2, e3], h, q⟩⟩
theorem d_comp {ρ : Sl} {Q : W → Prop} {it : XI} {g : XG} {t : XT} {e : XE} {vs : List Nat} : ((XE.comp it g t e vs).f ρ Q) = (it.f ρ fun ws => ws.length ≤ 50000 ∧ wipeC ρ vs fun ρ' => CompI ws g t e ρ' Q) := rfl
theorem d_iseq {ρ : Sl} {R : List W → Prop} {a : XE} : ((XI.seq a).f ρ R) = (a.f ρ fun w => itLC w R ∨ itTC w R) := rfl
theorem d_rng1 {ρ : Sl} {R : List W → Prop} {ar : XA} : ((XI.rng1 ar).f ρ R) = (ar.f ρ fun ws => on1 ws fun x => onI x fun j => (-1000000000 ≤ j ∧ j ≤ 1000000000) ∧ R (rgW 0 j.toNat)) := by
  show ar.f ρ _ = ar.f ρ _
  congr 1
  funext ws
  exact propext ⟨fun ⟨j, e, q⟩ => ⟨_, e, j, rfl, q⟩, fun ⟨x, e, j, e1, q⟩ => ⟨j, by rw [e, e1], q⟩⟩
theorem d_rng2 {ρ : Sl} {R : List W → Prop} {ar : XA} : ((XI.rng2 ar).f ρ R) = (ar.f ρ fun ws => on2 ws fun x y => onI x fun i => onI y fun j => (-1000000000 ≤ i ∧ i ≤ 1000000000 ∧ -1000000000 ≤ j ∧ j ≤ 1000000000) ∧ R (rgW i (j - i).toNat)) := by
  show ar.f ρ _ = ar.f ρ _
  congr 1
  funext ws
  exact propext ⟨fun ⟨i, j, e, q⟩ => ⟨_, _, e, i, rfl, j, rfl, q⟩, fun ⟨x, y, e, i, e1, j, e2, q⟩ => ⟨i, j, by rw [e, e1, e2], q⟩⟩
theorem d_enum {ρ : Sl} {R : List W → Prop} {ar : XA} : ((XI.enum ar).f ρ R) = (ar.f ρ fun ws => on1 ws fun w => itLC w fun xs => R (enumW xs)) := by
  show ar.f ρ _ = ar.f ρ _
  congr 1
  funext ws
  exact propext ⟨fun ⟨w, xs, e, h, q⟩ => ⟨w, e, xs, h, q⟩, fun ⟨w, e, xs, h, q⟩ => ⟨w, xs, e, h, q⟩⟩
theorem d_zip {ρ : Sl} {R : List W → Prop} {ar : XA} : ((XI.zip ar).f ρ R) = (ar.f ρ fun ws => on2 ws fun w u => itLC w fun xs => itLC u fun ys => R (zipW xs ys)) := by
  show ar.f ρ _ = ar.f ρ _
  congr 1
  funext ws
  exact propext ⟨fun ⟨w, u, xs, ys, e, h, h2, q⟩ => ⟨w, u, e, xs, h, ys, h2, q⟩, fun ⟨w, u, e, xs, h, ys, h2, q⟩ => ⟨w, u, xs, ys, e, h, h2, q⟩⟩
theorem d_gname {ρ : Sl} {S : Sl → Prop} {i : Nat} {w : W} : ((XG.name i).f w ρ S) = (setC ρ i (some w) S) := rfl
theorem d_gtup {ρ : Sl} {S : Sl → Prop} {r : XGs} {w : W} : ((XG.tup r).f w ρ S) = (onT w fun xs => r.f xs ρ S) := rfl
theorem d_glst {ρ : Sl} {S : Sl → Prop} {r : XGs} {w : W} : ((XG.lst r).f w ρ S) = (onL w fun xs => r.f xs ρ S) := rfl
theorem r_vlst {r : XGs} : ((XG.lst r).vs) = (r.vs) := rfl
theorem d_gnil {ρ : Sl} {S : Sl → Prop} : (XGs.nil.f [] ρ S) = (S ρ) := propext ⟨fun p => p.2, fun p => ⟨rfl, p⟩⟩
theorem d_gnil1 {ρ : Sl} {S : Sl → Prop} {x : W} {xs : List W} : (XGs.nil.f (x :: xs) ρ S) = (False) := propext ⟨fun p => (by cases p.1), False.elim⟩
theorem d_gcons {ρ : Sl} {S : Sl → Prop} {g : XG} {r : XGs} {x : W} {xs : List W} : ((XGs.cons g r).f (x :: xs) ρ S) = (g.f x ρ fun ρ' => r.f xs ρ' S) := propext ⟨fun ⟨y, ys, e, p⟩ => (by cases e; exact p), fun p => ⟨_, _, rfl, p⟩⟩
theorem d_gcons0 {ρ : Sl} {S : Sl → Prop} {g : XG} {r : XGs} : ((XGs.cons g r).f [] ρ S) = (False) := propext ⟨fun ⟨y, ys, e, p⟩ => (by cases e), False.elim⟩
theorem d_oor {x y : W} {Q : W → Prop} {o o' : XO} : ((XO.or o o').f x y Q) = (o.f x y Q ∨ o'.f x y Q) := rfl
theorem d_oii {x y : W} {Q : W → Prop} {g : Int → Int → W} : ((XO.ii g).f x y Q) = (onI x fun i => onI y fun j => Q (g i j)) := propext ⟨fun ⟨i, j, a, b, q⟩ => ⟨i, a, j, b, q⟩, fun ⟨i, a, j, b, q⟩ => ⟨i, j, a, b, q⟩⟩
theorem d_oiic {x y : W} {Q : W → Prop} {C : Int → Int → Prop} {g : Int → Int → W} : ((XO.iic C g).f x y Q) = (onI x fun i => onI y fun j => C i j ∧ Q (g i j)) := propext ⟨fun ⟨i, j, a, b, q⟩ => ⟨i, a, j, b, q⟩, fun ⟨i, a, j, b, q⟩ => ⟨i, j, a, b, q⟩⟩
theorem d_ocatL {x y : W} {Q : W → Prop} : (XO.catL.f x y Q) = (onL x fun xs => onL y fun ys => xs.length + ys.length ≤ 100000 ∧ Q (.lst (xs ++ ys))) := propext ⟨fun ⟨i, j, a, b, q⟩ => ⟨i, a, j, b, q⟩, fun ⟨i, a, j, b, q⟩ => ⟨i, j, a, b, q⟩⟩
theorem d_ocatT {x y : W} {Q : W → Prop} : (XO.catT.f x y Q) = (onT x fun xs => onT y fun ys => xs.length + ys.length ≤ 100000 ∧ Q (.tup (xs ++ ys))) := propext ⟨fun ⟨i, j, a, b, q⟩ => ⟨i, a, j, b, q⟩, fun ⟨i, a, j, b, q⟩ => ⟨i, j, a, b, q⟩⟩
theorem d_oixL {x y : W} {Q : W → Prop} : (XO.ixL.f x y Q) = (onL x fun xs => onI y fun i => onAt xs i Q) := propext ⟨fun ⟨xs, i, w, a, b, h, q⟩ => ⟨xs, a, i, b, w, h, q⟩, fun ⟨xs, a, i, b, w, h, q⟩ => ⟨xs, i, w, a, b, h, q⟩⟩
theorem d_oixT {x y : W} {Q : W → Prop} : (XO.ixT.f x y Q) = (onT x fun xs => onI y fun i => onAt xs i Q) := propext ⟨fun ⟨xs, i, w, a, b, h, q⟩ => ⟨xs, a, i, b, w, h, q⟩, fun ⟨xs, a, i, b, w, h, q⟩ => ⟨xs, i, w, a, b, h, q⟩⟩
theorem d_oixA {x y : W} {Q : W → Prop} : (XO.ixA.f x y Q) = (onA x fun al => onI y fun i => ∃ p, atI al i = some p ∧ Q (.tup [.int p.1, .int p.2])) := propext ⟨fun ⟨xs, i, w, a, b, h, q⟩ => ⟨xs, a, i, b, w, h, q⟩, fun ⟨xs, a, i, b, w, h, q⟩ => ⟨xs, i, w, a, b, h, q⟩⟩
theorem d_oeqS {x y : W} {Q : W → Prop} {n : Bool} : ((XO.eqS n).f x y Q) = ((onI x fun i => onI y fun j => Q (.bl (n ^^ decide (i = j)))) ∨ (onStr x fun i => onStr y fun j => Q (.bl (n ^^ decide (i = j)))) ∨ (onB x fun i => onB y fun j => Q (.bl (n ^^ decide (i = j))))) := by rw [r_oeqS]; simp only [onI, onStr, onB, exists_and_left]
theorem d_oeqD {x y : W} {Q : W → Prop} {n : Bool} : ((XO.eqD n).f x y Q) = ((sqC x (sqC y (Pl 60 x ∧ Pl 60 y ∧ Q (.bl (n ^^ decide (x = y)))))) ∨ (onA x fun al => onA y fun bl => Q (.bl (n ^^ decide (al = bl))))) := by rw [r_oeqD]; simp only [sqC, onA, exists_and_left]
theorem d_oisN {x y : W} {Q : W → Prop} {n : Bool} : ((XO.isN n).f x y Q) = (y = .non ∧ x.kn = true ∧ Q (.bl (n ^^ decide (x = .non)))) := rfl
theorem d_oneg {x : W} {Q : W → Prop} : (XU.neg.f x Q) = (onI x fun i => Q (.int (-i))) := rfl
theorem d_uor {x : W} {Q : W → Prop} {o o' : XU} : ((XU.or o o').f x Q) = (o.f x Q ∨ o'.f x Q) := rfl
theorem d_oownB {x y : W} {Q : W → Prop} {k : Bool} {F : XF} : ((XO.ownBin k F).f x y Q) = (isC k x (isC k y (F.f [x, y] Q))) := rfl
theorem d_oownM {x y : W} {Q : W → Prop} {k : Bool} {F : XF} : ((XO.ownMul k F).f x y Q) = (isC k x (onI y fun n => F.f [x, .int n] Q)) := propext ⟨fun ⟨a, ⟨n, e⟩, q⟩ => ⟨a, n, e, by subst e; exact q⟩, fun ⟨a, n, e, q⟩ => ⟨a, ⟨n, e⟩, by subst e; exact q⟩⟩
theorem d_uownN {x : W} {Q : W → Prop} {k : Bool} {F : XF} : ((XU.ownNeg k F).f x Q) = (isC k x (F.f [x] Q)) := rfl
theorem d_oownE {x y : W} {Q : W → Prop} {k : Bool} {F : XF} : ((XO.ownEq k F).f x y Q) = (isC k x (eqC k y (F.f [x, y] Q))) := rfl
theorem d_oownNe {x y : W} {Q : W → Prop} {k : Bool} {F : XF} : ((XO.ownNe k F).f x y Q) = (isC k x (eqC k y (F.f [x, y] fun w => onB w fun b => Q (.bl (!b))))) := rfl
theorem d_nor {ws : List W} {Q : W → Prop} {o o' : XN} : ((XN.or o o').f ws Q) = (o.f ws Q ∨ o'.f ws Q) := rfl
theorem d_nlen {ws : List W} {Q : W → Prop} : (XN.len.f ws Q) = (on1 ws fun x => (onL x fun xs => Q (.int xs.length)) ∨ (onT x fun xs => Q (.int xs.length)) ∨ (onA x fun al => Q (.int al.length))) := propext ⟨fun h => by rcases h with ⟨xs, e, q⟩ | ⟨xs, e, q⟩ | ⟨xs, e, q⟩; exact ⟨_, e, .inl ⟨_, rfl, q⟩⟩; exact ⟨_, e, .inr (.inl ⟨_, rfl, q⟩)⟩; exact ⟨_, e, .inr (.inr ⟨_, rfl, q⟩)⟩, fun ⟨x, e, h⟩ => by rcases h with ⟨xs, e1, q⟩ | ⟨xs, e1, q⟩ | ⟨xs, e1, q⟩ <;> subst e1; exact .inl ⟨_, e, q⟩; exact .inr (.inl ⟨_, e, q⟩); exact .inr (.inr ⟨_, e, q⟩)⟩
theorem d_nii {ws : List W} {Q : W → Prop} {g : Int → Int → W} : ((XN.ii g).f ws Q) = (on2 ws fun x y => onI x fun i => onI y fun j => Q (g i j)) := propext ⟨fun ⟨i, j, e, q⟩ => ⟨_, _, e, i, rfl, j, rfl, q⟩, fun ⟨x, y, e, i, e1, j, e2, q⟩ => ⟨i, j, by rw [e, e1, e2], q⟩⟩
theorem d_ni {ws : List W} {Q : W → Prop} {g : Int → W} : ((XN.i g).f ws Q) = (on1 ws fun x => onI x fun i => Q (g i)) := propext ⟨fun ⟨i, e, q⟩ => ⟨_, e, i, rfl, q⟩, fun ⟨x, e, i, e1, q⟩ => ⟨i, by rw [e, e1], q⟩⟩
theorem d_nsum {ws : List W} {Q : W → Prop} : (XN.sum.f ws Q) = (on1 ws fun x => onIs x fun ns => Q (.int ns.sum)) := propext ⟨fun ⟨i, e, q⟩ => ⟨_, e, i, rfl, q⟩, fun ⟨x, e, i, e1, q⟩ => ⟨i, by rw [e, e1], q⟩⟩
theorem d_nminL {ws : List W} {Q : W → Prop} : (XN.minL.f ws Q) = (on1 ws fun x => onIs x fun ns => ns ≠ [] ∧ ∀ m, m ∈ ns → (∀ y ∈ ns, m ≤ y) → Q (.int m)) := propext ⟨fun ⟨i, e, q⟩ => ⟨_, e, i, rfl, q⟩, fun ⟨x, e, i, e1, q⟩ => ⟨i, by rw [e, e1], q⟩⟩
theorem d_nmaxL {ws : List W} {Q : W → Prop} : (XN.maxL.f ws Q) = (on1 ws fun x => onIs x fun ns => ns ≠ [] ∧ ∀ m, m ∈ ns → (∀ y ∈ ns, y ≤ m) → Q (.int m)) := propext ⟨fun ⟨i, e, q⟩ => ⟨_, e, i, rfl, q⟩, fun ⟨x, e, i, e1, q⟩ => ⟨i, by rw [e, e1], q⟩⟩
theorem d_nmaxT {ws : List W} {Q : W → Prop} : (XN.maxT.f ws Q) = (on1 ws fun x => onIsT x fun ns => ns ≠ [] ∧ ∀ m, m ∈ ns → (∀ y ∈ ns, y ≤ m) → Q (.int m)) := propext ⟨fun ⟨i, e, q⟩ => ⟨_, e, i, rfl, q⟩, fun ⟨x, e, i, e1, q⟩ => ⟨i, by rw [e, e1], q⟩⟩
theorem d_nall {ws : List W} {Q : W → Prop} : (XN.all.f ws Q) = (on1 ws fun x => ∃ bs : List Bool, x = .lst (bs.map .bl) ∧ Q (.bl (bs.all id))) := propext ⟨fun ⟨i, e, q⟩ => ⟨_, e, i, rfl, q⟩, fun ⟨x, e, i, e1, q⟩ => ⟨i, by rw [e, e1], q⟩⟩
theorem d_nint1 {ws : List W} {Q : W → Prop} : (XN.int1.f ws Q) = (on1 ws fun x => (onI x fun i => Q (.int i)) ∨ onB x fun b => Q (.int (if b = true then 1 else 0))) := propext ⟨fun h => by rcases h with ⟨i, e, q⟩ | ⟨i, e, q⟩; exact ⟨_, e, .inl ⟨_, rfl, q⟩⟩; exact ⟨_, e, .inr ⟨_, rfl, q⟩⟩, fun ⟨x, e, h⟩ => by rcases h with ⟨i, e1, q⟩ | ⟨i, e1, q⟩ <;> subst e1; exact .inl ⟨_, e, q⟩; exact .inr ⟨_, e, q⟩⟩
theorem d_nlist {ws : List W} {Q : W → Prop} : (XN.list.f ws Q) = (on1 ws fun x => (onL x fun xs => Q (.lst xs)) ∨ (onT x fun xs => Q (.lst xs)) ∨ onScr x fun ns => Q (.lst (ns.map .int))) := propext ⟨fun h => by rcases h with ⟨xs, e, q⟩ | ⟨xs, e, q⟩ | ⟨xs, e, q⟩; exact ⟨_, e, .inl ⟨_, rfl, q⟩⟩; exact ⟨_, e, .inr (.inl ⟨_, rfl, q⟩)⟩; exact ⟨_, e, .inr (.inr ⟨_, rfl, q⟩)⟩, fun ⟨x, e, h⟩ => by rcases h with ⟨xs, e1, q⟩ | ⟨xs, e1, q⟩ | ⟨xs, e1, q⟩ <;> subst e1; exact .inl ⟨_, e, q⟩; exact .inr (.inl ⟨_, e, q⟩); exact .inr (.inr ⟨_, e, q⟩)⟩
theorem d_ntuple {ws : List W} {Q : W → Prop} : (XN.tuple.f ws Q) = (on1 ws fun x => (onL x fun xs => Q (.tup xs)) ∨ onT x fun xs => Q (.tup xs)) := propext ⟨fun h => by rcases h with ⟨i, e, q⟩ | ⟨i, e, q⟩; exact ⟨_, e, .inl ⟨_, rfl, q⟩⟩; exact ⟨_, e, .inr ⟨_, rfl, q⟩⟩, fun ⟨x, e, h⟩ => by rcases h with ⟨i, e1, q⟩ | ⟨i, e1, q⟩ <;> subst e1; exact .inl ⟨_, e, q⟩; exact .inr ⟨_, e, q⟩⟩
theorem d_ntupF {ws : List W} {Q : W → Prop} : (XN.tupF.f ws Q) = (on1 ws fun x => onAr x fun al => Q (.arm al)) := propext ⟨fun ⟨i, e, q⟩ => ⟨_, e, i, rfl, q⟩, fun ⟨x, e, i, e1, q⟩ => ⟨i, by rw [e, e1], q⟩⟩
theorem d_nsorI {ws : List W} {Q : W → Prop} : (XN.sortedI.f ws Q) = (on1 ws fun x => onIs x fun ns => ∀ ys : List Int, ys.Perm ns → ys.Pairwise (· ≤ ·) → Q (.lst (ys.map .int))) := propext ⟨fun ⟨i, e, q⟩ => ⟨_, e, i, rfl, q⟩, fun ⟨x, e, i, e1, q⟩ => ⟨i, by rw [e, e1], q⟩⟩
theorem d_nsorD {ws : List W} {Q : W → Prop} : (XN.sortedD.f ws Q) = (on1 ws fun x => onD x fun al => al.length < 64 ∧ ∀ ys : List Int, ys.Perm (al.map (·.1)) → ys.Pairwise (· ≤ ·) → Q (.lst (ys.map .int))) := propext ⟨fun ⟨i, e, q⟩ => ⟨_, e, i, rfl, q⟩, fun ⟨x, e, i, e1, q⟩ => ⟨i, by rw [e, e1], q⟩⟩
theorem d_nisi {ws : List W} {Q : W → Prop} : (xIsi.f ws Q) = (on2 ws fun x t => onTy t fun n => isTC x (.ty n) fun r => Q (.bl r)) := propext ⟨fun ⟨x, n, r, e, h, q⟩ => ⟨x, _, e, n, rfl, r, h, q⟩, fun ⟨x, t, e, n, e1, r, h, q⟩ => ⟨x, n, r, by rw [e, e1], h, q⟩⟩
theorem onTy_ty {n : String} {P : String → Prop} : (onTy (.ty n) P) = (P n) := propext ⟨fun ⟨x, e, p⟩ => (by cases e; exact p), fun p => ⟨_, rfl, p⟩⟩
theorem d_nisC {ws : List W} {Q : W → Prop} {j : Bool} : ((xIsC j).f ws Q) = (on2 ws fun x t => t = .cls j ∧ isTC x (.cls j) fun r => Q (.bl r)) := propext ⟨fun ⟨x, r, e, h, q⟩ => ⟨x, _, e, rfl, r, h, q⟩, fun ⟨x, t, e, e1, r, h, q⟩ => ⟨x, r, by rw [e, e1], h, q⟩⟩
theorem d_nown {ws : List W} {Q : W → Prop} {k : Bool} {F : XF} : ((XN.ownLen k F).f ws Q) = (on1 ws fun x => isC k x (F.f [x] fun w => ∃ n : Nat, w = .int n ∧ n < 100000 ∧ Q (.int n))) := rfl
theorem d_asg0 {s : Sl} {κ : Ko} {g : XG} {a : XE} : ((XS.asg g a).f ⟨s, none⟩ κ) = (a.f s fun w => g.f w s fun s' => κ.nx ⟨s', none⟩) := propext ⟨fun p => p.2, fun p => ⟨fun q e => (by cases e), p⟩⟩
theorem d_asg1 {s : Sl} {κ : Ko}{i0 : Nat} {co : Co} {g : XG} {a : XE} : ((XS.asg g a).f ⟨s, some (i0, co)⟩ κ) = (i0 ∉ g.vs ∧ a.f s fun w => g.f w s fun s' => κ.nx ⟨s', some (i0, co)⟩) := propext ⟨fun p => ⟨p.1 _ rfl, p.2⟩, fun p => ⟨fun q e => (by cases e; exact p.1), p.2⟩⟩
theorem d_asgV0 {s : Sl} {κ : Ko} {g : XG} {a : XE} : ((XS.asgV g a).f ⟨s, none⟩ κ) = (a.f s fun w => flC w (g.f w s fun s' => κ.nx ⟨s', none⟩)) := propext ⟨fun p => p.2, fun p => ⟨fun q e => (by cases e), p⟩⟩
theorem d_asgV1 {s : Sl} {κ : Ko}{i0 : Nat} {co : Co} {g : XG} {a : XE} : ((XS.asgV g a).f ⟨s, some (i0, co)⟩ κ) = (i0 ∉ g.vs ∧ setC s i0 (some co.w) fun ρ => a.f ρ fun w => flC w (g.f w s fun s' => κ.nx ⟨s', some (i0, co)⟩)) := propext ⟨fun p => ⟨p.1 _ rfl, p.2⟩, fun p => ⟨fun q e => (by cases e; exact p.1), p.2⟩⟩
theorem d_par0 {s : Sl} {κ : Ko} {i j : Nat} {ar : XA} : ((XS.par i j ar).f ⟨s, none⟩ κ) = ( ar.f s fun ws => on2 ws fun u v => setC s i (some u) fun s1 => setC s1 j (some v) fun s2 => κ.nx ⟨s2, none⟩) := propext ⟨fun p => p.2, fun p => ⟨fun q e => (by cases e), p⟩⟩
theorem d_par1 {s : Sl} {κ : Ko}{i0 : Nat} {co : Co} {i j : Nat} {ar : XA} : ((XS.par i j ar).f ⟨s, some (i0, co)⟩ κ) = (i0 ∉ [i, j] ∧ ar.f s fun ws => on2 ws fun u v => setC s i (some u) fun s1 => setC s1 j (some v) fun s2 => κ.nx ⟨s2, some (i0, co)⟩) := propext ⟨fun p => ⟨p.1 _ rfl, p.2⟩, fun p => ⟨fun q e => (by cases e; exact p.1), p.2⟩⟩
theorem d_par30 {s : Sl} {κ : Ko} {i j l : Nat} {ar : XA} : ((XS.par3 i j l ar).f ⟨s, none⟩ κ) = ( ar.f s fun ws => on3 ws fun u v w => setC s i (some u) fun s1 => setC s1 j (some v) fun s2 => setC s2 l (some w) fun s3 => κ.nx ⟨s3, none⟩) := propext ⟨fun p => p.2, fun p => ⟨fun q e => (by cases e), p⟩⟩
theorem d_par31 {s : Sl} {κ : Ko}{i0 : Nat} {co : Co} {i j l : Nat} {ar : XA} : ((XS.par3 i j l ar).f ⟨s, some (i0, co)⟩ κ) = (i0 ∉ [i, j, l] ∧ ar.f s fun ws => on3 ws fun u v w => setC s i (some u) fun s1 => setC s1 j (some v) fun s2 => setC s2 l (some w) fun s3 => κ.nx ⟨s3, some (i0, co)⟩) := propext ⟨fun p => ⟨p.1 _ rfl, p.2⟩, fun p => ⟨fun q e => (by cases e; exact p.1), p.2⟩⟩
theorem d_ret0 {s : Sl} {κ : Ko} {a : XE} : ((XS.ret a).f ⟨s, none⟩ κ) = (a.f s κ.rt) := rfl
theorem d_ret1 {s : Sl} {κ : Ko}{i0 : Nat} {co : Co} {a : XE} : ((XS.ret a).f ⟨s, some (i0, co)⟩ κ) = (setC s i0 (some co.w) fun ρ => a.f ρ κ.rt) := rfl
theorem d_retN0 {s : Sl} {κ : Ko} : (XS.retN.f ⟨s, none⟩ κ) = (κ.rt .non) := rfl
theorem d_retN1 {s : Sl} {κ : Ko}{i0 : Nat} {co : Co} : (XS.retN.f ⟨s, some (i0, co)⟩ κ) = (κ.rt .non) := rfl
theorem d_drop0 {s : Sl} {κ : Ko} {a : XE} : ((XS.drop a).f ⟨s, none⟩ κ) = (a.f s fun _ => κ.nx ⟨s, none⟩) := rfl
theorem d_drop1 {s : Sl} {κ : Ko}{i0 : Nat} {co : Co} {a : XE} : ((XS.drop a).f ⟨s, some (i0, co)⟩ κ) = (a.f s fun _ => κ.nx ⟨s, some (i0, co)⟩) := rfl
theorem d_next0 {s : Sl} {κ : Ko} : (XS.next.f ⟨s, none⟩ κ) = (κ.nx ⟨s, none⟩) := rfl
theorem d_next1 {s : Sl} {κ : Ko}{i0 : Nat} {co : Co} : (XS.next.f ⟨s, some (i0, co)⟩ κ) = (κ.nx ⟨s, some (i0, co)⟩) := rfl
theorem d_never0 {s : Sl} {κ : Ko} : (XS.never.f ⟨s, none⟩ κ) = (False) := rfl
theorem d_never1 {s : Sl} {κ : Ko}{i0 : Nat} {co : Co} : (XS.never.f ⟨s, some (i0, co)⟩ κ) = (False) := rfl
theorem d_seq0 {s : Sl} {κ : Ko} {x y : XS} : ((XS.seq x y).f ⟨s, none⟩ κ) = (x.f ⟨s, none⟩ ⟨fun φ' => y.f φ' κ, κ.rt, κ.bk, κ.ct⟩) := rfl
theorem d_seq1 {s : Sl} {κ : Ko}{i0 : Nat} {co : Co} {x y : XS} : ((XS.seq x y).f ⟨s, some (i0, co)⟩ κ) = (x.f ⟨s, some (i0, co)⟩ ⟨fun φ' => y.f φ' κ, κ.rt, κ.bk, κ.ct⟩) := rfl
theorem d_ifs0 {s : Sl} {κ : Ko} {t : XT} {x y : XS} : ((XS.ifs t x y).f ⟨s, none⟩ κ) = (t.f s fun b => if b = true then x.f ⟨s, none⟩ κ else y.f ⟨s, none⟩ κ) := by show t.f s (fun b => (b = true → x.f ⟨s, none⟩ κ) ∧ (b = false → y.f ⟨s, none⟩ κ)) = _; simp only [br]
theorem d_ifs1 {s : Sl} {κ : Ko}{i0 : Nat} {co : Co} {t : XT} {x y : XS} : ((XS.ifs t x y).f ⟨s, some (i0, co)⟩ κ) = (setC s i0 (some co.w) fun ρ => t.f ρ fun b => if b = true then x.f ⟨s, some (i0, co)⟩ κ else y.f ⟨s, some (i0, co)⟩ κ) := by show t.f (s.set i0 (some co.w)) (fun b => (b = true → x.f ⟨s, some (i0, co)⟩ κ) ∧ (b = false → y.f ⟨s, some (i0, co)⟩ κ)) = t.f (s.set i0 (some co.w)) _; simp only [br]
theorem d_frz0 {s : Sl} {κ : Ko} {x : XS} : ((XS.frz x).f ⟨s, none⟩ κ) = (x.f ⟨s, none⟩ κ) := rfl
theorem d_frz1 {s : Sl} {κ : Ko}{i0 : Nat} {co : Co} {x : XS} : ((XS.frz x).f ⟨s, some (i0, co)⟩ κ) = (setC s i0 (some co.w) fun ρ => x.f ⟨ρ, none⟩ κ) := rfl
theorem d_aug0 {s : Sl} {κ : Ko} {i : Nat} {g : Int → Int → Int} {a : XE} : ((XS.aug i g a).f ⟨s, none⟩ κ) = ( onS s i fun u => onI u fun x => a.f s fun w => onI w fun n => setC s i (some (.int (g x n))) fun s' => κ.nx ⟨s', none⟩) := propext ⟨fun ⟨_, x, e, q⟩ => ⟨_, e, x, rfl, q⟩, fun ⟨w, e, x, e1, q⟩ => ⟨fun q e => (by cases e), x, by rw [e, e1], q⟩⟩
theorem d_aug1 {s : Sl} {κ : Ko}{i0 : Nat} {co : Co} {i : Nat} {g : Int → Int → Int} {a : XE} : ((XS.aug i g a).f ⟨s, some (i0, co)⟩ κ) = (i0 ∉ [i] ∧ onS s i fun u => onI u fun x => a.f s fun w => onI w fun n => setC s i (some (.int (g x n))) fun s' => κ.nx ⟨s', some (i0, co)⟩) := propext ⟨fun ⟨o, x, e, q⟩ => ⟨o _ rfl, _, e, x, rfl, q⟩, fun ⟨o, w, e, x, e1, q⟩ => ⟨fun q e => (by cases e; exact o), x, by rw [e, e1], q⟩⟩
theorem d_for0 {s : Sl} {κ : Ko} {it : XI} {g : XG} {x : XS} : ((XS.forr it g x).f ⟨s, none⟩ κ) = (it.f s fun ws => ForI ws g x ⟨s, none⟩ κ) := rfl
theorem d_for1 {s : Sl} {κ : Ko}{i0 : Nat} {co : Co} {it : XI} {g : XG} {x : XS} : ((XS.forr it g x).f ⟨s, some (i0, co)⟩ κ) = (it.f s fun ws => ForI ws g x ⟨s, some (i0, co)⟩ κ) := rfl
theorem d_while0 {s : Sl} {κ : Ko} {t : XT} {x : XS} : ((XS.whil t x).f ⟨s, none⟩ κ) = (WhI t x ⟨s, none⟩ κ) := rfl
theorem d_while1 {s : Sl} {κ : Ko}{i0 : Nat} {co : Co} {t : XT} {x : XS} : ((XS.whil t x).f ⟨s, some (i0, co)⟩ κ) = (WhI t x ⟨s, some (i0, co)⟩ κ) := rfl
theorem d_newL0 {s : Sl} {κ : Ko} {i : Nat} {ar : XA} : ((XS.newL i ar).f ⟨s, none⟩ κ) = (i < s.length ∧ ar.f s fun ws => ws.length ≤ 100000 ∧ setC s i none fun s' => κ.nx ⟨s', some (i, .lst ws)⟩) := propext ⟨fun p => p.2, fun p => ⟨rfl, p⟩⟩
theorem d_newD0 {s : Sl} {κ : Ko} {i : Nat} {a : XE} : ((XS.newD i a).f ⟨s, none⟩ κ) = (i < s.length ∧ a.f s fun w => onA w fun al => (al.map (·.1)).Nodup ∧ setC s i none fun s' => κ.nx ⟨s', some (i, .dct al)⟩) := propext ⟨fun p => p.2, fun p => ⟨rfl, p⟩⟩
theorem d_newD00 {s : Sl} {κ : Ko} {i : Nat} : ((XS.newD0 i).f ⟨s, none⟩ κ) = (i < s.length ∧ setC s i none fun s' => κ.nx ⟨s', some (i, .dct [])⟩) := propext ⟨fun p => p.2, fun p => ⟨rfl, p⟩⟩
theorem d_app {s : Sl} {κ : Ko} {i : Nat} {a : XE} {xs : List W} : ((XS.app i a).f ⟨s, some (i, .lst xs)⟩ κ) = (xs.length < 100000 ∧ a.f s fun w => κ.nx ⟨s, some (i, .lst (xs ++ [w]))⟩) := propext ⟨fun ⟨ys, e, h, q⟩ => by cases e; exact ⟨h, q⟩, fun ⟨h, q⟩ => ⟨_, rfl, h, q⟩⟩
theorem d_appV {s : Sl} {κ : Ko} {i : Nat} {a : XE} {xs : List W} : ((XS.appV i a).f ⟨s, some (i, .lst xs)⟩ κ) = (xs.length < 100000 ∧ setC s i (some (.lst xs)) fun ρ => a.f ρ fun w => flC w (κ.nx ⟨s, some (i, .lst (xs ++ [w]))⟩)) := propext ⟨fun ⟨ys, e, h, q⟩ => by cases e; exact ⟨h, q⟩, fun ⟨h, q⟩ => ⟨_, rfl, h, q⟩⟩
theorem d_dput {s : Sl} {κ : Ko} {i j : Nat} {a : XE} {al : List (Int × Int)} : ((XS.dput i j a).f ⟨s, some (i, .dct al)⟩ κ) = (onS s j fun u => onI u fun x => al.length < 100000 ∧ a.f s fun w => onI w fun n => κ.nx ⟨s, some (i, .dct (putI al x (cf al x + n)))⟩) := propext ⟨fun ⟨ys, x, e, h, l, q⟩ => by cases e; exact ⟨_, h, x, rfl, l, q⟩, fun ⟨u, h, x, e, l, q⟩ => ⟨_, x, rfl, by rw [h, e], l, q⟩⟩
theorem d_here {ρ : Sl} {ar : XA} {R : List W → List W → Prop} : ((XAN.here ar).f ρ R) = (ar.f ρ fun ws => R [] ws) := rfl
theorem d_ncons {ρ : Sl} {a : XE} {x : XAN} {R : List W → List W → Prop} : ((XAN.cons a x).f ρ R) = (a.f ρ fun w => x.f ρ fun p q => R (w :: p) q) := rfl
theorem d_coL {xs : List W} : ((Co.lst xs).w) = (.lst xs) := rfl
theorem d_coD {al : List (Int × Int)} : ((Co.dct al).w) = (.dct al) := rfl
theorem d_off0 {s : Sl} {is : List Nat} : (Fr.off ⟨s, none⟩ is) = (True) := propext ⟨fun _ => trivial, fun _ q e => (by cases e)⟩
theorem d_off1 {s : Sl} {is : List Nat} {i : Nat} {co : Co} : (Fr.off ⟨s, some (i, co)⟩ is) = (i ∉ is) := propext ⟨fun p => p _ rfl, fun p q e => (by cases e; exact p)⟩
theorem d_xf {F : XF} {ws : List W} {Q : W → Prop} : (F.f ws Q) = (∃ a, ws = F.args a ∧ F.pre a ∧ ∀ w, F.post a w → Q w) := rfl
theorem d_peq {R : W → Prop} {u : W} : (∀ w, w = u → R w) = (R u) := propext ⟨fun h => h u rfl, fun h w e => (by rw [e]; exact h)⟩
theorem d_pex {α : Type} {p : α → Prop} {g : α → W} {R : W → Prop} : (∀ w, (∃ x, p x ∧ w = g x) → R w) = (∀ x, p x → R (g x)) := propext ⟨fun h x hx => h _ ⟨x, hx, rfl⟩, fun h w ⟨x, hx, e⟩ => (by rw [e]; exact h x hx)⟩
theorem d_wip0 {ρ : Sl} {S : Sl → Prop} : (wipeC ρ [] S) = (S ρ) := rfl
theorem d_wip1 {ρ : Sl} {S : Sl → Prop} {i : Nat} {is : List Nat} : (wipeC ρ (i :: is) S) = (wipeC ρ is fun ρ' => setC ρ' i none S) := rfl
end Z

namespace Z
open PySem L2
def runA := (And.intro (And.intro (And.intro (And.intro (And.intro (And.intro (And.intro (And.intro @onS_0 (And.intro @onS_n @onS_s)) (And.intro (And.intro @setC_0 @setC_s) (And.intro @on1_c @on2_c))) (And.intro (And.intro @on3_c (And.intro @on1_2 @on2_1)) (And.intro (And.intro @onI_non @onI_bl) (And.intro @onI_int @onI_str)))) (And.intro (And.intro (And.intro @onI_lst (And.intro @onI_tup @onI_rig)) (And.intro (And.intro @onI_arm @onI_mem) (And.intro @onI_scr @onI_dct))) (And.intro (And.intro @onI_src (And.intro @onB_non @onB_bl)) (And.intro (And.intro @onB_int @onB_str) (And.intro @onB_lst @onB_tup))))) (And.intro (And.intro (And.intro (And.intro @onB_rig (And.intro @onB_arm @onB_mem)) (And.intro (And.intro @onB_scr @onB_dct) (And.intro @onB_src @onStr_non))) (And.intro (And.intro @onStr_bl (And.intro @onStr_int @onStr_str)) (And.intro (And.intro @onStr_lst @onStr_tup) (And.intro @onStr_rig @onStr_arm)))) (And.intro (And.intro (And.intro @onStr_mem (And.intro @onStr_scr @onStr_dct)) (And.intro (And.intro @onStr_src @onT_non) (And.intro @onT_bl @onT_int))) (And.intro (And.intro @onT_str (And.intro @onT_lst @onT_tup)) (And.intro (And.intro @onT_rig @onT_arm) (And.intro @onT_mem @onT_scr)))))) (And.intro (And.intro (And.intro (And.intro (And.intro @onT_dct (And.intro @onT_src @onL_non)) (And.intro (And.intro @onL_bl @onL_int) (And.intro @onL_str @onL_lst))) (And.intro (And.intro @onL_tup (And.intro @onL_rig @onL_arm)) (And.intro (And.intro @onL_mem @onL_scr) (And.intro @onL_dct @onL_src)))) (And.intro (And.intro (And.intro @onA_non (And.intro @onA_bl @onA_int)) (And.intro (And.intro @onA_str @onA_lst) (And.intro @onA_tup @onA_rig))) (And.intro (And.intro @onA_arm (And.intro @onA_mem @onA_scr)) (And.intro (And.intro @onA_dct @onA_src) (And.intro @onR_non @onR_bl))))) (And.intro (And.intro (And.intro (And.intro @onR_int (And.intro @onR_str @onR_lst)) (And.intro (And.intro @onR_tup @onR_rig) (And.intro @onR_arm @onR_mem))) (And.intro (And.intro @onR_scr (And.intro @onR_dct @onR_src)) (And.intro (And.intro @onM_non @onM_bl) (And.intro @onM_int @onM_str)))) (And.intro (And.intro (And.intro @onM_lst (And.intro @onM_tup @onM_rig)) (And.intro (And.intro @onM_arm @onM_mem) (And.intro @onM_scr @onM_dct))) (And.intro (And.intro @onM_src (And.intro @onD_non @onD_bl)) (And.intro (And.intro @onD_int @onD_str) (And.intro @onD_lst @onD_tup))))))) (And.intro (And.intro (And.intro (And.intro (And.intro (And.intro @onD_rig (And.intro @onD_arm @onD_mem)) (And.intro (And.intro @onD_scr @onD_dct) (And.intro @onD_src @onScr_non))) (And.intro (And.intro @onScr_bl (And.intro @onScr_int @onScr_str)) (And.intro (And.intro @onScr_lst @onScr_tup) (And.intro @onScr_rig @onScr_arm)))) (And.intro (And.intro (And.intro @onScr_mem (And.intro @onScr_scr @onScr_dct)) (And.intro (And.intro @onScr_src @onIs_non) (And.intro @onAr_non @onIsT_non))) (And.intro (And.intro @itLC_non (And.intro @itTC_non @truC_non)) (And.intro (And.intro @sqC_non @flC_non) (And.intro @isC_true_non @eqC_true_non))))) (And.intro (And.intro (And.intro (And.intro @isC_false_non (And.intro @eqC_false_non @onIs_bl)) (And.intro (And.intro @onAr_bl @onIsT_bl) (And.intro @itLC_bl @itTC_bl))) (And.intro (And.intro @truC_bl (And.intro @sqC_bl @flC_bl)) (And.intro (And.intro @isC_true_bl @eqC_true_bl) (And.intro @isC_false_bl @eqC_false_bl)))) (And.intro (And.intro (And.intro @onIs_int (And.intro @onAr_int @onIsT_int)) (And.intro (And.intro @itLC_int @itTC_int) (And.intro @truC_int @sqC_int))) (And.intro (And.intro @flC_int (And.intro @isC_true_int @eqC_true_int)) (And.intro (And.intro @isC_false_int @eqC_false_int) (And.intro @onIs_str @onAr_str)))))) (And.intro (And.intro (And.intro (And.intro (And.intro @onIsT_str (And.intro @itLC_str @itTC_str)) (And.intro (And.intro @truC_str @sqC_str) (And.intro @flC_str @isC_true_str))) (And.intro (And.intro @eqC_true_str (And.intro @isC_false_str @eqC_false_str)) (And.intro (And.intro @onIsT_lst @itLC_lst) (And.intro @itTC_lst @truC_lst)))) (And.intro (And.intro (And.intro @sqC_lst (And.intro @flC_lst @isC_true_lst)) (And.intro (And.intro @eqC_true_lst @isC_false_lst) (And.intro @eqC_false_lst @onIs_tup))) (And.intro (And.intro @onAr_tup (And.intro @itLC_tup @itTC_tup)) (And.intro (And.intro @truC_tup @sqC_tup) (And.intro @flC_tup @isC_true_tup))))) (And.intro (And.intro (And.intro (And.intro @isC_false_tup (And.intro @onIs_rig @onAr_rig)) (And.intro (And.intro @onIsT_rig @itLC_rig) (And.intro @itTC_rig @truC_rig))) (And.intro (And.intro @sqC_rig (And.intro @flC_rig @isC_true_rig)) (And.intro (And.intro @eqC_true_rig @isC_false_rig) (And.intro @eqC_false_rig @onIs_arm)))) (And.intro (And.intro (And.intro @onAr_arm (And.intro @onIsT_arm @itLC_arm)) (And.intro (And.intro @itTC_arm @truC_arm) (And.intro @sqC_arm @flC_arm))) (And.intro (And.intro (And.intro @isC_true_arm @eqC_true_arm) (And.intro @isC_false_arm @eqC_false_arm)) (And.intro (And.intro @onIs_mem @onAr_mem) (And.intro @onIsT_mem @itLC_mem)))))))) (And.intro (And.intro (And.intro (And.intro (And.intro (And.intro (And.intro @itTC_mem (And.intro @truC_mem @sqC_mem)) (And.intro (And.intro @flC_mem @isC_true_mem) (And.intro @eqC_true_mem @isC_false_mem))) (And.intro (And.intro @eqC_false_mem (And.intro @onIs_scr @onAr_scr)) (And.intro (And.intro @onIsT_scr @itLC_scr) (And.intro @itTC_scr @truC_scr)))) (And.intro (And.intro (And.intro @sqC_scr (And.intro @flC_scr @isC_true_scr)) (And.intro (And.intro @eqC_true_scr @isC_false_scr) (And.intro @eqC_false_scr @onIs_dct))) (And.intro (And.intro @onAr_dct (And.intro @onIsT_dct @itLC_dct)) (And.intro (And.intro @itTC_dct @truC_dct) (And.intro @sqC_dct @flC_dct))))) (And.intro (And.intro (And.intro (And.intro @isC_true_dct (And.intro @eqC_true_dct @isC_false_dct)) (And.intro (And.intro @eqC_false_dct @onIs_src) (And.intro @onAr_src @onIsT_src))) (And.intro (And.intro @itLC_src (And.intro @itTC_src @truC_src)) (And.intro (And.intro @sqC_src @flC_src) (And.intro @isC_true_src @eqC_true_src)))) (And.intro (And.intro (And.intro @isC_false_src (And.intro @eqC_false_src @isTC_non_int)) (And.intro (And.intro @isTC_non_bool @isTC_non_str) (And.intro @isTC_non_list @isTC_non_tuple))) (And.intro (And.intro @isTC_non_dict (And.intro @isTC_bl_int @isTC_bl_bool)) (And.intro (And.intro @isTC_bl_str @isTC_bl_list) (And.intro @isTC_bl_tuple @isTC_bl_dict)))))) (And.intro (And.intro (And.intro (And.intro (And.intro @isTC_int_int (And.intro @isTC_int_bool @isTC_int_str)) (And.intro (And.intro @isTC_int_list @isTC_int_tuple) (And.intro @isTC_int_dict @isTC_str_int))) (And.intro (And.intro @isTC_str_bool (And.intro @isTC_str_str @isTC_str_list)) (And.intro (And.intro @isTC_str_tuple @isTC_str_dict) (And.intro @isTC_lst_int @isTC_lst_bool)))) (And.intro (And.intro (And.intro @isTC_lst_str (And.intro @isTC_lst_list @isTC_lst_tuple)) (And.intro (And.intro @isTC_lst_dict @isTC_tup_int) (And.intro @isTC_tup_bool @isTC_tup_str))) (And.intro (And.intro @isTC_tup_list (And.intro @isTC_tup_tuple @isTC_tup_dict)) (And.intro (And.intro @isTC_is_rR @isTC_is_tR) (And.intro @isTC_is_mM @isTC_is_tM))))) (And.intro (And.intro (And.intro (And.intro @onIs_m (And.intro @onIsT_m @onIs_0)) (And.intro (And.intro @onIs_c @onIs_r) (And.intro @onAr_m @onAt_0))) (And.intro (And.intro @onAt_1 (And.intro @onAt_2 @onAt_3)) (And.intro (And.intro @onAt_m @d_var) (And.intro @d_lit @d_op)))) (And.intro (And.intro (And.intro @d_un (And.intro @d_anil @d_acons)) (And.intro (And.intro @d_fn @d_call) (And.intro @d_ite @d_andV))) (And.intro (And.intro (And.intro @d_orV @d_notV) (And.intro @d_lst @d_tup)) (And.intro (And.intro @d_tupF @d_chain) (And.intro @d_tval @d_ttru))))))) (And.intro (And.intro (And.intro (And.intro (And.intro (And.intro @d_tand (And.intro @d_tor @d_tnot)) (And.intro (And.intro @d_tyes @d_pno) (And.intro @d_pat @d_sl))) (And.intro (And.intro @d_fldR (And.intro @d_fldM @d_prop)) (And.intro (And.intro @d_callO @d_mkRig) (And.intro @d_mkMem @d_dget)))) (And.intro (And.intro (And.intro @d_dget2 (And.intro @d_lrg2 @d_lrg3)) (And.intro (And.intro @d_comp @d_iseq) (And.intro @d_rng1 @d_rng2))) (And.intro (And.intro @d_enum (And.intro @d_zip @d_gname)) (And.intro (And.intro @d_gtup @d_glst) (And.intro @r_vlst @d_gnil))))) (And.intro (And.intro (And.intro (And.intro @d_gnil1 (And.intro @d_gcons @d_gcons0)) (And.intro (And.intro @d_oor @d_oii) (And.intro @d_oiic @d_ocatL))) (And.intro (And.intro @d_ocatT (And.intro @d_oixL @d_oixT)) (And.intro (And.intro @d_oixA @d_oeqS) (And.intro @d_oeqD @d_oisN)))) (And.intro (And.intro (And.intro @d_oneg (And.intro @d_uor @d_oownB)) (And.intro (And.intro @d_oownM @d_uownN) (And.intro @d_oownE @d_oownNe))) (And.intro (And.intro @d_nor (And.intro @d_nlen @d_nii)) (And.intro (And.intro @d_ni @d_nsum) (And.intro @d_nminL @d_nmaxL)))))) (And.intro (And.intro (And.intro (And.intro (And.intro @d_nmaxT (And.intro @d_nall @d_nint1)) (And.intro (And.intro @d_nlist @d_ntuple) (And.intro @d_ntupF @d_nsorI))) (And.intro (And.intro @d_nsorD (And.intro @d_nisi @onTy_ty)) (And.intro (And.intro @d_nisC @d_nown) (And.intro @d_asg0 @d_asg1)))) (And.intro (And.intro (And.intro @d_asgV0 (And.intro @d_asgV1 @d_par0)) (And.intro (And.intro @d_par1 @d_par30) (And.intro @d_par31 @d_ret0))) (And.intro (And.intro @d_ret1 (And.intro @d_retN0 @d_retN1)) (And.intro (And.intro @d_drop0 @d_drop1) (And.intro @d_next0 @d_next1))))) (And.intro (And.intro (And.intro (And.intro @d_never0 (And.intro @d_never1 @d_ifs0)) (And.intro (And.intro @d_ifs1 @d_frz0) (And.intro @d_frz1 @d_aug0))) (And.intro (And.intro @d_aug1 (And.intro @d_for0 @d_for1)) (And.intro (And.intro @d_while0 @d_while1) (And.intro @d_newL0 @d_newD0)))) (And.intro (And.intro (And.intro @d_newD00 (And.intro @d_app @d_appV)) (And.intro (And.intro @d_dput @d_here) (And.intro @d_ncons @d_coL))) (And.intro (And.intro (And.intro @d_coD @d_off0) (And.intro @d_off1 @d_xf)) (And.intro (And.intro @d_peq @d_pex) (And.intro @d_wip0 @d_wip1)))))))))
def runB := (And.intro (And.intro (And.intro (And.intro (And.intro (And.intro @Bool.not_eq_true @Bool.not_eq_false) (And.intro @r_eqR (And.intro @r_eqM @r_vname))) (And.intro (And.intro @r_vtup (And.intro @r_vnil @r_vcons)) (And.intro @r_wS0 (And.intro @r_wS1 @r_sA)))) (And.intro (And.intro (And.intro @r_sA0 @r_eqTR) (And.intro @r_eqTM (And.intro @r_gcons @r_gnil))) (And.intro (And.intro @r_parN (And.intro @is_rR @is_tR)) (And.intro @r_at0 (And.intro @r_at1 @r_at2))))) (And.intro (And.intro (And.intro (And.intro @r_at3 @tg01) (And.intro @tg02 (And.intro @tg03 @tg04))) (And.intro (And.intro @tg05 (And.intro @tg10 @tg12)) (And.intro @tg13 (And.intro @tg14 @tg15)))) (And.intro (And.intro (And.intro @tg20 @tg21) (And.intro @tg23 (And.intro @tg24 @tg25))) (And.intro (And.intro @tg30 (And.intro @tg31 @tg32)) (And.intro @tg34 (And.intro @tg35 @tg40)))))) (And.intro (And.intro (And.intro (And.intro (And.intro @tg41 @tg42) (And.intro @tg43 (And.intro @tg45 @tg50))) (And.intro (And.intro @tg51 (And.intro @tg52 @tg53)) (And.intro @tg54 (And.intro @W.int.injEq @W.bl.injEq)))) (And.intro (And.intro (And.intro @W.lst.injEq @W.tup.injEq) (And.intro @W.rig.injEq (And.intro @W.arm.injEq @W.mem.injEq))) (And.intro (And.intro @W.str.injEq (And.intro @W.dct.injEq @W.scr.injEq)) (And.intro @W.ty.injEq (And.intro @W.cls.injEq @and_assoc))))) (And.intro (And.intro (And.intro (And.intro @false_and @and_false) (And.intro @true_and (And.intro @and_true @or_false))) (And.intro (And.intro @false_or (And.intro @not_false_eq_true @not_true_eq_false)) (And.intro @Bool.not_false (And.intro @Bool.not_true @false_implies)))) (And.intro (And.intro (And.intro @true_implies @Bool.false_xor) (And.intro @Bool.true_xor (And.intro @Bool.not_eq_true' @Bool.not_eq_false'))) (And.intro (And.intro @and_self (And.intro @true_or @or_true)) (And.intro @or_self (And.intro @Bool.false_eq_true @Bool.true_eq_false)))))))
end Z

namespace Z
open PySem L2
/-! ### x[i] of an own object -/
section
variable {K : PySem.W.Frag} {c : Cl} {te ta tb tc : TE} {tr : TA} {e a b d : XE} {ar : XA}
/-- dict(pairs) as a value -/
def XE.dctE (a : XE) : XE := ⟨fun ρ Q => a.f ρ fun w => ∃ al, w = .arm al ∧ (al.map (·.1)).Nodup ∧ Q (.dct al), fun k q => a.m (fun _ ⟨al, e, n, z⟩ => ⟨al, e, n, k _ z⟩) q⟩
theorem d_dctE {ρ : Sl} {Q : W → Prop} {a : XE} : ((XE.dctE a).f ρ Q) = (a.f ρ fun w => onA w fun al => (al.map (·.1)).Nodup ∧ Q (.dct al)) := rfl
/-- arms behind arms -/
def XO.catA : XO := ⟨fun x y Q => ∃ al bl, x = .arm al ∧ y = .arm bl ∧ al.length + bl.length ≤ 100000 ∧ Q (.tup (arW al ++ arW bl)), fun k ⟨i, j, a, b, d, q⟩ => ⟨i, j, a, b, d, k _ q⟩⟩
theorem d_ocatA {x y : W} {Q : W → Prop} : ((XO.catA).f x y Q) = (onA x fun al => onA y fun bl => al.length + bl.length ≤ 100000 ∧ Q (.tup (arW al ++ arW bl))) := propext ⟨fun ⟨i, j, a, b, q⟩ => ⟨i, a, j, b, q⟩, fun ⟨i, a, j, b, q⟩ => ⟨i, j, a, b, q⟩⟩
end
section
variable {K : PySem.W.Frag} {c : Cl}
/-- None or a number, compared -/
def W.oi : W → Bool | .non => true | .int _ => true | _ => false
def XO.eqN (n : Bool) : XO := ⟨fun x y Q => x.oi = true ∧ y.oi = true ∧ Q (.bl (n ^^ decide (x = y))), fun k ⟨a, b, q⟩ => ⟨a, b, k _ q⟩⟩
theorem d_eqN {x y : W} {Q : W → Prop} {n : Bool} : ((XO.eqN n).f x y Q) = (x.oi = true ∧ y.oi = true ∧ Q (.bl (n ^^ decide (x = y)))) := rfl
def XN.dvm : XN := ⟨fun ws Q => ∃ i j, ws = [.int i, .int j] ∧ CDiv i j ∧ Q (.tup [.int (i / j), .int (i % j)]), fun k ⟨i, j, e, d, q⟩ => ⟨i, j, e, d, k _ q⟩⟩
theorem d_ndvm {ws : List W} {Q : W → Prop} : (XN.dvm.f ws Q) = (on2 ws fun x y => onI x fun i => onI y fun j => CDiv i j ∧ Q (.tup [.int (i / j), .int (i % j)])) := propext ⟨fun ⟨i, j, e, d, q⟩ => ⟨_, _, e, i, rfl, j, rfl, d, q⟩, fun ⟨x, y, e, i, e1, j, e2, d, q⟩ => ⟨i, j, by rw [e, e1, e2], d, q⟩⟩
theorem d_brk {φ : Fr} {κ : Ko} : (XS.brk.f φ κ) = (κ.bk φ) := rfl
theorem oi_non : W.oi .non = true := rfl
theorem oi_int {i : Int} : W.oi (.int i) = true := rfl
end
/-! ### xs in ([0], []) -/
section
variable {K : PySem.W.Frag} {c : Cl}
def XO.inZ : XO := ⟨fun x y Q => ∃ ns : List Int, (ns = [0] ∨ ns = []) ∧ x = .lst (ns.map .int) ∧ y = .tup [.lst [.int 0], .lst []] ∧ Q (.bl true), fun k ⟨ns, a, b, d, q⟩ => ⟨ns, a, b, d, k _ q⟩⟩
theorem d_inZ {x y : W} {Q : W → Prop} : ((XO.inZ).f x y Q) = (∃ ns : List Int, (ns = [0] ∨ ns = []) ∧ x = .lst (ns.map .int) ∧ y = .tup [.lst [.int 0], .lst []] ∧ Q (.bl true)) := rfl
end
section
variable {K : PySem.W.Frag} {c : Cl}
def XO.notZ : XO := ⟨fun x y Q => ∃ ns : List Int, (ns = [0] ∨ ns = []) ∧ x = .lst (ns.map .int) ∧ y = .tup [.lst [.int 0], .lst []] ∧ Q (.bl false), fun k ⟨ns, a, b, d, q⟩ => ⟨ns, a, b, d, k _ q⟩⟩
theorem d_notZ {x y : W} {Q : W → Prop} : ((XO.notZ).f x y Q) = (∃ ns : List Int, (ns = [0] ∨ ns = []) ∧ x = .lst (ns.map .int) ∧ y = .tup [.lst [.int 0], .lst []] ∧ Q (.bl false)) := rfl
end
def runC := And.intro @d_dctE (And.intro @d_ocatA (And.intro @d_eqN (And.intro @oi_non (And.intro @oi_int (And.intro @d_brk (And.intro @d_ndvm (And.intro @d_inZ @d_notZ)))))))
end Z

namespace Z
open PySem L2 PyProof.Rows
/-! ### every second item -/
def evW {α : Type _} : List α → List α
  | [] => []
  | [a] => [a]
  | a :: _ :: r => a :: evW r
theorem ev_len {α : Type _} : ∀ l : List α, (evW l).length ≤ l.length
  | [] => Nat.le_refl _
  | [a] => Nat.le_refl _
  | a :: b :: r => by show (evW r).length + 1 ≤ r.length + 1 + 1; have := ev_len r; omega
section
variable {X : Cx}
end
section
variable {K : PySem.W.Frag} {c : Cl} {te ta tb tk tv : TE} {tl : TO} {tr : TA} {e a b d : XE} {ar : XA}
def XE.sl2 (a : XE) (l : XP) : XE := ⟨fun ρ Q => a.f ρ fun w => l.f ρ fun o => ∃ xs, w = .lst xs ∧ ∃ n : Nat, o = some (n : Int) ∧ Q (.lst (evW (xs.drop n))), fun k q => a.m (fun _ z => l.m (fun _ ⟨xs, e, n, e1, q⟩ => ⟨xs, e, n, e1, k _ q⟩) z) q⟩
theorem d_sl2 {ρ : Sl} {Q : W → Prop} {l : XP} : ((XE.sl2 a l).f ρ Q) = (a.f ρ fun w => l.f ρ fun o => onL w fun xs => ∃ n : Nat, o = some (n : Int) ∧ Q (.lst (evW (xs.drop n)))) := rfl
/-! ### pairs in order -/
end
section
variable {X : Cx}
def IsP (K : PySem.W.Frag) (H : Hp) (x : V) (p : Int × Int) : Prop := ∃ t, x = .ref t ∧ SqT K H t [.int p.1, .int p.2]
def leP (p q : Int × Int) : Prop := p.1 < q.1 ∨ (p.1 = q.1 ∧ p.2 ≤ q.2)
def rSorPr (K : PySem.W.Frag) : List V → Hp → VK → Prop := fun vs H Q => ∃ (b : Addr) (xs : List V) (ps : List (Int × Int)), vs = [.ref b] ∧ SqL K H b xs ∧ Paired (IsP K H) xs ps ∧
  ∀ (zs : List (V × (Int × Int))) (r : Addr), zs.Perm (xs.zip ps) → (zs.map (·.2)).Pairwise leP → H r = none → Q (.ref r) (upd H r (.lst (zs.map (·.1))))
theorem paired_mem {α β : Type _} {R : α → β → Prop} : ∀ {xs : List α} {ys : List β}, Paired R xs ys → ∀ x ∈ xs, ∃ y, R x y
  | _, _, .nil, x, h => absurd h (by simp)
  | _, _, .cons r t, x, h => by
    rcases List.mem_cons.mp h with rfl | h
    · exact ⟨_, r⟩
    · exact paired_mem t x h
theorem paired_map {α β : Type _} {R : α → β → Prop} {f : α → β} (u : ∀ x y, R x y → y = f x) : ∀ {xs : List α} {ys : List β}, Paired R xs ys → ys = xs.map f
  | _, _, .nil => rfl
  | _, _, .cons r t => by rw [List.map_cons, ← u _ _ r, ← paired_map u t]
open Classical in
theorem cr_sorPr : CallR X (.builtin "sorted") (rSorPr X.K) := by
  intro pins s σ H vs us Q I r h
  obtain ⟨b, xs, ps, rfl, hs, hp, q⟩ := h
  let kk : V → Int × Int := fun x => if z : ∃ p, IsP X.K H x p then z.choose else (0, 0)
  have uq : ∀ x p, IsP X.K H x p → p = kk x := fun x p z => by
    have hz : ∃ p, IsP X.K H x p := ⟨p, z⟩
    have e : kk x = hz.choose := dif_pos hz
    obtain ⟨t, e1, s1⟩ := z
    obtain ⟨t', e2, s2⟩ := hz.choose_spec
    subst e1
    cases e2
    have ee := I.tuple_inj s1 s2
    simp only [List.cons.injEq, V.int.injEq, and_true] at ee
    rw [e]
    exact Prod.ext ee.1 ee.2
  have ps_eq := paired_map uq hp
  obtain ⟨its, rv, hl, hz⟩ := I.list hs
  obtain ⟨u, rfl, ru⟩ := vals1 r
  obtain rfl : u = Value.ref b := ru
  obtain ⟨e1, e2⟩ := refs_back rv fun x m => by
    obtain ⟨p, t, e, _⟩ := paired_mem hp x m
    exact ⟨t, e⟩
  refine SrtO.sorted_pairsO (k := fun u => kk (backV u)) hl.isList (by rw [← rv.length]; exact hz) (fun v hv => ?_) fun h' dd out h1 h2 kp hd hn => ?_
  · have hm : backV v ∈ xs := by rw [e1]; exact List.mem_map.mpr ⟨_, hv, rfl⟩
    obtain ⟨t, rfl⟩ := e2 v hv
    obtain ⟨p, hpp⟩ := paired_mem hp _ hm
    have e3 := uq _ _ hpp
    obtain ⟨t', e, ht⟩ := hpp
    cases e
    obtain ⟨its2, r2, ⟨o, ho, hc, n, hd⟩, _⟩ := I.tuple ht
    obtain ⟨u1, u2, rfl, ri, rj⟩ := vals2 r2
    obtain ⟨t1, rfl⟩ := ri
    obtain ⟨t2, rfl⟩ := rj
    refine ⟨t, o, t1, t2, n, rfl, ho, hc, ?_⟩
    rw [hd, show kk (backV (Value.ref t)) = p from e3.symm]
  · have h3 : ∀ u ∈ out, ∃ a, u = Value.ref a := fun u hu => e2 u (h2.perm.mem_iff.mp hu)
    obtain ⟨n, hn⟩ := hn
    have pm : (out.map backV).Perm xs := by rw [e1]; exact h2.perm.map _
    have ez : ∀ l : List V, l.zip (l.map kk) = l.map fun y => (y, kk y) := fun l => by
      induction l with
      | nil => rfl
      | cons y l ih => show (y, kk y) :: l.zip (l.map kk) = _; rw [ih]; rfl
    have e4 : ((out.map backV).map fun y => (y, kk y)).map (·.1) = out.map backV := by rw [List.map_map]; exact List.map_id'' (fun _ => rfl) _
    have qq := q ((out.map backV).map fun y => (y, kk y)) dd (by rw [ps_eq, ez]; exact pm.map _) ?_ (I.hok.fresh hd)
    rw [e4] at qq
    refine ⟨.ref dd, upd H dd (.lst (out.map backV)), I.laid (t' := s.toks) kp hd ⟨?_, out, n, vals_back h3, hn⟩, rfl, qq⟩
    · rw [pm.length_eq]; exact hz
    · rw [List.map_map, List.map_map, List.pairwise_map]
      refine h1.imp fun {x y} z => ?_
      have z := SrtO.lexB_no.mp z
      show leP (kk (backV x)) (kk (backV y))
      generalize kk (backV x) = A at z ⊢
      generalize kk (backV y) = B at z ⊢
      unfold leP
      omega
end
section
variable {K : PySem.W.Frag} {c : Cl}
/-- sorted(pairs) -/
def XN.sortedP : XN := ⟨fun ws Q => ∃ ps : List (Int × Int), ws = [.lst (arW ps)] ∧ ∀ qs : List (Int × Int), qs.Perm ps → qs.Pairwise leP → Q (.lst (arW qs)), fun k ⟨i, a, q⟩ => ⟨i, a, fun y h h' => k _ (q y h h')⟩⟩
theorem d_sortedP {ws : List W} {Q : W → Prop} : (XN.sortedP.f ws Q) = (on1 ws fun x => onAr x fun ps => ∀ qs : List (Int × Int), qs.Perm ps → qs.Pairwise leP → Q (.lst (arW qs))) := propext ⟨fun ⟨i, e, q⟩ => ⟨_, e, i, rfl, q⟩, fun ⟨x, e, i, e1, q⟩ => ⟨i, by rw [e, e1], q⟩⟩
end
end Z

namespace Z
open PySem L2
/-! ### a dict is gone over -/
theorem Sim.at {h h' : Hp} (s : Sim h h') {a : Addr} {o : HO} (e : h a = some o) (n : ∀ kvs, o ≠ .dK kvs) (n' : ∀ od kvs, o ≠ .frz od (.dK kvs)) : h' a = some o := by
  rcases s a o e with z | ⟨kvs, q, _⟩
  · exact z
  · rcases q with q | ⟨od, q⟩
    · exact absurd q (n kvs)
    · exact absurd q (n' od kvs)
theorem Sim.rd {h h' : Hp} (s : Sim h h') {a : Addr} {o : HO} (e : Rd h a o) (n : ∀ kvs, o ≠ .dK kvs) (n' : ∀ od kvs, o ≠ .frz od (.dK kvs)) : Rd h' a o := by
  rcases e with e | ⟨od, e⟩
  · exact .inl (s.at e n n')
  · exact .inr ⟨od, s.at e (fun _ z => by cases z) (fun _ _ z => by cases z; exact n _ rfl)⟩
theorem Sim.dk {h h' : Hp} (s : Sim h h') {a : Addr} {kvs : List (Key × V)} (e : Rd h a (.dK kvs)) : Rd h' a (.dK kvs) := by
  have go : ∀ o, h a = some o → (o = .dK kvs ∨ ∃ od, o = .frz od (.dK kvs)) → Rd h' a (.dK kvs) := fun o e q => by
    rcases s a o e with z | ⟨k2, q2, z⟩
    · rcases q with rfl | ⟨od, rfl⟩
      · exact .inl z
      · exact .inr ⟨od, z⟩
    · have : k2 = kvs := by
        rcases q with rfl | ⟨od, rfl⟩
        · rcases q2 with q2 | ⟨od, q2⟩ <;> cases q2; rfl
        · rcases q2 with q2 | ⟨od, q2⟩ <;> cases q2; rfl
      subst this
      exact z
  rcases e with e | ⟨od, e⟩
  · exact go _ e (.inl rfl)
  · exact go _ e (.inr ⟨od, rfl⟩)
section
variable {K : PySem.W.Frag} {c : Cl} {h h' : Hp}
theorem Sim.sqT (s : Sim h h') {a : Addr} {xs : List V} (e : SqT K h a xs) : SqT K h' a xs := by
  rcases e with e | e
  · exact .inl (s.rd e (fun _ z => by cases z) (fun _ _ z => by cases z))
  · exact .inr e
theorem Sim.sqL (s : Sim h h') {a : Addr} {xs : List V} (e : SqL K h a xs) : SqL K h' a xs := by
  rcases e with e | e
  · exact .inl (s.rd e (fun _ z => by cases z) (fun _ _ z => by cases z))
  · exact .inr e
mutual
theorem Sim.dq (s : Sim h h') : ∀ {v : V} {d : PyData}, Dq K h v d → Dq K h' v d
  | _, _, .non => .non
  | _, _, .bl b => .bl b
  | _, _, .int i => .int i
  | _, _, .str x => .str x
  | _, _, .lst e q => .lst (s.at e (fun _ z => by cases z) (fun _ _ z => by cases z)) (s.dqs q)
  | _, _, .tup e q => .tup (s.sqT e) (s.dqs q)
theorem Sim.dqs (s : Sim h h') : ∀ {vs : List V} {ds : List PyData}, DqAll K h vs ds → DqAll K h' vs ds
  | _, _, .nil => .nil
  | _, _, .cons a q => .cons (s.dq a) (s.dqs q)
end
mutual
theorem Sim.p (s : Sim h h') : ∀ (w : W) {v : V}, (w.p K c).p v h → (w.p K c).p v h'
  | .non, _, q => s.dq q
  | .bl _, _, q => s.dq q
  | .int _, _, q => s.dq q
  | .str _, _, q => s.dq q
  | .tup xs, v, q => by
    obtain ⟨a, vs, x, y, z⟩ := (show (U K (W.ps K c xs)).p v h from q)
    exact ⟨a, vs, x, s.sqT y, s.ps xs z⟩
  | .lst xs, v, q => by
    obtain ⟨a, vs, x, y, z⟩ := (show (L K (W.ps K c xs)).p v h from q)
    exact ⟨a, vs, x, s.at y (fun _ z => by cases z) (fun _ _ z => by cases z), s.ps xs z⟩
  | .rig _, _, q => by
    obtain ⟨a, dx, u, x, y, a2, o, xs, x1, x2, x3, x4⟩ := q
    exact ⟨a, dx, u, x, s.at y (fun _ z => by cases z) (fun _ _ z => by cases z), a2, o, xs, x1, s.at x2 (fun _ z => by cases z) (fun _ _ z => by cases z), x3, s.dqs x4⟩
  | .arm _, _, q => by
    obtain ⟨a2, o, xs, x1, x2, x3, x4⟩ := q
    exact ⟨a2, o, xs, x1, s.at x2 (fun _ z => by cases z) (fun _ _ z => by cases z), x3, s.dqs x4⟩
  | .mem _, _, q => by
    obtain ⟨a, dx, u, x, y, z⟩ := q
    exact ⟨a, dx, u, x, s.at y (fun _ z => by cases z) (fun _ _ z => by cases z), s.dq z⟩
  | .src, _, q => by
    obtain ⟨d, x, y⟩ := q
    exact ⟨d, x, s.at y (fun _ z => by unfold DrawX at z; cases z) (fun _ _ z => by unfold DrawX at z; cases z)⟩
  | .scr _, _, q => by
    obtain ⟨a, x, y⟩ := q
    exact ⟨a, x, s.sqL y⟩
  | .dct _, _, q => by
    obtain ⟨a, x, y⟩ := q
    exact ⟨a, x, s.dk y⟩
  | .ty _, _, q => q
  | .cls _, _, q => q
  | .adr _, _, q => q
  | .exc _ _, _, q => q
  | .ecl _, _, q => q
  | .pr p, _, q => p.sim s q
  | .exv a d n i, _, q => by
    obtain ⟨x, y⟩ := q
    refine ⟨x, ?_⟩
    cases i with
    | none => exact y
    | some z => obtain ⟨dd, y1, y2⟩ := y; exact ⟨dd, y1, s.at y2 (fun _ z => by cases z) (fun _ _ z => by cases z)⟩
  | .ob xs, _, q => by
    obtain ⟨a, dx, us, x, y, r⟩ := q
    exact ⟨a, dx, us, x, s.at y (fun _ z => by cases z) (fun _ _ z => by cases z), s.ps xs r⟩
theorem Sim.ps (s : Sim h h') : ∀ (ws : List W) {vs : List V}, Vs (W.ps K c ws) vs h → Vs (W.ps K c ws) vs h'
  | [], _, q => by cases q; exact .nil
  | w :: ws, vs, q => by
    have q : Vs (w.p K c :: W.ps K c ws) vs h := q
    cases q with
    | cons a r => exact .cons (s.p w a) (s.ps ws r)
end
theorem Sim.un {h : Hp} {l : Addr} {kvs : List (Key × V)} {od : Obj} (e : h l = some (.frz od (.dK kvs))) : Sim h (upd h l (.dK kvs)) := fun a o q => by
  by_cases z : a = l
  · subst z
    rw [e] at q
    cases q
    exact .inr ⟨kvs, .inr ⟨od, rfl⟩, .inl upd_same⟩
  · exact .inl (by rw [upd_ne z]; exact q)
theorem Sim.en {ρ : Sl} {σ : St} (s : Sim h h') (n : En (ρ.G K c) σ h) : En (ρ.G K c) σ h' := by
  refine ⟨n.len, fun i P hi => ?_⟩
  obtain ⟨v, a, b⟩ := n.at_ i P hi
  refine ⟨v, a, ?_⟩
  unfold Sl.G at hi
  rw [List.getElem?_map] at hi
  cases e : ρ[i]? with
  | none => rw [e] at hi; cases hi
  | some o =>
    rw [e] at hi
    cases o with
    | none => cases hi
    | some w => cases hi; exact s.p w b
variable {te : TE} {e : XE}
def XE.compD (i : Nat) (g : XG) (t : XT) (e : XE) (vs : List Nat) : XE := ⟨fun ρ Q => ∃ w, ρ[i]? = some (some w) ∧ ∃ al, w = .dct al ∧ al.length ≤ 50000 ∧ CompI (al.map fun p : Int × Int => W.int p.1) g t e (wS ρ vs) Q, fun k ⟨w, ew, al, e1, hz, I, a, b, d⟩ => ⟨w, ew, al, e1, hz, I, a, b, fun acc z => k _ (d acc z)⟩⟩
theorem d_compD {ρ : Sl} {Q : W → Prop} {i : Nat} {g : XG} {t : XT} {vs : List Nat} : ((XE.compD i g t e vs).f ρ Q) = (onS ρ i fun w => onD w fun al => al.length ≤ 50000 ∧ wipeC ρ vs fun ρ' => CompI (al.map fun p : Int × Int => W.int p.1) g t e ρ' Q) := rfl
end
/-! ### a dict is made -/
/-- the object being made holds o -/
structure Lo (h0 H0 : Hp) (Dl : Addr) (o : HO) (h H' : Hp) : Prop where
  v : H' Dl = some o
  n : h Dl = none
  st : Stp h0 H0 h (fun a => if a = Dl then none else H' a)
theorem Lo.ex {h0 H0 h H' : Hp} {Dl : Addr} {o : HO} (x : Lo h0 H0 Dl o h H') : Ex h H' := fun a u e => by
  have z : (if a = Dl then none else H' a) = some u := x.st.i a u e
  by_cases c : a = Dl
  · rw [if_pos c] at z; cases z
  · rw [if_neg c] at z; exact z
theorem Lo.go {h0 H0 h H' h1 H1 : Hp} {Dl : Addr} {o : HO} (x : Lo h0 H0 Dl o h H') (s : Stp h H' h1 H1) (po : plo o = true := by rfl) : Lo h0 H0 Dl o h1 H1 := by
  have v1 := s.e _ _ x.v (plo_nt po)
  have n1 := s.f Dl _ x.v x.n (.inl po)
  refine ⟨v1, n1, x.st.e0.hide s.e0 (plo_at v1 po), fun a u e => s.s a u (x.st.s a u e), fun a u e => ?_, fun a u e nn y9 => ?_⟩
  · show (if a = Dl then none else H1 a) = some u
    rw [if_neg (ne_of_none e n1)]
    exact s.i a u e
  · obtain ⟨o', z⟩ := x.st.e0.some e
    have z : (if a = Dl then none else H' a) = some o' := z
    by_cases c : a = Dl
    · rw [if_pos c] at z; cases z
    · rw [if_neg c] at z
      exact s.f0 a o' z (x.st.f0 a u e nn (nx_un (nx_back s.e0 (nx_if c y9)))) (nx_if c y9)
theorem Lo.put {h0 H0 h H' : Hp} {Dl : Addr} {o u : HO} (x : Lo h0 H0 Dl o h H') : Lo h0 H0 Dl u h (upd H' Dl u) := by
  refine ⟨upd_same, x.n, ?_⟩
  have e : (fun a => if a = Dl then none else upd H' Dl u a) = (fun a => if a = Dl then none else H' a) := by
    funext a
    by_cases c : a = Dl
    · rw [if_pos c, if_pos c]
    · rw [if_neg c, if_neg c, upd_ne c]
  rw [e]
  exact x.st
theorem Lo.start {h1 H1 : Hp} {Dl : Addr} {o : HO} (e : Ex h1 H1) (hD : H1 Dl = none) : Lo h1 H1 Dl o h1 (upd H1 Dl o) := by
  refine ⟨upd_same, ?_, ?_⟩
  · cases z : h1 Dl with
    | none => rfl
    | some u => rw [e Dl u z] at hD; cases hD
  · have z : (fun a => if a = Dl then none else upd H1 Dl o a) = H1 := by
      funext a
      by_cases c : a = Dl
      · subst c; rw [if_pos rfl]; exact hD.symm
      · rw [if_neg c, upd_ne c]
    rw [z]
    exact Stp.refl e
theorem Lo.done {h1 H1 h' H' : Hp} {Dl : Addr} {o : HO} (x : Lo h1 H1 Dl o h' H') (hD : H1 Dl = none) : Stp h1 H1 (upd h' Dl o) H' := by
  have e1 : Ex h' (upd h' Dl o) := fun a u e => by rw [upd_ne (ne_of_none e x.n)]; exact e
  refine ⟨x.st.e0.unhide, fun a u e => e1 a u (x.st.s a u e), fun a u e => ?_, fun a u e nn y9 => ?_⟩
  · by_cases c : a = Dl
    · subst c; rw [upd_same] at e; cases e; exact x.v
    · rw [upd_ne c] at e
      exact x.ex a u e
  · rw [upd_ne (ne_of_none e hD)]
    exact x.st.f0 a u e nn (nx_un y9)
section
variable {K : PySem.W.Frag} {c : Cl}
/-- a dict from numbers to numbers is made item by item -/
def DCompI (ws : List W) (g : XG) (t : XT) (ek ev : XE) (ρ : Sl) (Q : W → Prop) : Prop := ∃ I : Nat → List (Int × Int) → Prop, I 0 [] ∧
  (∀ (i : Nat) (w : W) (acc : List (Int × Int)), ws[i]? = some w → I i acc → g.f w ρ fun ρ' => t.f ρ' fun b => (b = true → ek.f ρ' fun y => onI y fun x => ev.f ρ' fun z => onI z fun n => I (i + 1) (putI acc x n)) ∧ (b = false → I (i + 1) acc)) ∧ (∀ acc, I ws.length acc → Q (.dct acc))
def XE.dcomp (it : XI) (g : XG) (t : XT) (ek ev : XE) (vs : List Nat) : XE := ⟨fun ρ Q => it.f ρ fun ws => ws.length ≤ 50000 ∧ DCompI ws g t ek ev (wS ρ vs) Q, fun k q => it.m (fun ws ⟨hz, I, a, b, d⟩ => ⟨hz, I, a, b, fun acc z => k _ (d acc z)⟩) q⟩
theorem d_dcomp {ρ : Sl} {Q : W → Prop} {it : XI} {g : XG} {t : XT} {ek ev : XE} {vs : List Nat} : ((XE.dcomp it g t ek ev vs).f ρ Q) = (it.f ρ fun ws => ws.length ≤ 50000 ∧ wipeC ρ vs fun ρ' => DCompI ws g t ek ev ρ' Q) := rfl
end
def runD := And.intro @d_sl2 (And.intro @d_sortedP (And.intro @d_compD @d_dcomp))
end Z

namespace Z
open PySem L2
/-! ### a third class, with several attributes -/
def W.isX : W → Prop | .ob _ => True | _ => False
section
variable {K : PySem.W.Frag} {c : Cl} {te ta tb : TE} {tr : TA} {e a b d : XE} {ar : XA}
def XS.setf (i n : Nat) (a : XE) : XS := ⟨fun φ κ => ∃ fs, φ.m = some (i, .ins fs) ∧ fs.length = n ∧ a.f φ.s fun w => κ.nx ⟨φ.s, some (i, .ins (fs ++ [w]))⟩, fun k ⟨fs, e, l, q⟩ => ⟨fs, e, l, a.m (fun _ z => k.nx _ z) q⟩⟩
theorem d_setf {s : Sl} {κ : Ko} {i n : Nat} {fs : List W} : ((XS.setf i n a).f ⟨s, some (i, .ins fs)⟩ κ) = (fs.length = n ∧ a.f s fun w => κ.nx ⟨s, some (i, .ins (fs ++ [w]))⟩) := propext ⟨fun ⟨ys, e, h, q⟩ => by cases e; exact ⟨h, q⟩, fun ⟨h, q⟩ => ⟨_, rfl, h, q⟩⟩
/-- what an __init__ promises -/
def spIniX (K : PySem.W.Frag) (c : Cl) (F : XF) : Sp := fun vs H Q _ => ∃ (x dx : Addr) (a : F.α) (us : List V) (h : Hp), vs = .ref x :: us ∧ H x = some (.ins c.X dx []) ∧ Ex h H ∧ h x = none ∧ Vs (W.ps K c (F.args a)) us h ∧ F.pre a ∧
  ∀ (h1 H1 : Hp) (fs : List W) (ws : List V) (dx' : Addr), F.post a (.ob fs) → Vs (W.ps K c fs) ws h1 → h1 x = none → Exq (fun b => if b = x then none else H b) H1 → (∀ a o, h a = some o → h1 a = some o) → Ex h1 H1 → (∀ a o, a ≠ x → H a = some o → h a = none → nx H1 a → h1 a = none) → H1 x = some (.ins c.X dx' (c.fn.zip ws)) → Q .non H1
def XE.mkX (F : XF) (a : XA) : XE := ⟨fun ρ Q => a.f ρ fun ws => ∃ x, ws = F.args x ∧ F.pre x ∧ ∀ fs, F.post x (.ob fs) → Q (.ob fs), fun k q => a.m (fun ws ⟨x, e, p, q⟩ => ⟨x, e, p, fun fs z => k _ (q fs z)⟩) q⟩
variable {P : Program} {w : World} {mg : Str → Option Value} {base : Heap}
/-- an __init__ runs -/
theorem Dm.ini {F : XF} {m qual : Str} {st : Stmt} {ps N : List Str} {k : Nat} {f : Addr} {s : XS} (d : Dm K m qual st ps f) (S : FnScope N ps (defScope st)) (hn : F.n + 1 = ps.length)
    (hb : ∀ (a : F.α), F.pre a → ∀ x, s.f ⟨some (.adr x) :: ((F.args a).map some ++ List.replicate (N.length - ps.length) none), some (0, .ins [])⟩ ⟨fun φ => ∃ s fs, φ = ⟨some (.adr x) :: s, some (0, .ins fs)⟩ ∧ F.post a (.ob fs), fun _ => False, fun _ => False, fun _ => False⟩)
    (ht : ∀ (cdv : Value) (A : Around) (outer : List Env) (sh : Shared) (H : Hp) (E : XK), Room k (A.deeper (PyProof.Rows.envOfC qual (defScope st) sh.heap.objs.size f cdv)) → ∃ t : TS, PSs (cxOf CX0 P w K mg base N qual (defScope st) f cdv A outer sh H E).nox (defBody st) t ∧ ES K c t s) :
    ∃ fd, FnOk P w K mg base CX0 (k + 1) f fd ps (spIniX K c F) ∧ Binds K fd ps [] := by
  refine d.ok S (fun vs H Q E h => ?_) fun cdv A outer sh H vs Q E hr h => ?_
  · obtain ⟨x, dx, a, us, h, rfl, _, _, _, q, _⟩ := h
    rw [List.length_cons, q.len, ps_len, F.hn, hn]
  · obtain ⟨t, ht, hs⟩ := ht cdv A outer sh H E hr
    refine ⟨t, ht, ?_⟩
    obtain ⟨x, dx, a, us, h, rfl, hx, e, nx, q, p, kk⟩ := h
    have hl : (W.ps K c (F.args a)).length + 1 = ps.length := by rw [ps_len, F.hn, hn]
    have z := en_start (args := fun _ : Unit => Pr.is (.ref x) :: W.ps K c (F.args a)) (N := N) (ps := ps) (a := ()) (h := h) (vs := .ref x :: us) (fun _ => hl) (.cons rfl q)
    have z' : En (Sl.G K c (some (.adr x) :: ((F.args a).map some ++ List.replicate (N.length - ps.length) none))) (L2.start N (.ref x :: us)) h := by
      refine ⟨?_, fun i P hi => ?_⟩
      · rw [z.len, G_len]
        simp [ps_len]
      · cases i with
        | zero => exact z.at_ 0 P hi
        | succ i =>
          refine z.at_ (i + 1) P ?_
          have hi : (((F.args a).map some ++ List.replicate (N.length - ps.length) (none : Option W)).map (Option.map (W.p K c)))[i]? = some (some P) := hi
          show ((W.ps K c (F.args a)).map some ++ List.replicate (N.length - ps.length) none)[i]? = some (some P)
          rw [List.map_append, List.map_map] at hi
          rw [ps_map, List.map_map]
          rw [List.map_replicate] at hi
          exact hi
    let H0 : Hp := fun b => if b = x then none else H b
    have e0 : Ex h H0 := fun b o y => by
      show (if b = x then none else H b) = some o
      rw [if_neg (ne_of_none y nx)]; exact e b o y
    have st0 : Stp h H0 h H := ⟨Exq.refl.unhide, fun _ _ y => y, e, fun b o y n _ => n⟩
    have at0 : (L2.start N (.ref x :: us))[0]? = some (some (.ref x)) := by
      obtain ⟨v, h1, h2⟩ := z.at_ 0 (Pr.is (.ref x)) rfl
      rw [h1, show v = .ref x from h2]
    refine hs _ _ ⟨h, H0, h⟩ _ (hb a p x) ?_ (L2.start N (.ref x :: us)) h H z' ⟨st0, fun _ _ q => q⟩ ⟨x, _, at0, nx, if_pos rfl, hx, dx, [], by rw [List.zip_nil_right], .nil⟩
    refine ⟨fun φ zz σ h' H' n s' m => ?_, fun w zz => zz.elim, fun φ zz => zz.elim, fun φ zz => zz.elim⟩
    obtain ⟨sl, fs, rfl, pf⟩ := zz
    obtain ⟨l, o, m1⟩ := (show ∃ l o, Mu1 ⟨h, H0, h⟩ 0 (ctIns c.X c.fn (W.ps K c fs)) σ h' H' l o from m)
    obtain ⟨v, h1, h2⟩ := n.at_ 0 (Pr.is (.ref x)) rfl
    have lx : l = x := by
      have z1 := m1.at_
      rw [h1, show v = .ref x from h2] at z1
      cases z1; rfl
    subst lx
    obtain ⟨dx', ws, rfl, hv⟩ := m1.ct
    refine kk h' H' fs ws dx' pf hv m1.nh s'.st.e0 (fun b o y => s'.st.s b o y) s'.st.i (fun b o hb y nn y9 => s'.st.f0 b o (by show (if b = l then none else H b) = _; rw [if_neg hb]; exact y) nn y9) m1.oH
end
section
variable {K : PySem.W.Frag} {c : Cl} {te ta tb : TE} {tr : TA} {e a b d : XE} {ar : XA}
def XE.fldX (n : Nat) (a : XE) : XE := ⟨fun ρ Q => a.f ρ fun w => ∃ xs, w = .ob xs ∧ ∃ u, xs[n]? = some u ∧ Q u, fun k q => a.m (fun w ⟨xs, e, u, e1, q⟩ => ⟨xs, e, u, e1, k _ q⟩) q⟩
def XE.propX (F : XF) (a : XE) : XE := ⟨fun ρ Q => a.f ρ fun w => w.isX ∧ F.f [w] Q, fun k q => a.m (fun w ⟨i, z⟩ => ⟨i, F.m k z⟩) q⟩
def XE.callX (F : XF) (a : XE) (r : XA) : XE := ⟨fun ρ Q => a.f ρ fun w => w.isX ∧ r.f ρ fun ws => F.f (w :: ws) Q, fun k q => a.m (fun w ⟨i, z⟩ => ⟨i, r.m (fun _ z => F.m k z) z⟩) q⟩
def onO (x : W) (P : List W → Prop) : Prop := ∃ i, x = .ob i ∧ P i
def isXC (x : W) (P : Prop) : Prop := x.isX ∧ P
theorem onO_ob {xs : List W} {P : List W → Prop} : (onO (.ob xs) P) = (P xs) := propext ⟨fun ⟨x, e, p⟩ => (by cases e; exact p), fun p => ⟨_, rfl, p⟩⟩
theorem isXC_ob {xs : List W} {P : Prop} : (isXC (.ob xs) P) = P := propext ⟨fun p => p.2, fun p => ⟨trivial, p⟩⟩
theorem d_fldX {ρ : Sl} {Q : W → Prop} {n : Nat} : ((XE.fldX n a).f ρ Q) = (a.f ρ fun w => onO w fun xs => ∃ u, xs[n]? = some u ∧ Q u) := rfl
theorem d_propX {ρ : Sl} {Q : W → Prop} {F : XF} : ((XE.propX F a).f ρ Q) = (a.f ρ fun w => isXC w (F.f [w] Q)) := rfl
theorem d_callX {ρ : Sl} {Q : W → Prop} {F : XF} : ((XE.callX F a ar).f ρ Q) = (a.f ρ fun w => isXC w (ar.f ρ fun ws => F.f (w :: ws) Q)) := rfl
theorem d_mkX {ρ : Sl} {Q : W → Prop} {F : XF} : ((XE.mkX F ar).f ρ Q) = (ar.f ρ fun ws => ∃ x, ws = F.args x ∧ F.pre x ∧ ∀ fs, F.post x (.ob fs) → Q (.ob fs)) := rfl
end
section
variable {K : PySem.W.Frag} {c : Cl}
/-- a list so many times -/
def XO.rep : XO := ⟨fun x y Q => ∃ xs k, x = .lst xs ∧ y = .int k ∧ 0 ≤ k ∧ k ≤ 100000 ∧ xs.length * k.toNat ≤ 100000 ∧ Q (.lst (List.replicate k.toNat xs).flatten), fun k ⟨xs, i, a, b, d, e, z, q⟩ => ⟨xs, i, a, b, d, e, z, k _ q⟩⟩
theorem vs_rep {Ps : List Pr} {us : List V} {h : Hp} (q : Vs Ps us h) : ∀ n : Nat, Vs (List.replicate n Ps).flatten (List.replicate n us).flatten h
  | 0 => .nil
  | n + 1 => by
    rw [List.replicate_succ, List.replicate_succ, List.flatten_cons, List.flatten_cons]
    exact vs_app q (vs_rep q n)
theorem eo_rep : EO K c rRep .rep := fun x y Q ⟨xs, k, ex, ey, k0, k1, kz, q⟩ u v h H a d e R kk => by
  subst ex ey
  obtain ⟨p, us, rfl, hp, zp⟩ := (show (L K (W.ps K c xs)).p u h from a)
  obtain rfl := p_int d
  refine ⟨p, k, us, rfl, rfl, e _ _ hp, by omega, by omega, Evl.sz_of (by rw [zp.len, ps_len]; exact kz), fun r nr => ?_⟩
  have st := Stp.new (o := .lst (List.replicate k.toNat us).flatten) e nr
  refine kk _ (upd h r (.lst (List.replicate k.toNat us).flatten)) _ st ⟨_, q, r, _, rfl, upd_same, ?_⟩
  have e1 : W.ps K c (List.replicate k.toNat xs).flatten = (List.replicate k.toNat (W.ps K c xs)).flatten := by
    rw [ps_map, List.map_flatten, List.map_replicate, ← ps_map]
  rw [e1]
  exact vs_rep (zp.mono st.s) _
theorem d_rep {x y : W} {Q : W → Prop} : (XO.rep.f x y Q) = (onL x fun xs => onI y fun k => 0 ≤ k ∧ k ≤ 100000 ∧ xs.length * k.toNat ≤ 100000 ∧ Q (.lst (List.replicate k.toNat xs).flatten)) := propext ⟨fun ⟨xs, k, a, b, q⟩ => ⟨xs, a, k, b, q⟩, fun ⟨xs, a, k, b, q⟩ => ⟨xs, k, a, b, q⟩⟩
end
/-! ### how many unlike numbers -/
section
variable {X : Cx}
def dist (ns : List Int) : Nat := (PyProof.Rows.firstMet (fun i => ns.getD i 0) ns.length).length
end
section
variable {K : PySem.W.Frag} {c : Cl}
def XN.lenSet : XN := ⟨fun ws Q => ∃ ns : List Int, ws = [.lst (ns.map .int)] ∧ ns.length < 64 ∧ Q (.int (dist ns : Nat)), fun k ⟨i, a, n, q⟩ => ⟨i, a, n, k _ q⟩⟩
theorem d_nlenS {ws : List W} {Q : W → Prop} : (XN.lenSet.f ws Q) = (on1 ws fun x => onIs x fun ns => ns.length < 64 ∧ Q (.int (dist ns : Nat))) := propext ⟨fun ⟨i, e, q⟩ => ⟨_, e, i, rfl, q⟩, fun ⟨x, e, i, e1, q⟩ => ⟨i, by rw [e, e1], q⟩⟩
end
/-! ### a new list is changed and let go -/
section
variable {K : PySem.W.Frag} {c : Cl} {ta tx : TE} {a x : XE}
/-- what is known, no list among it -/
def noL (h : Hp) : Hp := fun r => match h r with | some (.lst _) => none | o => o
theorem noL_of {h : Hp} {r : Addr} {o : HO} (q : h r = some o) (n : ∀ xs, o ≠ .lst xs) : noL h r = some o := by
  unfold noL
  rw [q]
  cases o <;> first | rfl | exact absurd rfl (n _)
def W.low : W → Bool | .mem _ => true | .int _ => true | _ => false
theorem low_p {w : W} {v : V} {h : Hp} (n : w.low = true) (q : (W.p K c w).p v h) : (W.p K c w).p v (noL h) := by
  cases w <;> first | (cases n; done) | skip
  · obtain rfl := p_int q
    exact Dq.int _
  · obtain ⟨a, dx, u, rfl, ho, z⟩ := q
    obtain ⟨t, rfl, s⟩ := dp_intsT z
    refine ⟨a, dx, _, rfl, noL_of ho (by intro xs e; cases e), intsT_dp ?_⟩
    rcases s with (s | ⟨o, s⟩) | s
    · exact .inl (.inl (noL_of s (by intro xs e; cases e)))
    · exact .inl (.inr ⟨o, noL_of s (by intro xs e; cases e)⟩)
    · exact .inr s
def Sl.low (ρ : Sl) : Sl := ρ.map fun o => match o with | some w => if w.low = true then some w else none | none => none
/-- f(..).append(x), the list new -/
def XS.dropApp (a x : XE) : XS := ⟨fun φ κ => φ.m = none ∧ a.f φ.s.low fun w => ∃ xs, w = .lst xs ∧ xs.length < 100000 ∧ x.f (φ.s.map fun _ => none) fun _ => κ.nx φ, fun k ⟨o, q⟩ => ⟨o, a.m (fun _ ⟨xs, e, l, z⟩ => ⟨xs, e, l, x.m (fun _ y => k.nx _ y) z⟩) q⟩⟩
theorem d_dropApp {s : Sl} {κ : Ko} : ((XS.dropApp a x).f ⟨s, none⟩ κ) = (a.f s.low fun w => onL w fun xs => xs.length < 100000 ∧ x.f (s.map fun _ => none) fun _ => κ.nx ⟨s, none⟩) := propext ⟨fun ⟨_, q⟩ => q, fun q => ⟨rfl, q⟩⟩
end
/-! ### the sum of a dict's values -/
section
variable {X : Cx} {ob : Expr} {p1 p2 p3 p4 : Pos} {td : TE}
end
section
variable {K : PySem.W.Frag} {c : Cl} {ta : TE} {a : XE}
def XE.sumV (a : XE) : XE := ⟨fun ρ Q => a.f ρ fun w => ∃ al, w = .dct al ∧ al.length ≤ 100000 ∧ (∀ p ∈ al, 0 ≤ p.2 ∧ p.2 ≤ 1000000000) ∧ Q (.int (al.map (·.2)).sum), fun k q => a.m (fun _ ⟨al, e, n, b, z⟩ => ⟨al, e, n, b, k _ z⟩) q⟩
theorem d_sumV {ρ : Sl} {Q : W → Prop} : ((XE.sumV a).f ρ Q) = (a.f ρ fun w => onD w fun al => al.length ≤ 100000 ∧ (∀ p ∈ al, 0 ≤ p.2 ∧ p.2 ≤ 1000000000) ∧ Q (.int (al.map (·.2)).sum)) := rfl
end
/-! ### an empty dict; a dict of a dict, to be changed -/
section
variable {K : PySem.W.Frag} {c : Cl} {ta : TE} {a : XE}
def XE.dnil : XE := ⟨fun ρ Q => Q (.dct []), fun k q => k _ q⟩
theorem d_dnil {ρ : Sl} {Q : W → Prop} : (XE.dnil.f ρ Q) = Q (.dct []) := rfl
def XS.newDD (i : Nat) (a : XE) : XS := ⟨fun φ κ => φ.m = none ∧ i < φ.s.length ∧ a.f φ.s fun w => ∃ al, w = .dct al ∧ κ.nx ⟨φ.s.set i none, some (i, .dct al)⟩, fun k ⟨o, l, q⟩ => ⟨o, l, a.m (fun _ ⟨al, e, z⟩ => ⟨al, e, k.nx _ z⟩) q⟩⟩
theorem d_newDD {s : Sl} {κ : Ko} {i : Nat} : ((XS.newDD i a).f ⟨s, none⟩ κ) = (i < s.length ∧ a.f s fun w => onD w fun al => κ.nx ⟨s.set i none, some (i, .dct al)⟩) := propext ⟨fun ⟨_, q⟩ => q, fun q => ⟨rfl, q⟩⟩
end
def runE := And.intro @d_setf (And.intro @onO_ob (And.intro @isXC_ob (And.intro @d_fldX (And.intro @d_propX (And.intro @d_callX (And.intro @d_mkX (And.intro @d_rep (And.intro @d_nlenS (And.intro @d_dropApp (And.intro @d_sumV (And.intro @d_dnil @d_newDD)))))))))))
end Z

namespace Z
open PySem L2
/-! ### for k, v in d.items(), d standing -/
section
variable {K : PySem.W.Frag} {c : Cl} {te ta tb : TE} {tu : TS} {e a : XE}
def XS.forG (wo : List (Int × Int) → List W) (a : XE) (g : XG) (x : XS) : XS := ⟨fun φ κ => a.f φ.s fun w => ∃ al, w = .dct al ∧ ForI (wo al) g x φ κ, fun {φ κ κ'} k q => a.m (fun w ⟨al, e, I, a, b, d⟩ => ⟨al, e, I, a, fun i w φ' hw hi => ⟨(b i w φ' hw hi).1, g.m (fun _ z => x.m (a := ⟨I (i + 1), κ.rt, κ.nx, I (i + 1)⟩) (b := ⟨I (i + 1), κ'.rt, κ'.nx, I (i + 1)⟩) ⟨fun _ y => y, k.rt, k.nx, fun _ y => y⟩ z) (b i w φ' hw hi).2⟩, fun φ' z => k.nx _ (d φ' z)⟩) q⟩
theorem Sim.co {h h' : Hp} (s : Sim h h') : ∀ {co : Co} {o : HO}, (co.ct K c).p o h → (co.ct K c).p o h'
  | .lst xs, o, q => by
    obtain ⟨vs, e, z⟩ := q
    exact ⟨vs, e, s.ps xs z⟩
  | .dct al, o, q => q
  | .ins fs, o, q => by
    obtain ⟨dx, us, e, z⟩ := q
    exact ⟨dx, us, e, s.ps fs z⟩
abbrev kyW (al : List (Int × Int)) : List W := al.map fun p => .int p.1
theorem d_forG0 {s : Sl} {κ : Ko} {wo : List (Int × Int) → List W} {g : XG} {x : XS} : ((XS.forG wo a g x).f ⟨s, none⟩ κ) = (a.f s fun w => onD w fun al => ForI (wo al) g x ⟨s, none⟩ κ) := rfl
theorem d_forG1 {s : Sl} {κ : Ko} {i0 : Nat} {co : Co} {wo : List (Int × Int) → List W} {g : XG} {x : XS} : ((XS.forG wo a g x).f ⟨s, some (i0, co)⟩ κ) = (a.f s fun w => onD w fun al => ForI (wo al) g x ⟨s, some (i0, co)⟩ κ) := rfl
end
/-! ### the list of a dict's keys -/
section
variable {K : PySem.W.Frag} {c : Cl}
def XN.listD : XN := ⟨fun ws Q => ∃ al, ws = [.dct al] ∧ Q (.lst (kyW al)), fun k ⟨al, a, q⟩ => ⟨al, a, k _ q⟩⟩
theorem d_nlistD {ws : List W} {Q : W → Prop} : (XN.listD.f ws Q) = (on1 ws fun x => onD x fun al => Q (.lst (kyW al))) := propext ⟨fun ⟨al, e, q⟩ => ⟨_, e, al, rfl, q⟩, fun ⟨x, e, al, e1, q⟩ => ⟨al, by rw [e, e1], q⟩⟩
end
def runF := And.intro @d_forG0 (And.intro @d_forG1 @d_nlistD)
end Z

namespace Z
open PySem L2
/-! ### max of a list of tuples (number, number, tuple of numbers) -/
section
variable {K : PySem.W.Frag} {c : Cl}
end
end Z

namespace Z
open PySem L2
/-! ### two lists that are changed -/
mutual
/-- no list in it -/
def W.nl : W → Bool
  | .non => true | .bl _ => true | .int _ => true | .str _ => true | .mem _ => true
  | .tup xs => W.nls xs
  | _ => false
def W.nls : List W → Bool
  | [] => true
  | w :: ws => W.nl w && W.nls ws
end
section
variable {K : PySem.W.Frag} {c : Cl}
theorem sqT_noL {h : Hp} {a : Addr} {xs : List V} (s : SqT K h a xs) : SqT K (noL h) a xs := by
  rcases s with (s | ⟨o, s⟩) | s
  · exact .inl (.inl (noL_of s (by intro xs e; cases e)))
  · exact .inl (.inr ⟨o, noL_of s (by intro xs e; cases e)⟩)
  · exact .inr s
mutual
theorem nl_p {h : Hp} : ∀ (w : W) {v : V}, w.nl = true → (w.p K c).p v h → (w.p K c).p v (noL h)
  | .non, _, _, q => by obtain rfl := dp_non q; exact Dq.non
  | .bl _, _, _, q => by obtain rfl := dp_bl q; exact Dq.bl _
  | .int _, _, _, q => by obtain rfl := dp_int q; exact Dq.int _
  | .str _, _, _, q => by obtain rfl := dp_str q; exact Dq.str _
  | .mem qs, v, _, q => low_p (w := .mem qs) rfl q
  | .tup xs, v, n, q => by
    obtain ⟨a, vs, x, y, z⟩ := (show (U K (W.ps K c xs)).p v h from q)
    exact ⟨a, vs, x, sqT_noL y, nls_p xs n z⟩
  | .lst _, _, n, _ => by cases n
  | .rig _, _, n, _ => by cases n
  | .arm _, _, n, _ => by cases n
  | .src, _, n, _ => by cases n
  | .scr _, _, n, _ => by cases n
  | .dct _, _, n, _ => by cases n
  | .ty _, _, n, _ => by cases n
  | .cls _, _, n, _ => by cases n
  | .ob _, _, n, _ => by cases n
  | .adr _, _, n, _ => by cases n
theorem nls_p {h : Hp} : ∀ (ws : List W) {vs : List V}, W.nls ws = true → Vs (W.ps K c ws) vs h → Vs (W.ps K c ws) vs (noL h)
  | [], _, _, q => by cases q; exact .nil
  | w :: ws, vs, n, q => by
    have n : (w.nl && W.nls ws) = true := n
    rw [Bool.and_eq_true] at n
    have q : Vs (w.p K c :: W.ps K c ws) vs h := q
    cases q with
    | cons a r => exact .cons (nl_p w n.1 a) (nls_p ws n.2 r)
end
structure Fr2 where
  s : Sl
  i : Nat
  xs : List W
  j : Nat
  ys : List W
def Fr2.rev (φ : Fr2) : Sl := (φ.s.set φ.i (some (.lst φ.xs))).set φ.j (some (.lst φ.ys))
structure Mu2 (K : PySem.W.Frag) (c : Cl) (b : Bs) (φ : Fr2) (σ : St) (h H : Hp) (l1 l2 : Addr) (vs us : List V) : Prop where
  a1 : σ[φ.i]? = some (some (.ref l1))
  a2 : σ[φ.j]? = some (some (.ref l2))
  ne : l1 ≠ l2
  h1 : h l1 = none
  h2 : h l2 = none
  z1 : b.H0 l1 = none
  z2 : b.H0 l2 = none
  o1 : H l1 = some (.lst vs)
  o2 : H l2 = some (.lst us)
  c1 : Vs (W.ps K c φ.xs) vs h
  c2 : Vs (W.ps K c φ.ys) us h
theorem Mu2.go {b : Bs} {φ : Fr2} {σ : St} {h H h' H' : Hp} {l1 l2 : Addr} {vs us : List V} (m : Mu2 K c b φ σ h H l1 l2 vs us) (s : Stp h H h' H') : Mu2 K c b φ σ h' H' l1 l2 vs us :=
  ⟨m.a1, m.a2, m.ne, s.f _ _ m.o1 m.h1, s.f _ _ m.o2 m.h2, m.z1, m.z2, s.e _ _ m.o1, s.e _ _ m.o2, m.c1.mono s.s, m.c2.mono s.s⟩
theorem Mu2.tg {b : Bs} {φ : Fr2} {ρ : Sl} {σ σ' : St} {h H : Hp} {l1 l2 : Addr} {vs us : List V} {is : List Nat} (m : Mu2 K c b φ σ h H l1 l2 vs us) (ho : ∀ k, k ∉ is → σ'[k]? = σ[k]?) (n1 : φ.i ∉ is) (n2 : φ.j ∉ is) : Mu2 K c b { φ with s := ρ } σ' h H l1 l2 vs us :=
  ⟨(ho _ n1).trans m.a1, (ho _ n2).trans m.a2, m.ne, m.h1, m.h2, m.z1, m.z2, m.o1, m.o2, m.c1, m.c2⟩
structure Ko2 where
  nx : Fr2 → Prop
  rt : W → Prop
  bk : Fr2 → Prop
  ct : Fr2 → Prop
structure Ko2.Le (a b : Ko2) : Prop where
  nx : ∀ φ, a.nx φ → b.nx φ
  rt : ∀ w, a.rt w → b.rt w
  bk : ∀ φ, a.bk φ → b.bk φ
  ct : ∀ φ, a.ct φ → b.ct φ
structure XS2 where
  f : Fr2 → Ko2 → Prop
  m : ∀ {φ : Fr2} {a b : Ko2}, a.Le b → f φ a → f φ b
variable {te ta tb tc : TE} {tr : TA} {t : TT} {tu tw tz : TS} {e a d : XE} {ar : XA}
/-- names = e, the lists not read -/
def XS2.asg (g : XG) (a : XE) : XS2 := ⟨fun φ κ => (φ.i ∉ g.vs ∧ φ.j ∉ g.vs) ∧ a.f φ.s fun w => g.f w φ.s fun s => κ.nx { φ with s := s }, fun k ⟨o, q⟩ => ⟨o, a.m (fun _ z => g.m (fun _ y => k.nx _ y) z) q⟩⟩
/-- a, b = e, f, the lists read; no lists among the answers -/
def XS2.parV (i j : Nat) (a : XA) : XS2 := ⟨fun φ κ => (φ.i ∉ [i, j] ∧ φ.j ∉ [i, j]) ∧ a.f φ.rev fun ws => ∃ u v, ws = [u, v] ∧ u.nl = true ∧ v.nl = true ∧ κ.nx { φ with s := (φ.s.set i (some u)).set j (some v) }, fun k ⟨o, q⟩ => ⟨o, a.m (fun _ ⟨u, v, e, n1, n2, z⟩ => ⟨u, v, e, n1, n2, k.nx _ z⟩) q⟩⟩
def XS2.ret (a : XE) : XS2 := ⟨fun φ κ => a.f φ.rev κ.rt, fun k q => a.m (fun _ z => k.rt _ z) q⟩
def XS2.next : XS2 := ⟨fun φ κ => κ.nx φ, fun k q => k.nx _ q⟩
def XS2.seq (x y : XS2) : XS2 := ⟨fun φ κ => x.f φ ⟨fun φ' => y.f φ' κ, κ.rt, κ.bk, κ.ct⟩, fun {φ a b} k q => x.m (a := ⟨fun φ' => y.f φ' a, a.rt, a.bk, a.ct⟩) (b := ⟨fun φ' => y.f φ' b, b.rt, b.bk, b.ct⟩) ⟨fun _ z => y.m k z, k.rt, k.bk, k.ct⟩ q⟩
/-- x.append(e), the value read with both lists; no list in it -/
def XS2.app (k : Nat) (a : XE) : XS2 := ⟨fun φ κ => (φ.i = k ∨ φ.j = k) ∧ a.f φ.rev fun w => w.nl = true ∧ ((φ.i = k ∧ φ.xs.length < 100000 ∧ κ.nx { φ with xs := φ.xs ++ [w] }) ∨ (φ.j = k ∧ φ.ys.length < 100000 ∧ κ.nx { φ with ys := φ.ys ++ [w] })), fun k ⟨h, q⟩ => ⟨h, a.m (fun _ z => ⟨z.1, z.2.elim (fun y => .inl ⟨y.1, y.2.1, k.nx _ y.2.2⟩) (fun y => .inr ⟨y.1, y.2.1, k.nx _ y.2.2⟩)⟩) q⟩⟩
def XS2.ifs (t : XT) (x y : XS2) : XS2 := ⟨fun φ κ => t.f φ.rev fun b => (b = true → x.f φ κ) ∧ (b = false → y.f φ κ), fun k q => t.m (fun _ z => ⟨fun h => x.m k (z.1 h), fun h => y.m k (z.2 h)⟩) q⟩
def ForI2 (ws : List W) (g : XG) (x : XS2) (φ : Fr2) (κ : Ko2) : Prop := ∃ I : Nat → Fr2 → Prop, I 0 φ ∧
  (∀ (i : Nat) (w : W) (φ' : Fr2), ws[i]? = some w → I i φ' → (φ'.i ∉ g.vs ∧ φ'.j ∉ g.vs) ∧ g.f w φ'.s fun s => x.f { φ' with s := s } ⟨I (i + 1), κ.rt, κ.nx, I (i + 1)⟩) ∧ (∀ φ', I ws.length φ' → κ.nx φ')
def XS2.forr (it : XI) (g : XG) (x : XS2) : XS2 := ⟨fun φ κ => it.f φ.s fun ws => ForI2 ws g x φ κ, fun {φ κ κ'} k q => it.m (fun ws ⟨I, a, b, d⟩ => ⟨I, a, fun i w φ' hw hi => ⟨(b i w φ' hw hi).1, g.m (fun _ z => x.m (a := ⟨I (i + 1), κ.rt, κ.nx, I (i + 1)⟩) (b := ⟨I (i + 1), κ'.rt, κ'.nx, I (i + 1)⟩) ⟨fun _ y => y, k.rt, k.nx, fun _ y => y⟩ z) (b i w φ' hw hi).2⟩, fun φ' z => k.nx _ (d φ' z)⟩) q⟩
/-- a second list to be changed; what follows gives something back -/
def XS.two (j : Nat) (a : XA) (r : XS2) : XS := ⟨fun φ κ => ∃ i xs, φ.m = some (i, .lst xs) ∧ i ≠ j ∧ j < φ.s.length ∧ a.f φ.s fun ws => ws.length ≤ 100000 ∧ r.f ⟨φ.s.set j none, i, xs, j, ws⟩ ⟨fun _ => False, κ.rt, fun _ => False, fun _ => False⟩,
  fun {φ κ κ'} k ⟨i, xs, e, n, l, q⟩ => ⟨i, xs, e, n, l, a.m (fun _ z => ⟨z.1, r.m (a := ⟨fun _ => False, κ.rt, fun _ => False, fun _ => False⟩) (b := ⟨fun _ => False, κ'.rt, fun _ => False, fun _ => False⟩) ⟨fun _ y => y, k.rt, fun _ y => y, fun _ y => y⟩ z.2⟩) q⟩⟩
/-- a, b = [..], [..], both to be changed -/
def XS.twos (i j : Nat) (a b : XA) (r : XS2) : XS := ⟨fun φ κ => φ.m = none ∧ i ≠ j ∧ i < φ.s.length ∧ j < φ.s.length ∧ a.f φ.s fun ws => ws.length ≤ 100000 ∧ b.f φ.s fun zs => zs.length ≤ 100000 ∧ r.f ⟨(φ.s.set i none).set j none, i, ws, j, zs⟩ ⟨fun _ => False, κ.rt, fun _ => False, fun _ => False⟩,
  fun {φ κ κ'} k ⟨e, n, l, l2, q⟩ => ⟨e, n, l, l2, a.m (fun _ z => ⟨z.1, b.m (fun _ y => ⟨y.1, r.m (a := ⟨fun _ => False, κ.rt, fun _ => False, fun _ => False⟩) (b := ⟨fun _ => False, κ'.rt, fun _ => False, fun _ => False⟩) ⟨fun _ y => y, k.rt, fun _ y => y, fun _ y => y⟩ y.2⟩) z.2⟩) q⟩⟩
end
section
variable {te ta tb tc : TE} {e a d : XE} {ar br : XA} {s : Sl} {κ : Ko} {κ2 : Ko2} {i j : Nat} {xs ys : List W} {x y : XS2} {g : XG} {t : XT} {it : XI}
theorem d2_asg : ((XS2.asg g a).f ⟨s, i, xs, j, ys⟩ κ2) = ((i ∉ g.vs ∧ j ∉ g.vs) ∧ a.f s fun w => g.f w s fun s => κ2.nx ⟨s, i, xs, j, ys⟩) := rfl
theorem d2_rev : Fr2.rev ⟨s, i, xs, j, ys⟩ = (s.set i (some (.lst xs))).set j (some (.lst ys)) := rfl
theorem d2_ret : ((XS2.ret a).f ⟨s, i, xs, j, ys⟩ κ2) = (a.f ((s.set i (some (.lst xs))).set j (some (.lst ys))) κ2.rt) := rfl
theorem d2_next : (XS2.next.f ⟨s, i, xs, j, ys⟩ κ2) = κ2.nx ⟨s, i, xs, j, ys⟩ := rfl
theorem d2_seq : ((XS2.seq x y).f ⟨s, i, xs, j, ys⟩ κ2) = (x.f ⟨s, i, xs, j, ys⟩ ⟨fun φ' => y.f φ' κ2, κ2.rt, κ2.bk, κ2.ct⟩) := rfl
theorem d2_app {k : Nat} : ((XS2.app k a).f ⟨s, i, xs, j, ys⟩ κ2) = ((i = k ∨ j = k) ∧ a.f ((s.set i (some (.lst xs))).set j (some (.lst ys))) fun w => w.nl = true ∧ ((i = k ∧ xs.length < 100000 ∧ κ2.nx ⟨s, i, xs ++ [w], j, ys⟩) ∨ (j = k ∧ ys.length < 100000 ∧ κ2.nx ⟨s, i, xs, j, ys ++ [w]⟩))) := rfl
theorem d2_parV {m n : Nat} : ((XS2.parV m n ar).f ⟨s, i, xs, j, ys⟩ κ2) = ((i ∉ [m, n] ∧ j ∉ [m, n]) ∧ ar.f ((s.set i (some (.lst xs))).set j (some (.lst ys))) fun ws => ∃ u v, ws = [u, v] ∧ u.nl = true ∧ v.nl = true ∧ κ2.nx ⟨(s.set m (some u)).set n (some v), i, xs, j, ys⟩) := rfl
theorem d2_ifs : ((XS2.ifs t x y).f ⟨s, i, xs, j, ys⟩ κ2) = (t.f ((s.set i (some (.lst xs))).set j (some (.lst ys))) fun b => (b = true → x.f ⟨s, i, xs, j, ys⟩ κ2) ∧ (b = false → y.f ⟨s, i, xs, j, ys⟩ κ2)) := rfl
theorem d2_for : ((XS2.forr it g x).f ⟨s, i, xs, j, ys⟩ κ2) = (it.f s fun ws => ForI2 ws g x ⟨s, i, xs, j, ys⟩ κ2) := rfl
theorem d_two {k : Nat} : ((XS.two k ar x).f ⟨s, some (i, .lst xs)⟩ κ) = (i ≠ k ∧ k < s.length ∧ ar.f s fun ws => ws.length ≤ 100000 ∧ x.f ⟨s.set k none, i, xs, k, ws⟩ ⟨fun _ => False, κ.rt, fun _ => False, fun _ => False⟩) := propext ⟨fun ⟨_, _, e, n, l, q⟩ => (by cases e; exact ⟨n, l, q⟩), fun ⟨n, l, q⟩ => ⟨_, _, rfl, n, l, q⟩⟩
theorem d_twos : ((XS.twos i j ar br x).f ⟨s, none⟩ κ) = (i ≠ j ∧ i < s.length ∧ j < s.length ∧ ar.f s fun ws => ws.length ≤ 100000 ∧ br.f s fun zs => zs.length ≤ 100000 ∧ x.f ⟨(s.set i none).set j none, i, ws, j, zs⟩ ⟨fun _ => False, κ.rt, fun _ => False, fun _ => False⟩) := propext ⟨fun ⟨_, q⟩ => q, fun q => ⟨rfl, q⟩⟩
theorem nl_tup {xs : List W} : W.nl (.tup xs) = W.nls xs := by simp [W.nl]
theorem nl_int {i : Int} : W.nl (.int i) = true := by simp [W.nl]
theorem nls_nil : W.nls [] = true := by simp [W.nls]
theorem nls_cons {w : W} {ws : List W} : W.nls (w :: ws) = (w.nl && W.nls ws) := by simp [W.nls]
end
def runG := And.intro @d2_asg (And.intro @d2_rev (And.intro @d2_ret (And.intro @d2_next (And.intro @d2_app (And.intro @d2_parV (And.intro @d2_ifs (And.intro @d2_for (And.intro @d_two (And.intro @d_twos (And.intro @nl_tup (And.intro @nl_int (And.intro @nls_nil @nls_cons))))))))))))
end Z

/-! ### enumerate(tuple) -/
namespace Z
open PySem L2 PySem.Spec PyProof.Rows
open Sem (wp)
open AutoSeq1 (wpAny_loadPart')
section
variable {prog : Program} {w : World} {A : Around} {E : Value → Shared → Prop} {s : Shared}
end
def XI.enumT (a : XA) : XI := ⟨fun ρ Q => a.f ρ fun ws => ∃ w xs, ws = [w] ∧ w.itT = some xs ∧ Q (enumW xs), fun k q => a.m (fun w ⟨j, x, e, z, q⟩ => ⟨j, x, e, z, k _ q⟩) q⟩
section
variable {ρ : Sl} {R : List W → Prop} {ar : XA}
theorem d_enumT : ((XI.enumT ar).f ρ R) = (ar.f ρ fun ws => on1 ws fun w => itTC w fun xs => R (enumW xs)) := by
  show (ar.f ρ fun ws => ∃ w xs, ws = [w] ∧ w.itT = some xs ∧ R (enumW xs)) = _
  congr 1
  funext ws
  exact propext ⟨fun ⟨w, xs, e, h, q⟩ => ⟨w, e, xs, h, q⟩, fun ⟨w, e, xs, h, q⟩ => ⟨w, xs, e, h, q⟩⟩
end
/-! ### a call of an instance, told without the frame around it -/
/-! ### min of a tuple of whole numbers -/
section
variable {prog : Program} {w : World} {A : Around} {E : Value → Shared → Prop} {s : Shared} {l : Addr} {xs : Array (Int × Tok)}
end
def XN.minT : XN := ⟨fun ws Q => ∃ ns : List Int, ws = [.tup (ns.map .int)] ∧ ns ≠ [] ∧ ∀ m, m ∈ ns → (∀ y ∈ ns, m ≤ y) → Q (.int m), fun k ⟨i, a, n, q⟩ => ⟨i, a, n, fun m hm hy => k _ (q m hm hy)⟩⟩
theorem d_nminT {ws : List W} {Q : W → Prop} : (XN.minT.f ws Q) = (on1 ws fun x => onIsT x fun ns => ns ≠ [] ∧ ∀ m, m ∈ ns → (∀ y ∈ ns, m ≤ y) → Q (.int m)) := propext ⟨fun ⟨i, e, q⟩ => ⟨_, e, i, rfl, q⟩, fun ⟨x, e, i, e1, q⟩ => ⟨i, by rw [e, e1], q⟩⟩
/-! ### a, b = [..], [..], one of them a cell: by a tuple -/
theorem d_cut0 {x y : XS} {φ : Fr} {κ : Ko} (h : ∀ κ1 : Ko, (∀ φ, y.f φ κ → κ1.nx φ) → κ1.rt = κ.rt → x.f φ κ1) : (XS.seq x y).f φ κ := h ⟨fun φ' => y.f φ' κ, κ.rt, κ.bk, κ.ct⟩ (fun _ z => z) rfl
def runH := And.intro (@d_enumT) (@d_nminT)
end Z

/-! ### <<, bit_length, in a list of whole numbers -/
namespace Z
open PySem L2
section
variable {K : PySem.W.Frag} {c : Cl}
def bitsI (i : Int) : Int := ((Builtin.Int.intBits i : Nat) : Int)
def XU.bits : XU := ⟨fun x Q => ∃ i, x = .int i ∧ Q (.int (bitsI i)), fun k ⟨i, a, q⟩ => ⟨i, a, k _ q⟩⟩
theorem d_ubits {x : W} {Q : W → Prop} : (XU.bits.f x Q) = (onI x fun i => Q (.int (bitsI i))) := propext ⟨fun ⟨i, e, q⟩ => ⟨i, e, q⟩, fun ⟨i, e, q⟩ => ⟨i, e, q⟩⟩
/-- x in a list, in a tuple of whole numbers -/
def XO.inI (n : Bool) : XO := ⟨fun x y Q => ∃ (i : Int) (ns : List Int), x = .int i ∧ (y = .lst (ns.map .int) ∨ y = .tup (ns.map .int)) ∧ Q (.bl (n ^^ decide (i ∈ ns))), fun k ⟨i, ns, a, b, q⟩ => ⟨i, ns, a, b, k _ q⟩⟩
theorem d_oinI {x y : W} {n : Bool} {Q : W → Prop} : ((XO.inI n).f x y Q) = (onI x fun i => (onIs y fun ns => Q (.bl (n ^^ decide (i ∈ ns)))) ∨ onIsT y fun ns => Q (.bl (n ^^ decide (i ∈ ns)))) := propext ⟨fun ⟨i, ns, e, h, q⟩ => ⟨i, e, h.elim (fun z => .inl ⟨ns, z, q⟩) fun z => .inr ⟨ns, z, q⟩⟩, fun ⟨i, e, h⟩ => h.elim (fun ⟨ns, z, q⟩ => ⟨i, ns, e, .inl z, q⟩) fun ⟨ns, z, q⟩ => ⟨i, ns, e, .inr z, q⟩⟩
/-- tuples of whole numbers by their order -/
def XO.ltT : XO := ⟨fun x y Q => ∃ ns ms : List Int, x = .tup (ns.map .int) ∧ y = .tup (ms.map .int) ∧ Q (.bl (HT.lexLt ns ms)), fun k ⟨ns, ms, a, b, q⟩ => ⟨ns, ms, a, b, k _ q⟩⟩
theorem d_oltT {x y : W} {Q : W → Prop} : (XO.ltT.f x y Q) = (onIsT x fun ns => onIsT y fun ms => Q (.bl (HT.lexLt ns ms))) := propext ⟨fun ⟨ns, ms, a, b, q⟩ => ⟨ns, a, ms, b, q⟩, fun ⟨ns, a, ms, b, q⟩ => ⟨ns, ms, a, b, q⟩⟩
end
def runI := And.intro (@d_ubits) (And.intro (@d_oinI) (@d_oltT))
end Z

namespace Z
open PySem L2 PySem.Spec PyProof.Rows
open AutoSeq1 (wpAny_loadPart')
section
variable {K : PySem.W.Frag} {c : Cl}
/-- a tuple, 0 times or once -/
def XO.repB : XO := ⟨fun x y Q => ∃ xs k, x = .tup xs ∧ y = .int k ∧ xs ≠ [] ∧ ((k = 1 ∧ Q (.tup xs)) ∨ (k = 0 ∧ Q (.tup []))), fun t ⟨xs, k, a, b, n, q⟩ => ⟨xs, k, a, b, n, q.elim (fun z => .inl ⟨z.1, t _ z.2⟩) fun z => .inr ⟨z.1, t _ z.2⟩⟩⟩
theorem d_orepB {x y : W} {Q : W → Prop} : (XO.repB.f x y Q) = (onT x fun xs => onI y fun k => xs ≠ [] ∧ ((k = 1 ∧ Q (.tup xs)) ∨ (k = 0 ∧ Q (.tup [])))) := propext ⟨fun ⟨xs, k, a, b, q⟩ => ⟨xs, a, k, b, q⟩, fun ⟨xs, a, k, b, q⟩ => ⟨xs, k, a, b, q⟩⟩
end
/-! ### {k: v} with two numbers -/
section
variable {K : PySem.W.Frag} {c : Cl}
def XE.d1 (k v : Int) : XE := ⟨fun ρ Q => Q (.dct [(k, v)]), fun t q => t _ q⟩
theorem d_d1 {k v : Int} {ρ : Sl} {Q : W → Prop} : ((XE.d1 k v).f ρ Q) = Q (.dct [(k, v)]) := rfl
end
def runJ := And.intro (@d_orepB) (@d_d1)
end Z

namespace Z
open PySem L2
/-! ### errors: what is raised, as a value that none stands for -/
/-- the class and the dict of an exception are those of the error n -/
def ExOk (c : Cl) (n : Str) (i : Option Int) (cls : Value) (d : Option Addr) (h : Hp) : Prop :=
  cls = .ref (c.er n) ∧ match i with | none => d = none | some x => ∃ dd, d = some dd ∧ h dd = some (.xd [(xfn n, .int x)])
theorem ExOk.mono {c : Cl} {n : Str} {i : Option Int} {cls : Value} {d : Option Addr} {h h' : Hp} (e : Ex h h') (x : ExOk c n i cls d h) : ExOk c n i cls d h' := by
  obtain ⟨a, b⟩ := x
  refine ⟨a, ?_⟩
  cases i with
  | none => exact b
  | some x => obtain ⟨dd, b1, b2⟩ := b; exact ⟨dd, b1, e _ _ b2⟩
/-- a promise whose answer may be an error -/
def XF.spx (K : PySem.W.Frag) (c : Cl) (F : XF) : Sp := fun vs H Q E => ∃ (a : F.α) (h : Hp), Ex h H ∧ Vs (W.ps K c (F.args a)) vs h ∧ F.pre a ∧
  (∀ v h' H', Stp h H h' H' → (SQ K c (F.post a)).p v h' → Q v H') ∧
  ∀ n i cls d h' H', Stp h H h' H' → F.post a (.exc n i) → ExOk c n i cls d h' → E cls d H'
/-- an expression that may raise: the error comes as a value -/
def EvX (K : PySem.W.Frag) (c : Cl) (E : XK) (te : TE) (e : XE) : Prop := ∀ (ρ : Sl) (Q : W → Prop), e.f ρ Q → ∀ (σ : St) (h H : Hp), En (ρ.G K c) σ h → Ex h H → ∀ R : VK, (∀ v h' H', Stp h H h' H' → (SQ K c Q).p v h' → R v H') →
  (∀ n i cls d h' H', Stp h H h' H' → Q (.exc n i) → ExOk c n i cls d h' → E cls d H') → te σ H R
def tFX (sp : Sp) (E : XK) (t : TA) : TE := fun σ H Q => t σ H fun vs H1 => sp vs H1 Q E
section
variable {K : PySem.W.Frag} {c : Cl} {E : XK} {J : Jn} {te ta tb : TE} {tr : TA} {t : TT} {e a : XE} {ar : XA} {tu tw tz : TS}
theorem Ev.x (h : Ev K c te e) : EvX K c E te e := fun ρ Q q σ h0 H n ee R k _ => h ρ Q q σ h0 H n ee R k
theorem spx_run {F : XF} {ws : List W} {Q : W → Prop} (q : F.f ws Q) {vs : List V} {h H : Hp} (e : Ex h H) (z : Vs (W.ps K c ws) vs h) {R : VK} (k : ∀ v h' H', Stp h H h' H' → (SQ K c Q).p v h' → R v H')
    (kx : ∀ n i cls d h' H', Stp h H h' H' → Q (.exc n i) → ExOk c n i cls d h' → E cls d H') : F.spx K c vs H R E := by
  obtain ⟨a, ea, pa, ka⟩ := q
  subst ea
  exact ⟨a, h, e, z, pa, fun v h' H' s ⟨w, pw, vw⟩ => k v h' H' s ⟨w, ka w pw, vw⟩, fun n i cls d h' H' s p x => kx n i cls d h' H' s (ka _ p) x⟩
theorem evx_call {F : XF} (ha : EA K c tr ar) : EvX K c E (tFX (F.spx K c) E tr) (.call F ar) := fun ρ Q q σ h H n ee R k kx =>
  ha ρ _ q σ h H n ee _ fun ws vs h1 H1 qf s1 p1 => spx_run qf s1.i p1 (fun v h2 H2 s2 z => k v h2 H2 (s1.trans s2) z) fun n i cls d h2 H2 s2 z x => kx n i cls d h2 H2 (s1.trans s2) z x
/-- what else is known of the start, and of what is wanted -/
abbrev Jn := Hp → Hp → (W → Prop) → Prop
def jE (c : Cl) (E : XK) : Jn := fun h0 H0 rt => ∀ n i, rt (.exc n i) → ∀ cls d h H, Stp h0 H0 h H → ExOk c n i cls d h → E cls d H
def ESX (K : PySem.W.Frag) (c : Cl) (J : Jn) (tu : TS) (s : XS) : Prop := ∀ (φ : Fr) (κ : Ko) (b : Bs) (D : Ends), s.f φ κ → Lk K c b κ D → J b.h0 b.H0 κ.rt → Nx b (φ.s.G K c) (φ.mu K c) (tu D)
theorem ES.x {s : XS} (h : ES K c tu s) : ESX K c J tu s := fun φ κ b D q lk _ => h φ κ b D q lk
theorem esx_seq {x y : XS} (hx : ESX K c J tu x) (hy : ESX K c J tw y) : ESX K c J (tSeq tu tw) (.seq x y) := fun φ κ b D q lk lx =>
  hx φ ⟨fun φ' => y.f φ' κ, κ.rt, κ.bk, κ.ct⟩ b { D with nx := tw D } q ⟨fun φ' z => hy φ' κ b D z lk lx, lk.rt, lk.bk, lk.ct⟩ lx
theorem esx_if {x : XT} {y z : XS} (hx : ET K c t x) (hy : ESX K c J tu y) (hz : ESX K c J tw z) : ESX K c J (tIfS t tu tw) (.ifs x y z) := fun φ κ b D q lk lx σ h H n s m => by
  obtain ⟨hp, np, sp, back⟩ := borrow n s m
  refine hx φ.rev _ q σ hp H np sp.st.i _ fun bb h1 H1 s1 qq => ?_
  obtain ⟨h2, s2⟩ := back h1 H1 s1
  cases bb with
  | true => exact hy φ κ b D (qq.1 rfl) lk lx σ h2 H1 (n.mono s2.s) (s.go s2) (m.go s2)
  | false => exact hz φ κ b D (qq.2 rfl) lk lx σ h2 H1 (n.mono s2.s) (s.go s2) (m.go s2)
theorem esx_for {wi : TI} {g : TG} {it : XI} {xg : XG} {x : XS} (hi : EI K c wi it) (hg : EG K c g xg) (hx : ESX K c J tu x) : ESX K c J (tFor wi g tu) (.forr it xg x) := fun φ κ b D q lk lx σ h H n s m => by
  refine hi φ.s _ q σ h H n s.st.i _ fun ws J h1 H1 ⟨I, i0, is, id⟩ s1 io => ?_
  have hk1 := (s.go s1).kn
  have lk' : ∀ i N, (∀ φ' σ' h' H', I (i + 1) φ' → En (φ'.s.G K c) σ' h' → Bs.Ok ⟨b.h0, b.H0, h1⟩ h' H' → Mu ⟨b.h0, b.H0, h1⟩ (φ'.mu K c) σ' h' H' → N σ' H') → Lk K c ⟨b.h0, b.H0, h1⟩ ⟨I (i + 1), κ.rt, κ.nx, I (i + 1)⟩ { D with nx := N, ct := N, bk := D.nx } := fun i N hN =>
    ⟨fun φ' z σ' h' H' n' s' m' => hN φ' σ' h' H' z n' s' m', lk.rt, fun φ' z => n_back hk1 (lk.nx φ' z), fun φ' z σ' h' H' n' s' m' => hN φ' σ' h' H' z n' s' m'⟩
  refine ⟨fun i k σ H => k = ws.length - i ∧ i ≤ ws.length ∧ ∃ φ' h', I i φ' ∧ En (φ'.s.G K c) σ h' ∧ Bs.Ok ⟨b.h0, b.H0, h1⟩ h' H ∧ Mu ⟨b.h0, b.H0, h1⟩ (φ'.mu K c) σ h' H, ⟨ws.length, by simp, Nat.zero_le _, φ, h1, i0, n.mono s1.s, ⟨(s.go s1).st, fun _ _ q => q⟩, (m.go s1).reb rfl⟩, ?_⟩
  rintro i k σ' H' ⟨rfl, hi', φ', h', iv, n', s', m'⟩
  by_cases hlt : i < ws.length
  · have hw : ws[i]? = some ws[i] := List.getElem?_eq_getElem hlt
    obtain ⟨go, yl⟩ := io.go i _ h' H' hw s'.kn s'.st.i
    refine .inr ⟨go, fun σ2 H2 => ∃ φ2 h2, I (i + 1) φ2 ∧ En (φ2.s.G K c) σ2 h2 ∧ Bs.Ok ⟨b.h0, b.H0, h1⟩ h2 H2 ∧ Mu ⟨b.h0, b.H0, h1⟩ (φ2.mu K c) σ2 h2 H2, fun σ2 H2 z => ⟨ws.length - (i + 1), by omega, rfl, hlt, z⟩, fun v H2 y => ?_⟩
    obtain ⟨h2, s2, pv⟩ := yl v H2 y
    obtain ⟨ho, qg⟩ := is i _ φ' hw iv
    refine hg _ v σ' h2 H2 φ'.s _ qg (n'.mono s2.s) s2.i pv _ fun ρ3 σ3 q3 n3 o3 l3 => ?_
    exact hx ⟨ρ3, φ'.m⟩ _ ⟨b.h0, b.H0, h1⟩ _ q3 (lk' i _ fun φ4 σ4 h4 H4 a b c d => ⟨φ4, h4, a, b, c, d⟩) lx σ3 h2 H2 n3 (s'.go s2) ((m'.go s2).tg o3 (off_mu ho))
  · have e : i = ws.length := by omega
    subst e
    exact .inl ⟨io.stop h' H' s'.kn s'.st.i, n_back hk1 (lk.nx φ' (id φ' iv)) σ' h' H' n' s' m'⟩
/-- what goes on unless it is an error -/
def orX (κ : W → Prop) (k : W → Prop) : W → Prop | .exc n i => κ (.exc n i) | w => k w
theorem orX_m {κ κ' k k' : W → Prop} (a : ∀ w, κ w → κ' w) (b : ∀ w, k w → k' w) : ∀ w, orX κ k w → orX κ' k' w := fun w q => by
  cases w <;> first | exact a _ q | exact b _ q
theorem orX_p {κ k : W → Prop} {w : W} {v : V} {h : Hp} (q : orX κ k w) (p : (w.p K c).p v h) : k w := by
  cases w <;> first | exact q | exact (show False from p).elim
def XS.dropX (a : XE) : XS := ⟨fun φ κ => a.f φ.s (orX κ.rt fun _ => κ.nx φ), fun k q => a.m (orX_m k.rt fun _ z => k.nx _ z) q⟩
theorem esx_drop (ha : EvX K c E ta a) : ESX K c (jE c E) (tDrop ta) (.dropX a) := fun φ κ b D q lk lx σ h H n s m => by
  refine ha φ.s _ q σ h H n s.st.i _ (fun v h1 H1 s1 ⟨w, qw, pw⟩ => ?_) fun n i cls d h1 H1 s1 z x => lx n i z cls d h1 H1 (s.st.trans s1) x
  exact lk.nx φ (orX_p (κ := κ.rt) (k := fun _ => κ.nx φ) qw pw) σ h1 H1 (n.mono s1.s) (s.go s1) (m.go s1)
def XS.asgX (g : XG) (a : XE) : XS := ⟨fun φ κ => φ.off g.vs ∧ a.f φ.s (orX κ.rt fun w => g.f w φ.s fun s => κ.nx ⟨s, φ.m⟩), fun k ⟨o, q⟩ => ⟨o, a.m (orX_m k.rt fun _ z => g.m (fun _ y => k.nx _ y) z) q⟩⟩
theorem esx_asg {g : TG} {x : XG} (ha : EvX K c E ta a) (hg : EG K c g x) : ESX K c (jE c E) (tAsg ta g) (.asgX x a) := fun φ κ b D ⟨ho, q⟩ lk lx σ h H n s m => by
  refine ha φ.s _ q σ h H n s.st.i _ (fun v h1 H1 s1 ⟨w, qw, pw⟩ => ?_) fun n i cls d h1 H1 s1 z x => lx n i z cls d h1 H1 (s.st.trans s1) x
  have qw := orX_p (κ := κ.rt) (k := fun w => x.f w φ.s fun s => κ.nx ⟨s, φ.m⟩) qw pw
  refine hg w v σ h1 H1 φ.s _ qw (n.mono s1.s) s1.i pw _ fun ρ' σ' q' n' o' l' => ?_
  exact lk.nx ⟨ρ', φ.m⟩ q' σ' h1 H1 n' (s.go s1) ((m.go s1).tg o' (off_mu ho))
/-- raise X('..') -/
def XS.rai (n : Str) : XS := ⟨fun _ κ => κ.rt (.exc n none), fun k q => k.rt _ q⟩
/-- raise X(e), a text -/
def XS.rai1 (n : Str) (a : XE) : XS := ⟨fun φ κ => a.f φ.s fun _ => κ.rt (.exc n none), fun k q => a.m (fun _ z => k.rt _ z) q⟩
end
/-! ### defs that may raise -/
structure FxX (P : Program) (w : World) (K : PySem.W.Frag) (mg : Str → Option Value) (base : Heap) (k : Nat) (x : Str) (sp : Sp) : Prop where
  ex : ∃ f, mg x = some (.ref f) ∧ PySem.W.keepIn K (.ref f) = true ∧ FnR P w K mg base (L2.CX P w) k f sp
theorem rawX {P : Program} {w : World} {K : PySem.W.Frag} {mg : Str → Option Value} {base : Heap} {CX : CXT} {k : Nat} {f : Addr} {fd : FuncData} {ps : List Str} {sp : Sp} (F : FnOk P w K mg base CX k f fd ps sp) (hb : Binds K fd ps []) : FnR P w K mg base CX k f sp :=
  (F.raw hb (dvs := []) .nil).imp fun vs H Q E h => by
    show sp (vs ++ []) H Q E
    rw [List.append_nil]
    exact h
section
variable {P : Program} {w : World} {K : PySem.W.Frag} {mg : Str → Option Value} {base : Heap} {c : Cl}
theorem fun_runX {F : XF} {m qual : Str} {st : Stmt} {ps N : List Str} {k : Nat} {f : Addr} {fd : FuncData} {s : XS} (d : L2.Fun K m qual st f fd) (S : FnScope N ps (defScope st)) (hn : F.n = ps.length)
    (hb : ∀ (a : F.α) (Q : W → Prop), F.pre a → (∀ w, F.post a w → Q w) → s.whole (F.args a) (N.length - ps.length) Q)
    (ht : ∀ (cdv : Value) (A : Around) (outer : List Env) (sh : Shared) (H : Hp) (E : XK), Room k (A.deeper (PyProof.Rows.envOfC qual (defScope st) sh.heap.objs.size f cdv)) → ∃ t : TS, PSs (cxOf (L2.CX P w) P w K mg base N qual (defScope st) f cdv A outer sh H E) (defBody st) t ∧ ESX K c (jE c E) t s) :
    FnOk P w K mg base (L2.CX P w) (k + 1) f fd ps (F.spx K c) := by
  refine d.okX S (fun vs H Q E h => ?_) fun cdv A outer sh H vs Q E hr h => ?_
  · obtain ⟨a, _, _, q, _⟩ := h
    rw [q.len, ps_len, F.hn, hn]
  · obtain ⟨t, ht, hs⟩ := ht cdv A outer sh H E hr
    refine ⟨t, ht, ?_⟩
    obtain ⟨a, h, e, q, p, kk, kx⟩ := h
    have hl : (W.ps K c (F.args a)).length = ps.length := by rw [ps_len, F.hn, hn]
    have z := en_start (args := fun _ : Unit => W.ps K c (F.args a)) (N := N) (ps := ps) (a := ()) (fun _ => hl) q
    have z' : En (((W.ps K c (F.args a)).map some ++ List.replicate (N.length - ps.length) none : Ctx)) (L2.start N vs) h := z
    rw [vs_start a hn] at z'
    refine hs _ _ ⟨h, H, h⟩ _ (hb a (fun w => F.post a w) p fun w z => z) ?_ ?_ (L2.start N vs) h H z' ⟨Stp.refl e, fun _ _ q => q⟩ trivial
    · exact ⟨fun φ z σ h' H' n s' m => kk .non h' H' s'.st ⟨_, z, Dq.non⟩, fun w z v h' H' s' pw => kk v h' H' s' ⟨w, z, pw⟩, fun φ z => z.elim, fun φ z => z.elim⟩
    · exact fun n i z cls d h' H' s' x => kx n i cls d h' H' s' z x
theorem Dn.runX {F : XF} {x : Str} {st : Stmt} {ps N : List Str} {k : Nat} {s : XS} (d : Dn K mg x st ps) (S : FnScope N ps (defScope st)) (hn : F.n = ps.length)
    (hb : ∀ (a : F.α) (Q : W → Prop), F.pre a → (∀ w, F.post a w → Q w) → s.whole (F.args a) (N.length - ps.length) Q)
    (ht : ∀ (f : Addr) (cdv : Value) (A : Around) (outer : List Env) (sh : Shared) (H : Hp) (E : XK), Room k (A.deeper (PyProof.Rows.envOfC x (defScope st) sh.heap.objs.size f cdv)) → ∃ t : TS, PSs (cxOf (L2.CX P w) P w K mg base N x (defScope st) f cdv A outer sh H E) (defBody st) t ∧ ESX K c (jE c E) t s) :
    FxX P w K mg base (k + 1) x (F.spx K c) := by
  obtain ⟨f, fd, F', hm, hb'⟩ := d.ex
  exact ⟨f, hm, F'.kp, rawX (fun_runX F' S hn hb fun cdv A outer sh H E => ht f cdv A outer sh H E) hb'⟩
end
section
variable {X : Cx} {k j : Nat} {x : Str} {sp : Sp} {E : XK} {p pos : Pos} {e : Expr} {es : List Expr} {t : TA}
theorem pe_fX (c : FxX X.prog X.w X.K X.mg X.base k x sp) (hr : Room j X.A) (hk : k ≤ j) (hx : Passes (L2.CX X.prog X.w) X E) (hg : Gl X x) (ha : PA X (e :: es) t)
    (hdb : (x == ("__debug__" : Str)) = false := by decide) (he : starEach (e :: es) X.env = (false, eval e X.env) :: starEach es X.env := by rfl) (hpl : (backTo pos (starEach es X.env)).any (·.1) = false := by rfl) :
    PE X (.Call (.Name x p) (e :: es) [] pos) (tFX sp E t) := by
  obtain ⟨f, hm, kp, F⟩ := c.ex
  refine ⟨fun pins s σ H Q I h => ?_⟩
  refine wpAny_Call_Name_kw (ld_glob I hg hm ?_ hdb)
  refine PySem.W.callWith_K (h₀ := X.base) I.ok.mod.kin kp (thn (ha.run pos pins s σ H _ I h) fun us s1 ⟨vs, H1, I1, r, q⟩ => ⟨I1.kIn, ?_⟩) he hpl
  exact wpAny_call (run_fnR (F.mono hk) hr hx I1 r q)
end
end Z

namespace Z
open PySem L2 PyProof.Rows
/-! ### a lambda that a def is called with -/
/-- the table at P grows, all else stands -/
structure Grow (P : Addr) (H H1 : Hp) : Prop where
  q : Exq H H1
  o : ∀ b u, b ≠ P → H b = some u → H1 b = some u
  t : LamX.TabS H1 P q0
theorem Grow.rfl {P : Addr} {H : Hp} (t : LamX.TabS H P q0) : Grow P H H := ⟨.refl, fun _ _ _ e => e, t⟩
theorem grow_more {P c : Addr} {H : Hp} {ps more : Array Value} (hP : H P = some (.tbl ps)) (hc : H c = none) (t1 : ∀ b, b ≠ P → LamX.TabS H b q0 → LamX.TabS (upd (upd H P (.tbl (ps ++ more))) c (LamX.CodeO c q0)) b q0)
    (t2 : LamX.TabS (upd (upd H P (.tbl (ps ++ more))) c (LamX.CodeO c q0)) P q0) : Grow P H (upd (upd H P (.tbl (ps ++ more))) c (LamX.CodeO c q0)) := by
  have ne : ∀ b u, H b = some u → b ≠ c := fun b u e => ne_of_none e hc
  have oo : ∀ b u, b ≠ P → H b = some u → upd (upd H P (.tbl (ps ++ more))) c (LamX.CodeO c q0) b = some u := fun b u n e => by rw [upd_ne (ne b u e), upd_ne n]; exact e
  refine ⟨⟨fun b u e hn => oo b u (fun z => ?_) e, fun b e => ?_, fun b t => ?_⟩, oo, t2⟩
  · subst z
    rw [hP] at e
    cases e
    cases hn
  · by_cases z : b = c
    · subst z; exact hc
    · rw [upd_ne z] at e
      by_cases y : b = P
      · subst y; rw [upd_same] at e; cases e
      · rw [upd_ne y] at e; exact e
  · by_cases y : b = P
    · subst y; exact t2
    · exact t1 b y t
section
variable {X : Cx} {pins : List (Addr × Obj)} {σ : L2.St} {H : Hp} {s : Shared}
end
/-- the def that calls what it got: a calls it; TT: what it makes of the lambda's reading -/
def GivesT (X : Cx) (Ng : List Str) (x : Str) (sg : Scope) (g : Addr) (cdg : Value) (bg : List Stmt) (a : Str) (TT : (XK → Hp → VK → Prop) → Hp → VK → Prop) : Prop :=
  ∀ (f c' : Addr) (s : Shared) (H : Hp) (Q : VK) (tl : XK → Hp → VK → Prop),
    (∀ (W : WX) (pn : List (Addr × Obj)) (xe : Value → Shared → Prop) (E : XK) (p1 p2 : Pos), Takes ((cxOf C8.CX0 X.prog X.w X.K X.mg X.base Ng x sg g cdg X.A X.stack s H C8.E0).tr pn xe) W → (∀ cls d σ' H', σ'.length = Ng.length → E cls d H' → W cls d σ' H') →
      PE ((cxOf C8.CX0 X.prog X.w X.K X.mg X.base Ng x sg g cdg X.A X.stack s H C8.E0).tr pn xe) (.Call (.Name a p1) [] [] p2) (fun σZ HZ R => σZ[0]? = some (some (.ref f)) ∧ HZ c' = some (LamX.CodeO c' q0) ∧ tl E HZ R)) →
    H c' = some (LamX.CodeO c' q0) → TT tl H Q →
    ∃ t, PSs (cxOf C8.CX0 X.prog X.w X.K X.mg X.base Ng x sg g cdg X.A X.stack s H C8.E0).nox bg t ∧ t { nx := fun _ H' => Q .non H', rt := Q } (L2.start Ng [.ref f]) H
theorem takes_len {X : Cx} {W : WX} (tk : Takes X W) : Takes X (fun cls d σ H => σ.length = X.N.length → W cls d σ H) := fun u s' ⟨a, B, sI, pins, σ, H, cls, d, e, I, nb, up, sky, na, os, ag, w⟩ =>
  tk u s' ⟨a, B, sI, pins, σ, H, cls, d, e, I, nb, up, sky, na, os, ag, w I.len⟩
/-! ### expressions with such a call in them -/
def Tbl (P : Addr) (h H : Hp) : Prop := h P = none ∧ LamX.TabS H P q0
theorem Tbl.go {P : Addr} {h H h' H' : Hp} (x : Tbl P h H) (s : Stp h H h' H') : Tbl P h' H' := by
  obtain ⟨ps, e, _⟩ := x.2
  exact ⟨s.f P _ e x.1 (.inr x.2), s.e0.t P x.2⟩
section
variable {K : PySem.W.Frag} {c : Cl} {P : Addr} {te ta tb : TE} {tr : TA} {t u : TT} {e a b : XE} {ar : XA} {r : R2}
def EvL (K : PySem.W.Frag) (c : Cl) (P : Addr) (te : TE) (e : XE) : Prop := ∀ (ρ : Sl) (Q : W → Prop), e.f ρ Q → ∀ (σ : L2.St) (h H : Hp), En (ρ.G K c) σ h → Ex h H → Tbl P h H → ∀ R : VK, (∀ v h' H', Stp h H h' H' → (SQ K c Q).p v h' → R v H') → te σ H R
def ETL (K : PySem.W.Frag) (c : Cl) (P : Addr) (tt : TT) (t : XT) : Prop := ∀ (ρ : Sl) (Q : Bool → Prop), t.f ρ Q → ∀ (σ : L2.St) (h H : Hp), En (ρ.G K c) σ h → Ex h H → Tbl P h H → ∀ R : Bool → Hp → Prop, (∀ w h' H', Stp h H h' H' → Q w → R w H') → tt σ H R
def EAL (K : PySem.W.Frag) (c : Cl) (P : Addr) (ta : TA) (a : XA) : Prop := ∀ (ρ : Sl) (Q : List W → Prop), a.f ρ Q → ∀ (σ : L2.St) (h H : Hp), En (ρ.G K c) σ h → Ex h H → Tbl P h H → ∀ R : List V → Hp → Prop, (∀ ws vs h' H', Q ws → Stp h H h' H' → Vs (W.ps K c ws) vs h' → R vs H') → ta σ H R
theorem Ev.l (x : Ev K c te e) : EvL K c P te e := fun ρ Q q σ h H n ee _ R k => x ρ Q q σ h H n ee R k
theorem ET.l {x : XT} (y : ET K c t x) : ETL K c P t x := fun ρ Q q σ h H n ee _ R k => y ρ Q q σ h H n ee R k
theorem EA.l (x : EA K c tr ar) : EAL K c P tr ar := fun ρ Q q σ h H n ee _ R k => x ρ Q q σ h H n ee R k
theorem evl_op {o : XO} (ha : EvL K c P ta a) (hb : EvL K c P tb b) (ho : EO K c r o) : EvL K c P (tOp r ta tb) (.op o a b) := fun ρ Q q σ h H n ee z R k =>
  ha ρ _ q σ h H n ee z _ fun v h1 H1 s1 ⟨x, qx, px⟩ => hb ρ _ qx σ h1 H1 (n.mono s1.s) s1.i (z.go s1) _ fun y' h2 H2 s2 ⟨y, qy, py⟩ =>
    ho x y Q qy v y' h2 H2 ((x.p K c).mono s2.s px) py s2.i R fun w h3 H3 s3 q3 => k w h3 H3 ((s1.trans s2).trans s3) q3
theorem eal_nil : EAL K c P tNil .nil := EA.l ea_nil
theorem eal_cons (ha : EvL K c P ta a) (hr : EAL K c P tr ar) : EAL K c P (tCons ta tr) (.cons a ar) := fun ρ Q q σ h H n ee z R k =>
  ha ρ _ q σ h H n ee z _ fun v h1 H1 s1 ⟨x, qx, px⟩ => hr ρ _ qx σ h1 H1 (n.mono s1.s) s1.i (z.go s1) _ fun ws vs h2 H2 qw s2 p2 => k (x :: ws) (v :: vs) h2 H2 qw (s1.trans s2) (.cons ((x.p K c).mono s2.s px) p2)
theorem etl_b (ha : EvL K c P ta a) : ETL K c P (tB ta) (.val a) := fun ρ Q q σ h H n ee z R k =>
  ha ρ _ q σ h H n ee z _ fun v h1 H1 s1 ⟨x, ⟨p, ex, y⟩, px⟩ => ⟨p, by subst ex; exact p_bl px, k p h1 H1 s1 y⟩
theorem etl_not {x : XT} (hx : ETL K c P t x) : ETL K c P (tNot t) (.not x) := fun ρ Q q σ h H n ee z R k =>
  hx ρ _ q σ h H n ee z _ fun p h1 H1 s1 w => k _ h1 H1 s1 w
/-- what _law_error_of answers -/
def tagOf (n : Str) : Str := if n = "InvalidSlack" then "slack" else if n = "InvalidTimes" then "times" else if n = "NotForward" then "forward" else if n = "TooGreat" then "great" else if n = "InvalidPlace" then "place" else if n = "InvalidCount" then "count"
  else if n = "InvalidRange" then "range" else if n = "OutOfBound" then "bound" else if n = "Contradiction" then "contradiction" else if n = "InvalidName" then "name" else if n = "UnknownName" then "unknown" else if n = "InvalidPanel" then "panel" else if n = "UnlikeRigs" then "unlike"
  else if n = "InvalidRow" then "row" else if n = "InvalidEnds" then "ends" else if n = "InvalidMemory" then "memory" else if n = "InvalidOperation" then "operation" else if n = "InvalidRecording" then "recording" else if n = "NotationError" then "notation" else if n = "DecodeError" then "decode" else "other"
def told (n : Str) (i : Option Int) : W := .tup [.str (tagOf n), .int (i.getD 0)]
/-- the handler's answer to the error that is caught; φ: the errors that it knows -/
def TTerr (K : PySem.W.Frag) (c : Cl) (φ : Str → Option Int → Prop) : (XK → Hp → VK → Prop) → Hp → VK → Prop := fun tl H Q =>
  ∃ E : XK, tl E H (fun _ H' => Q .non H') ∧ ∀ cls d H', E cls d H' → ∃ n i h', ExOk c n i cls d h' ∧ φ n i ∧ Ex h' H' ∧ ∀ v h2 H2, Stp h' H' h2 H2 → ((told n i).p K c).p v h2 → Q v H2
def XE.err (φ : Str → Option Int → Prop) (e : XE) : XE := ⟨fun ρ Q => e.f ρ (orX (fun w => match w with | .exc n i => φ n i ∧ Q (told n i) | _ => False) fun _ => Q .non), fun k q => e.m (orX_m (fun w z => by cases w <;> first | exact ⟨z.1, k _ z.2⟩ | exact z) fun _ z => k _ z) q⟩
end
end Z
namespace Z
open PySem L2
/-! ### the law's statements, with such calls -/
def jT (P : Addr) : Jn := fun h0 H0 _ => Tbl P h0 H0
section
variable {K : PySem.W.Frag} {c : Cl} {P : Addr} {ta : TE} {t : TT} {tu tw : TS} {a : XE}
theorem esl_if {x : XT} {y z : XS} (hx : ETL K c P t x) (hy : ESX K c (jT P) tu y) (hz : ESX K c (jT P) tw z) : ESX K c (jT P) (tIfS t tu tw) (.ifs x y z) := fun φ κ b D q lk lx σ h H n s m => by
  obtain ⟨hp, np, sp, back⟩ := borrow n s m
  refine hx φ.rev _ q σ hp H np sp.st.i (Tbl.go lx sp.st) _ fun bb h1 H1 s1 qq => ?_
  obtain ⟨h2, s2⟩ := back h1 H1 s1
  cases bb with
  | true => exact hy φ κ b D (qq.1 rfl) lk lx σ h2 H1 (n.mono s2.s) (s.go s2) (m.go s2)
  | false => exact hz φ κ b D (qq.2 rfl) lk lx σ h2 H1 (n.mono s2.s) (s.go s2) (m.go s2)
theorem esl_asg {g : TG} {x : XG} (ha : EvL K c P ta a) (hg : EG K c g x) : ESX K c (jT P) (tAsg ta g) (.asg x a) := fun φ κ b D ⟨ho, q⟩ lk lx σ h H n s m => by
  refine ha φ.s _ q σ h H n s.st.i (Tbl.go lx s.st) _ fun v h1 H1 s1 ⟨w, qw, pw⟩ => ?_
  refine hg w v σ h1 H1 φ.s _ qw (n.mono s1.s) s1.i pw _ fun ρ' σ' q' n' o' l' => ?_
  exact lk.nx ⟨ρ', φ.m⟩ q' σ' h1 H1 n' (s.go s1) ((m.go s1).tg o' (off_mu ho))
end
/-- a promise of a def that makes lambdas -/
def XF.spT (K : PySem.W.Frag) (c : Cl) (P : Addr) (F : XF) : Sp := fun vs H Q _ => ∃ (a : F.α) (h : Hp), Ex h H ∧ Vs (W.ps K c (F.args a)) vs h ∧ F.pre a ∧ Tbl P h H ∧ ∀ v h' H', Stp h H h' H' → (SQ K c (F.post a)).p v h' → Q v H'
section
variable {Pg : Program} {w : World} {K : PySem.W.Frag} {mg : Str → Option Value} {base : Heap} {c : Cl} {P : Addr}
end
end Z

open PySem L2 PyProof.Rows
namespace Z
/-! ### the suite behind except: isinstance, fields, count, index, split -/
def rIsX (K : PySem.W.Frag) (D a : Addr) (d : Option Addr) : List V → Hp → VK → Prop := fun xs H Q => ∃ (c : V) (cv : Value) (b : Bool), xs = [.ref a, c] ∧ (∀ u, RelV c u → u = cv) ∧ PySem.W.kitOne K (.ref D) cv = some b ∧ (d = none ∨ ∃ dd fs, d = some dd ∧ H dd = some (.xd fs)) ∧ Q (.bl b) H
theorem call_isX {X : Cx} {a D : Addr} {d : Option Addr} {oe : Obj} {pn : List (Addr × Obj)} (C : ExcC X.K D) (hz : Zc (.ref D) d oe) (hf : ∃ vs, oe.data = .fields vs) : CallR (X.suite a ((a, oe) :: pn)) (.builtin "isinstance") (rIsX X.K D a d) := by
  intro pins s σ H xs us Q I r h
  obtain ⟨c, cv, b, rfl, hcv, e, hd, q⟩ := h
  cases r with
  | cons rx rr =>
    cases rr with
    | cons rt rr =>
      cases rr
      cases rx
      have ec := hcv _ rt
      subst ec
      obtain ⟨hget, _⟩ := I.pin (a, oe) (List.mem_append.mpr (.inl List.mem_cons_self))
      obtain ⟨vs, hv⟩ := hf
      have J : ∃ od, PySem.W.InstAt s.heap a oe D od := by
        have n0 : PySem.W.notCls oe = true := by unfold PySem.W.notCls; rw [hv] <;> rfl
        rcases hd with hd | ⟨dd, fs, hd, hx⟩
        · exact ⟨none, hget, hz.1, n0, by rw [hz.2, hd]; trivial⟩
        · have ok := I.hok dd _ hx
          obtain ⟨od, ho⟩ := objOk_get ok
          exact ⟨some od, hget, hz.1, n0, by rw [hz.2, hd]; exact ho⟩
      obtain ⟨od, J⟩ := J
      obtain ⟨cd, hcl, _⟩ := PySem.W.any_some C.hd
      exact PySem.W.kia_one (PySem.W.kitx_exc (by rw [hcl]; rfl) C.hg C.hk C.hs C.ha C.hn C.ht C.hm) I.kIn J e (fun z => nomatch z) fun tk => ⟨.bl b, H, I.kept (t' := tk) fun _ _ z => z, rfl, q⟩
/-- xs.count(y), flat things -/
def rCntF (K : PySem.W.Frag) : V → List V → Hp → VK → Prop := fun x xs H Q => ∃ (p : Addr) (ys : List V) (y : V), x = .ref p ∧ xs = [y] ∧ SqL K H p ys ∧ flatV y = true ∧ ys.all flatV = true ∧ Q (.int (ys.countP (fun z => eqV z y) : Nat)) H
theorem count_rel {y : V} : ∀ {ys : List V} {us : List Value}, Vals ys us → ys.all flatV = true → us.countP (eqU y) = ys.countP (fun z => eqV z y)
  | [], _, .nil, _ => rfl
  | z :: ys, u :: us, .cons r rs, h => by
    have h2 : flatV z = true ∧ ys.all flatV = true := by simpa using h
    rw [List.countP_cons, List.countP_cons, count_rel rs h2.2, eqU_of r h2.1]
theorem mt_lcountF {X : Cx} : MtR X "list.count" (rCntF X.K) := by
  intro pins s σ H x xs v us Q I rx rxs h
  obtain ⟨p, ys, y, rfl, rfl, hs, fy, fys, q⟩ := h
  cases rx
  obtain ⟨u, rfl, ru⟩ := rxs.one
  obtain ⟨its, rv, ⟨⟨cls, dd, data, sl⟩, n, ho, hc, hdn, hd⟩, hlen⟩ := I.list hs
  simp only at hc hd
  subst hc hd
  have ec : its.countP (eqU y) = ys.countP (fun z => eqV z y) := count_rel rv fys
  refine call_meets PySem.F.slot_list_count ⟨_, ho, rfl⟩ PySem.F.entry_list_count (PySem.F.args_list_count_2 _ _)
    (SeqAt.list_countAt p its.toArray n dd sl u (eqU y)) ⟨ho, fun u' hu' => mem_eqAt ru fy rv fys u' (by simpa using hu'), ?_⟩
  refine ⟨.int (ys.countP (fun z => eqV z y) : Nat), H, I.tok _, ⟨s.toks, ?_⟩, q⟩
  show Value.int ((its.toArray.toList.countP (eqU y) : Nat) : Int) s.toks = Value.int ((ys.countP (fun z => eqV z y) : Nat) : Int) s.toks
  have : its.toArray.toList = its := by simp
  rw [this, ec]
end Z
namespace Z
def errNames : List Str := ["InvalidSlack", "InvalidTimes", "NotForward", "TooGreat", "InvalidPlace", "InvalidCount", "InvalidRange", "OutOfBound", "Contradiction", "InvalidName", "UnknownName", "InvalidPanel", "UnlikeRigs", "InvalidRow", "InvalidEnds", "InvalidMemory", "InvalidOperation", "InvalidRecording", "NotationError", "DecodeError"]
def errText : Str := "slack times forward great place count range bound contradiction name unknown panel unlike row ends memory operation recording notation decode"
/-- what is known of an error's class -/
structure XnC (K : PySem.W.Frag) (c : Cl) (n : Str) : Prop where
  ex : ExcC K (c.er n)
  is : ∀ m ∈ errNames, PySem.W.kitOne K (.ref (c.er n)) (.ref (c.er m)) = some (decide (n = m))
  ve : PySem.W.kitOne K (.ref (c.er n)) (.type "ValueError") = some true
  tr : PySem.W.exmOne K (.ref (c.er n)) (.ref (c.er "RodError")) = some true
  xf : XfC K (c.er n)
  nf : PySem.W.findIn K (.ref (c.er n)) (xfn n) = some none
  mem : n ∈ errNames
/-- the errors' names, as the module has them -/
def XgC (mg : Str → Option Value) (c : Cl) : Prop := ∀ m, m ∈ errNames ∨ m = "RodError" → mg m = some (.ref (c.er m))
def W.isB : W → Bool | .bl _ => true | _ => false
def W.tr : W → Bool | .bl b => b | _ => false
def cntT (xs : List W) : Nat := xs.countP W.tr
def ixT (xs : List W) : Nat := xs.findIdx W.tr
section
variable {K : PySem.W.Frag} {c : Cl} {te ta tb : TE} {tr : TA} {e a b : XE} {ar : XA}
theorem vs_bls : ∀ {xs : List W} {vs : List V} {h : Hp}, xs.all W.isB = true → Vs (W.ps K c xs) vs h → vs = xs.map (fun w => V.bl w.tr)
  | [], _, _, _, .nil => rfl
  | x :: xs, _, _, hb, q => by
    have q : Vs (x.p K c :: W.ps K c xs) _ _ := q
    cases q with
    | cons q1 q2 =>
      have hb2 : x.isB = true ∧ xs.all W.isB = true := by simpa using hb
      rw [vs_bls hb2.2 q2]
      cases x <;> first | (cases hb2.1; done) | skip
      obtain rfl := dp_bl q1
      rfl
theorem flat_bls (xs : List W) : (xs.map fun w => V.bl w.tr).all flatV = true := by
  rw [List.all_eq_true]
  intro v hv
  obtain ⟨w, _, rfl⟩ := List.mem_map.mp hv
  rfl
/-- isinstance(e, X), e the slot of the error that is caught -/
def XE.isV (a : Addr) (d : Option Addr) (n : Str) (j : Nat) (m : Str) : XE := ⟨fun ρ Q => (∃ i, ρ[j]? = some (some (.exv a d n i))) ∧ m ∈ errNames ∧ Q (.bl (decide (n = m))), fun k ⟨x, y, z⟩ => ⟨x, y, k _ z⟩⟩
def XE.isVE (a : Addr) (d : Option Addr) (n : Str) (j : Nat) : XE := ⟨fun ρ Q => (∃ i, ρ[j]? = some (some (.exv a d n i))) ∧ Q (.bl true), fun k ⟨x, z⟩ => ⟨x, k _ z⟩⟩
theorem exv_p {ad : Addr} {d : Option Addr} {n : Str} {i : Option Int} {v : V} {h : Hp} (q : ((W.exv ad d n i).p K c).p v h) : v = .ref ad ∧ (d = none ∨ ∃ dd fs, d = some dd ∧ h dd = some (.xd fs)) := by
  obtain ⟨e, r⟩ := q
  refine ⟨e, ?_⟩
  cases i with
  | none => exact .inl r
  | some x => obtain ⟨dd, r1, r2⟩ := r; exact .inr ⟨dd, _, r1, r2⟩
theorem exv_in {d : Option Addr} {h H : Hp} (e : Ex h H) (q : d = none ∨ ∃ dd fs, d = some dd ∧ h dd = some (.xd fs)) : d = none ∨ ∃ dd fs, d = some dd ∧ H dd = some (.xd fs) := q.imp_right fun ⟨dd, fs, a, b⟩ => ⟨dd, fs, a, e _ _ b⟩
theorem ev_isV {ad : Addr} {d : Option Addr} {n m : Str} {j : Nat} (x : XnC K c n) : Ev K c (tCB (rIsX K (c.er n) ad d) (tCons (tVar j) (tCons (tC (.ref (c.er m))) tNil))) (.isV ad d n j m) := fun ρ Q ⟨⟨i, hj⟩, hm, q⟩ σ h H en e R k => by
  obtain ⟨v, hv, pv⟩ := en.at_ j _ (G_get hj)
  obtain ⟨rfl, hd⟩ := exv_p pv
  exact ⟨_, hv, .ref (c.er m), .ref (c.er m), _, rfl, fun u r => r, x.is m hm, exv_in e hd, k _ h H (Stp.refl e) ⟨_, q, Dq.bl _⟩⟩
theorem ev_isVE {ad : Addr} {d : Option Addr} {n : Str} {j : Nat} (x : XnC K c n) : Ev K c (tCB (rIsX K (c.er n) ad d) (tCons (tVar j) (tCons (tC (.ty "ValueError")) tNil))) (.isVE ad d n j) := fun ρ Q ⟨⟨i, hj⟩, q⟩ σ h H en e R k => by
  obtain ⟨v, hv, pv⟩ := en.at_ j _ (G_get hj)
  obtain ⟨rfl, hd⟩ := exv_p pv
  exact ⟨_, hv, .ty "ValueError", .type "ValueError", _, rfl, fun u r => r, x.ve, exv_in e hd, k _ h H (Stp.refl e) ⟨_, q, Dq.bl _⟩⟩
/-- xs.count(True), xs.index(True), a list of truths -/
def XE.cntT (a b : XE) : XE := ⟨fun ρ Q => a.f ρ fun w => ∃ xs, w = .lst xs ∧ xs.all W.isB = true ∧ b.f ρ fun y => y = .bl true ∧ Q (.int (Z.cntT xs : Nat)), fun k q => a.m (fun _ ⟨xs, e, z, y⟩ => ⟨xs, e, z, b.m (fun _ ⟨u, v⟩ => ⟨u, k _ v⟩) y⟩) q⟩
def XE.ixT (a b : XE) : XE := ⟨fun ρ Q => a.f ρ fun w => ∃ xs, w = .lst xs ∧ xs.all W.isB = true ∧ b.f ρ fun y => y = .bl true ∧ Z.ixT xs < xs.length ∧ Q (.int (Z.ixT xs : Nat)), fun k q => a.m (fun _ ⟨xs, e, z, y⟩ => ⟨xs, e, z, b.m (fun _ ⟨u, l, v⟩ => ⟨u, l, k _ v⟩) y⟩) q⟩
theorem cnt_bls (xs : List W) (hb : xs.all W.isB = true) : (xs.map fun w => V.bl w.tr).countP (fun z => eqV z (.bl true)) = Z.cntT xs := by
  unfold Z.cntT
  rw [List.countP_map]
  congr 1
  funext w
  show (w.tr == true) = w.tr
  cases w.tr <;> rfl
theorem ev_cntT (ha : Ev K c ta a) (hb : Ev K c tb b) : Ev K c (tBM K "list" (rCntF K) ta (tCons tb tNil)) (.cntT a b) := fun ρ Q q σ h H en e R k => ha ρ _ q σ h H en e _ fun v h1 H1 s1 ⟨w, ⟨xs, ew, hx, q1⟩, pw⟩ => by
  subst ew
  obtain ⟨p, vs, rfl, hp, pv⟩ := (show (L K (W.ps K c xs)).p v h1 from pw)
  obtain rfl := vs_bls hx pv
  refine ⟨.inl ⟨rfl, _, .inl (.inl (s1.i _ _ hp))⟩, hb ρ _ q1 σ h1 H1 (en.mono s1.s) s1.i _ fun u h2 H2 s2 ⟨y, ⟨ey, q2⟩, py⟩ => ?_⟩
  subst ey
  obtain rfl := p_bl py
  refine ⟨p, _, .bl true, rfl, rfl, .inl (.inl (s2.i _ _ (s2.s _ _ hp))), rfl, flat_bls xs, ?_⟩
  rw [cnt_bls xs hx]
  exact k _ h2 H2 (s1.trans s2) ⟨_, q2, Dq.int _⟩
theorem ev_ixT (ha : Ev K c ta a) (hb : Ev K c tb b) : Ev K c (tBM K "list" (rIndex K) ta (tCons tb tNil)) (.ixT a b) := fun ρ Q q σ h H en e R k => ha ρ _ q σ h H en e _ fun v h1 H1 s1 ⟨w, ⟨xs, ew, hx, q1⟩, pw⟩ => by
  subst ew
  obtain ⟨p, vs, rfl, hp, pv⟩ := (show (L K (W.ps K c xs)).p v h1 from pw)
  obtain rfl := vs_bls hx pv
  refine ⟨.inl ⟨rfl, _, .inl (.inl (s1.i _ _ hp))⟩, hb ρ _ q1 σ h1 H1 (en.mono s1.s) s1.i _ fun u h2 H2 s2 ⟨y, ⟨ey, hl, q2⟩, py⟩ => ?_⟩
  subst ey
  obtain rfl := p_bl py
  have at_ : W.tr (xs[Z.ixT xs]) = true := List.findIdx_getElem (w := hl)
  refine ⟨p, _, .bl true, Z.ixT xs, .bl true, rfl, rfl, .inl (.inl (s2.i _ _ (s2.s _ _ hp))), rfl, flat_bls xs, ?_, rfl, fun m z hm hz => ?_, k _ h2 H2 (s1.trans s2) ⟨_, q2, Dq.int _⟩⟩
  · rw [List.getElem?_map, List.getElem?_eq_getElem hl]
    show some (V.bl _) = _
    rw [at_]
  · rw [List.getElem?_map, List.getElem?_eq_getElem (Nat.lt_trans hm hl)] at hz
    cases hz
    have := List.not_of_lt_findIdx (p := W.tr) (xs := xs) hm
    show (W.tr _ == true) = false
    simp [this]
/-- s.split(t) -/
def XE.spl (a b : XE) : XE := ⟨fun ρ Q => a.f ρ fun w => ∃ s, w = .str s ∧ b.f ρ fun y => ∃ t, y = .str t ∧ (t.length == 0) = false ∧ s.length + 2 ≤ sizeLine ∧ Q (.lst ((Txt.split s t).map .str)), fun k q => a.m (fun _ ⟨s, e, y⟩ => ⟨s, e, b.m (fun _ ⟨t, u, z1, z2, v⟩ => ⟨t, u, z1, z2, k _ v⟩) y⟩) q⟩
theorem strs_vs {h : Hp} : ∀ ss : List Str, Vs (W.ps K c (ss.map .str)) (ss.map V.str) h
  | [] => .nil
  | s :: ss => .cons (Dq.str s) (strs_vs ss)
theorem ev_spl (ha : Ev K c ta a) (hb : Ev K c tb b) : Ev K c (tBM K "str" (fun x xs H Q => ∃ a b, x = .str a ∧ xs = [.str b] ∧ (b.length == 0) = false ∧ a.length + 2 ≤ sizeLine ∧ rNewStrs (Txt.split a b) H Q) ta (tCons tb tNil)) (.spl a b) := fun ρ Q q σ h H en e R k => ha ρ _ q σ h H en e _ fun v h1 H1 s1 ⟨w, ⟨s, ew, q1⟩, pw⟩ => by
  subst ew
  obtain rfl := dp_str pw
  refine ⟨rfl, hb ρ _ q1 σ h1 H1 (en.mono s1.s) s1.i _ fun u h2 H2 s2 ⟨y, ⟨t, ey, z1, z2, q2⟩, py⟩ => ?_⟩
  subst ey
  obtain rfl := dp_str py
  refine ⟨s, t, rfl, rfl, z1, z2, fun p np => ?_⟩
  have st := Stp.new (o := .lst ((Txt.split s t).map V.str)) s2.i np
  exact k _ _ _ ((s1.trans s2).trans st) ⟨_, q2, p, _, rfl, upd_same, strs_vs _⟩
/-- a text in a list of texts -/
def XO.inS (n : Bool) : XO := ⟨fun x y Q => ∃ (s : Str) (ss : List Str), x = .str s ∧ y = .lst (ss.map .str) ∧ Q (.bl (n ^^ decide (s ∈ ss))), fun k ⟨i, ns, a, b, q⟩ => ⟨i, ns, a, b, k _ q⟩⟩
theorem inV_strs (s : Str) : ∀ ss : List Str, inV (.str s) (ss.map V.str) = decide (s ∈ ss)
  | [] => rfl
  | t :: ss => by
    show (eqV (.str t) (.str s) || inV (.str s) (ss.map V.str)) = _
    rw [inV_strs s ss]
    show ((t == s) || decide (s ∈ ss)) = _
    rw [show (t == s) = decide (s = t) by rw [Bool.eq_iff_iff, beq_iff_eq, decide_eq_true_iff]; exact eq_comm, ← Bool.decide_or]
    exact decide_eq_decide.mpr List.mem_cons.symm
theorem flat_strs : ∀ ss : List Str, (ss.map V.str).all flatV = true
  | [] => rfl
  | n :: ns => by rw [List.map_cons, List.all_cons, flat_strs ns]; rfl
theorem vs_strs : ∀ {ss : List Str} {vs : List V} {h : Hp}, Vs (W.ps K c (ss.map .str)) vs h → vs = ss.map V.str
  | [], _, _, q => by cases q; rfl
  | s :: ss, _, _, q => by
    have q : Vs ((W.str s).p K c :: W.ps K c (ss.map .str)) _ _ := q
    cases q with
    | cons a b => rw [vs_strs b, dp_str a]; rfl
theorem eo_inS {n : Bool} : EO K c (rIn K n) (.inS n) := fun x y Q ⟨s, ss, ex, ey, q⟩ u v h H a d e R k => by
  subst ex ey
  obtain rfl := dp_str a
  obtain ⟨p, vs, rfl, hp, pv⟩ := (show (L K (W.ps K c (ss.map .str))).p v h from d)
  obtain rfl := vs_strs pv
  have fin : (if n then !inV (.str s) (ss.map V.str) else inV (.str s) (ss.map V.str)) = (n ^^ decide (s ∈ ss)) := by
    rw [inV_strs]; cases n <;> simp
  exact ⟨p, _, rfl, .inl (.inl (.inl (e _ _ hp))), rfl, flat_strs ss, by rw [fin]; exact k _ h H (Stp.refl e) ⟨_, q, Dq.bl _⟩⟩
/-- e.index, e.offset -/
def XE.xfv (a : Addr) (d : Option Addr) (n : Str) (j : Nat) (f : Str) : XE := ⟨fun ρ Q => xfn n = f ∧ ∃ x, ρ[j]? = some (some (.exv a d n (some x))) ∧ Q (.int x), fun k ⟨x, i, y, z⟩ => ⟨x, i, y, k _ z⟩⟩
def tGiv (p : Prop) (t : TE) : TE := fun σ H Q => p ∧ t σ H Q
theorem pe_giv {X : Cx} {p : Prop} {x : Expr} {t : TE} (h : p → PE X x t) : PE X x (tGiv p t) := ⟨fun pins s σ H Q I ⟨hp, q⟩ => (h hp).run pins s σ H Q I q⟩
theorem ev_xfv {ad : Addr} {d : Option Addr} {n f : Str} {j : Nat} : Ev K c (tGiv (xfn n = f) (tXf ad (.ref (c.er n)) d (c.er n) f (tVar j))) (.xfv ad d n j f) := fun ρ Q ⟨hf, x, hj, q⟩ σ h H en e R k => by
  subst hf
  obtain ⟨v, hv, pv⟩ := en.at_ j _ (G_get hj)
  obtain ⟨rfl, dd, hd, hx⟩ := pv
  exact ⟨rfl, _, hv, rfl, rfl, dd, _, .int x, hd, e _ _ hx, by simp [List.lookup], k _ h H (Stp.refl e) ⟨_, q, Dq.int _⟩⟩
theorem pe_xfv {X : Cx} {a : Addr} {oe : Obj} {d : Option Addr} {pn : List (Addr × Obj)} {e : Expr} {te : TE} {pos : Pos} {n f : Str} (x : XnC X.K c n) (hz : Zc (.ref (c.er n)) d oe) (hf : ∃ vs, oe.data = .fields vs) (he : PE (X.suite a ((a, oe) :: pn)) e te)
    (hb : attributeBase e f X.env (eval e X.env) = eval e X.env := by rfl) : PE (X.suite a ((a, oe) :: pn)) (.Attribute e f pos) (tGiv (xfn n = f) (tXf a (.ref (c.er n)) d (c.er n) f te)) :=
  pe_giv fun q => pe_xf x.xf (by rw [← q]; exact x.nf) hz hf he hb
theorem d_isV {a : Addr} {d : Option Addr} {n m : Str} {j : Nat} {ρ : Sl} {Q : W → Prop} : ((XE.isV a d n j m).f ρ Q) = ((∃ i, ρ[j]? = some (some (.exv a d n i))) ∧ m ∈ errNames ∧ Q (.bl (decide (n = m)))) := rfl
theorem d_isVE {a : Addr} {d : Option Addr} {n : Str} {j : Nat} {ρ : Sl} {Q : W → Prop} : ((XE.isVE a d n j).f ρ Q) = ((∃ i, ρ[j]? = some (some (.exv a d n i))) ∧ Q (.bl true)) := rfl
theorem d_cntT {ρ : Sl} {Q : W → Prop} : ((XE.cntT a b).f ρ Q) = (a.f ρ fun w => onL w fun xs => xs.all W.isB = true ∧ b.f ρ fun y => y = .bl true ∧ Q (.int (Z.cntT xs : Nat))) := rfl
theorem d_ixT {ρ : Sl} {Q : W → Prop} : ((XE.ixT a b).f ρ Q) = (a.f ρ fun w => onL w fun xs => xs.all W.isB = true ∧ b.f ρ fun y => y = .bl true ∧ Z.ixT xs < xs.length ∧ Q (.int (Z.ixT xs : Nat))) := rfl
theorem d_spl {ρ : Sl} {Q : W → Prop} : ((XE.spl a b).f ρ Q) = (a.f ρ fun w => onStr w fun s => b.f ρ fun y => onStr y fun t => (t.length == 0) = false ∧ s.length + 2 ≤ sizeLine ∧ Q (.lst ((Txt.split s t).map .str))) := rfl
theorem d_oinS {x y : W} {n : Bool} {Q : W → Prop} : ((XO.inS n).f x y Q) = (onStr x fun s => ∃ ss : List Str, y = .lst (ss.map .str) ∧ Q (.bl (n ^^ decide (s ∈ ss)))) := propext ⟨fun ⟨s, ss, a, b, q⟩ => ⟨s, a, ss, b, q⟩, fun ⟨s, a, ss, b, q⟩ => ⟨s, ss, a, b, q⟩⟩
theorem d_xfv {a : Addr} {d : Option Addr} {n f : Str} {j : Nat} {ρ : Sl} {Q : W → Prop} : ((XE.xfv a d n j f).f ρ Q) = (xfn n = f ∧ ∃ x, ρ[j]? = some (some (.exv a d n (some x))) ∧ Q (.int x)) := rfl
end
def runK := And.intro (@d_isV) (And.intro (@d_isVE) (And.intro (@d_cntT) (And.intro (@d_ixT) (And.intro (@d_spl) (And.intro (@d_oinS) (@d_xfv))))))
end Z
namespace Z
theorem en_none {K : PySem.W.Frag} {c : Cl} {n : Nat} {σ : L2.St} {h : Hp} (l : σ.length = n) : En (Sl.G K c (List.replicate n none)) σ h := by
  refine ⟨by rw [G_len, List.length_replicate]; exact l, fun i P e => ?_⟩
  unfold Sl.G at e
  rw [List.map_replicate, List.getElem?_replicate] at e
  split at e <;> cases e
/-- try: a() / except RodError as e: suite; return None -/
theorem gives_err {X : Cx} {Ng : List Str} {x a en : Str} {sg : Scope} {g : Addr} {cdg : Value} {b0 : Stmt} {bs bg : List Stmt} {r : Expr} {c : Cl} {φ : Str → Option Int → Prop} {j : Nat} {p1 p2 p3 p4 p5 p6 p7 : Pos} {ts : Str → Addr → Option Addr → TS} {xs : Str → Addr → Option Addr → XS}
    (hbg : bg = [.Try [.Expr (.Call (.Name a p1) [] [] p2) p3] [.ExceptHandler (some (.Name "RodError" p4)) (some en) (b0 :: bs) p5] [] [] p6, .Return (some r) p7])
    (hx : ∀ n i, φ n i → XnC X.K c n) (hge : sg.names.lookup ("RodError" : Str) = some .globalImplicit) (gr : X.mg "RodError" = some (.ref (c.er "RodError"))) (hN : Ng.Nodup) (hj : Ng[j]? = some en) (hln : sg.names.lookup en = some .local)
    (h0 : ∀ f : Addr, (L2.start Ng [V.ref f])[0]? = some (some (V.ref f))) (hr : ∀ X' : Cx, PE X' r (tC .non))
    (hsu : ∀ (s : Shared) (H : Hp) (n : Str) (ad : Addr) (oe : Obj) (d : Option Addr) (pn : List (Addr × Obj)), XnC X.K c n → Zc (.ref (c.er n)) d oe → (∃ vs, oe.data = .fields vs) →
      PSs ((cxOf C8.CX0 X.prog X.w X.K X.mg X.base Ng x sg g cdg X.A X.stack s H C8.E0).nox.suite ad ((ad, oe) :: pn)) (b0 :: bs) (ts n ad d))
    (hes : ∀ n ad d, XnC X.K c n → ES X.K c (ts n ad d) (xs n ad d))
    (hrun : ∀ n i ad d (Q : W → Prop), φ n i → XnC X.K c n → Q (told n i) → (xs n ad d).f ⟨(List.replicate Ng.length none).set j (some (.exv ad d n i)), none⟩ ⟨fun _ => False, Q, fun _ => False, fun _ => False⟩) :
    GivesT X Ng x sg g cdg bg a (TTerr X.K c φ) := by
  subst hbg
  intro f c' s H Q tl act hc ⟨E, htl, hE⟩
  have jl : j < Ng.length := (List.getElem?_eq_some_iff.mp hj).1
  refine ⟨_, pss_cons (ps_try_as (X := (cxOf C8.CX0 X.prog X.w X.K X.mg X.base Ng x sg g cdg X.A X.stack s H C8.E0).nox) (c := .ref (c.er "RodError")) (i := j)
      (tb := fun W D σ H => ∃ Ech : XK, (∀ cls d σ' H', σ'.length = Ng.length → Ech cls d H' → W cls d σ' H') ∧ σ[0]? = some (some (.ref f)) ∧ H c' = some (LamX.CodeO c' q0) ∧ tl Ech H (fun _ H' => D.nx σ H'))
      (ts := fun ad cls d D σ H => ∃ n, cls = .ref (c.er n) ∧ XnC X.K c n ∧ ts n ad d D σ H)
      rfl rfl hN hj hln ⟨hge, by decide, .inl gr⟩ LamX.takes0 (fun W pn xe tk _ => ?_) (fun ad oe cls d pn hz hv => ⟨fun pins s' σ H' D I ⟨n, e, xn, q⟩ => ?_⟩)) (pss_one (ps_ret (hr _))), ?_⟩
  · refine ⟨fun pins s' σ H' D I ⟨Ech, hW, h1, h2, h3⟩ => ?_⟩
    have hp := pss_one (ps_expr (pos := p3) (act W pn xe Ech p1 p2 tk hW))
    exact hp.run pins s' σ H' D I ⟨h1, h2, h3⟩
  · subst e
    exact (hsu s H n ad oe d pn xn hz hv).run pins s' σ H' D I q
  · refine ⟨E, fun cls d σ' H' hl he => ?_, h0 f, hc, htl⟩
    obtain ⟨n, i, h', ok, fi, ex, kk⟩ := hE cls d H' he
    have xn := hx n i fi
    obtain ⟨rfl, ok2⟩ := ok
    refine ⟨true, xn.tr, fun _ ad na => ⟨n, rfl, xn, ?_⟩, fun z => by cases z⟩
    refine hes n ad d xn ⟨(List.replicate Ng.length none).set j (some (.exv ad d n i)), none⟩ ⟨fun _ => False, fun w => w = told n i, fun _ => False, fun _ => False⟩ ⟨h', H', h'⟩ _ (hrun n i ad d _ fi xn rfl) ?_ (σ'.set j (some (.ref ad))) h' H' ?_ ⟨Stp.refl ex, fun _ _ q => q⟩ trivial
    · exact ⟨fun φ z => z.elim, fun w z v h2 H2 st pw => by subst z; exact kk v h2 H2 st pw, fun φ z => z.elim, fun φ z => z.elim⟩
    · rw [G_set]
      exact (en_none hl).set j ⟨rfl, ok2⟩
end Z

namespace Z
open PySem L2
/-! ### own methods and operators that may raise -/
structure MxX (P : Program) (w : World) (K : PySem.W.Frag) (mg : Str → Option Value) (base : Heap) (k : Nat) (C : Addr) (m : Str) (sp : Sp) : Prop where
  ex : ∃ f, PySem.W.findIn K (.ref C) m = some (some (.ref f)) ∧ PySem.W.isFn K (.ref f) = true ∧ PySem.W.fnIn K f = true ∧ FnR P w K mg base (L2.CX P w) k f sp
structure IxX (P : Program) (w : World) (K : PySem.W.Frag) (mg : Str → Option Value) (base : Heap) (k : Nat) (x : Str) (C : Addr) (sp : Sp) : Prop where
  ex : ∃ f, Mk K C f ∧ mg x = some (.ref C) ∧ FnR P w K mg base (L2.CX P w) k f sp
section
variable {P : Program} {w : World} {K : PySem.W.Frag} {mg : Str → Option Value} {base : Heap} {c : Cl}
theorem Dm.runX {F : XF} {m qual : Str} {st : Stmt} {ps N : List Str} {k : Nat} {f : Addr} {s : XS} (d : Dm K m qual st ps f) (S : FnScope N ps (defScope st)) (hn : F.n = ps.length)
    (hb : ∀ (a : F.α) (Q : W → Prop), F.pre a → (∀ w, F.post a w → Q w) → s.whole (F.args a) (N.length - ps.length) Q)
    (ht : ∀ (cdv : Value) (A : Around) (outer : List Env) (sh : Shared) (H : Hp) (E : XK), Room k (A.deeper (PyProof.Rows.envOfC qual (defScope st) sh.heap.objs.size f cdv)) → ∃ t : TS, PSs (cxOf (L2.CX P w) P w K mg base N qual (defScope st) f cdv A outer sh H E) (defBody st) t ∧ ESX K c (jE c E) t s) :
    ∃ fd, FnOk P w K mg base (L2.CX P w) (k + 1) f fd ps (F.spx K c) ∧ Binds K fd ps [] := by
  obtain ⟨fd, F', hb'⟩ := d.ex
  exact ⟨fd, fun_runX F' S hn hb ht, hb'⟩
theorem Mt.mxX {C : Addr} {m : Str} {f : Addr} {k : Nat} {ps : List Str} {sp : Sp} (t : Mt K C m f) (o : ∃ fd, FnOk P w K mg base (L2.CX P w) k f fd ps sp ∧ Binds K fd ps []) : MxX P w K mg base k C m sp := by
  obtain ⟨fd, F, b⟩ := o
  exact ⟨f, t.at_, t.fn, t.fi, rawX F b⟩
theorem ix_ofX {C f : Addr} {x : Str} {k : Nat} {ps : List Str} {sp : Sp} (t : Mk K C f) (hm : mg x = some (.ref C)) (o : ∃ fd, FnOk P w K mg base (L2.CX P w) k f fd ps sp ∧ Binds K fd ps []) : IxX P w K mg base k x C sp := by
  obtain ⟨fd, F, b⟩ := o
  exact ⟨f, t, hm, rawX F b⟩
end
section
variable {X : Cx} {k j : Nat} {x : Str} {sp : Sp} {E : XK} {p pos : Pos} {e o : Expr} {es : List Expr} {t : TA} {ta tb : TE} {C : Addr} {m : Str}
theorem pe_mkX (c : IxX X.prog X.w X.K X.mg X.base k x C sp) (hr : Room j X.A) (hk : k + 1 ≤ j) (hx : Passes (L2.CX X.prog X.w) X E) (hg : Gl X x) (ha : PA X (e :: es) t)
    (hdb : (x == ("__debug__" : Str)) = false := by decide) (he : starEach (e :: es) X.env = (false, eval e X.env) :: starEach es X.env := by rfl) (hpl : (backTo pos (starEach es X.env)).any (·.1) = false := by rfl) :
    PE X (.Call (.Name x p) (e :: es) [] pos) (StX.tMakeR C sp E t) := by
  obtain ⟨f, M, hm, F⟩ := c.ex
  exact StX.pe_makeR M F (hr.mono hk) hg hm hx ha hdb he hpl
end
/-! evidence -/
section
variable {K : PySem.W.Frag} {c : Cl} {E : XK} {te ta tb : TE} {tr : TA} {e a b : XE} {ar : XA} {r : R2}
/-- x[y], x * y with any y -/
def XO.ownTwo (k : Bool) (F : XF) : XO := ⟨fun x y Q => x.is k ∧ F.f [x, y] Q, fun k ⟨a, q⟩ => ⟨a, F.m k q⟩⟩
/-- two texts put together -/
def XO.catS : XO := ⟨fun x y Q => ∃ s t : Str, x = .str s ∧ y = .str t ∧ s.length + t.length ≤ sizeLine ∧ Q (.str (s ++ t)), fun k ⟨s, t, a, b, l, q⟩ => ⟨s, t, a, b, l, k _ q⟩⟩
theorem eo_catS : EO K c (fun x y H Q => ∃ i j, x = .str i ∧ y = .str j ∧ i.length + j.length ≤ sizeLine ∧ Q (.str (i ++ j)) H) .catS := fun x y Q ⟨s, t, ex, ey, l, q⟩ u v h H a d e R k => by
  subst ex ey
  obtain rfl := dp_str a
  obtain rfl := dp_str d
  exact ⟨s, t, rfl, rfl, l, k _ h H (Stp.refl e) ⟨_, q, Dq.str _⟩⟩
theorem d_ocatS {x y : W} {Q : W → Prop} : (XO.catS.f x y Q) = (onStr x fun s => onStr y fun t => s.length + t.length ≤ sizeLine ∧ Q (.str (s ++ t))) := propext ⟨fun ⟨s, t, a, b, l, q⟩ => ⟨s, a, t, b, l, q⟩, fun ⟨s, a, t, b, l, q⟩ => ⟨s, t, a, b, l, q⟩⟩
theorem d_ownTwo {x y : W} {k : Bool} {F : XF} {Q : W → Prop} : ((XO.ownTwo k F).f x y Q) = (x.is k ∧ F.f [x, y] Q) := rfl
theorem d_err {φ : Str → Option Int → Prop} {ρ : Sl} {Q : W → Prop} : ((XE.err φ e).f ρ Q) = (e.f ρ (orX (fun w => match w with | .exc n i => φ n i ∧ Q (told n i) | _ => False) fun _ => Q .non)) := rfl
theorem d_dropX {φ : Fr} {κ : Ko} : ((XS.dropX a).f φ κ) = (a.f φ.s (orX κ.rt fun _ => κ.nx φ)) := rfl
theorem d_rai {φ : Fr} {κ : Ko} {n : Str} : ((XS.rai n).f φ κ) = (κ.rt (.exc n none)) := rfl
theorem d_rai1 {φ : Fr} {κ : Ko} {n : Str} : ((XS.rai1 n a).f φ κ) = (a.f φ.s fun _ => κ.rt (.exc n none)) := rfl
theorem orX_exc {κ k : W → Prop} {n : Str} {i : Option Int} : orX κ k (.exc n i) = κ (.exc n i) := rfl
theorem orX_non {κ k : W → Prop} : orX κ k .non = k .non := rfl
theorem orX_bl {κ k : W → Prop} {b : Bool} : orX κ k (.bl b) = k (.bl b) := rfl
theorem orX_int {κ k : W → Prop} {b : Int} : orX κ k (.int b) = k (.int b) := rfl
end
def runXL := And.intro (@d_ocatS) (And.intro (@d_ownTwo) (And.intro (@d_err) (And.intro (@d_dropX) (And.intro (@d_rai) (And.intro (@d_rai1) (And.intro (@orX_exc) (And.intro (@orX_non) (And.intro (@orX_bl) (@orX_int)))))))))
theorem pl_told {s : Str} {i : Int} (h : PyData.strOk s = true) : Pl 60 (.tup [.str s, .int i]) := fun x hx => by
  rcases List.mem_cons.mp hx with rfl | hx
  · exact h
  · rcases List.mem_cons.mp hx with rfl | hx
    · trivial
    · cases hx
/-! ### raise, the error's class known -/
end Z
namespace Z
open PySem L2
/-- the def that tells what error its argument raises, as it stands -/
structure ErrK (P : Program) (w : World) (K : PySem.W.Frag) (mg : Str → Option Value) (base : Heap) (c : Cl) (φ : Str → Option Int → Prop) (x : Str) : Prop where
  ex : ∃ (st : Stmt) (N : List Str) (a : Str), Dn K mg x st [a] ∧ FnScope N [a] (defScope st) ∧ N[0]? = some a ∧ Vis (defScope st) a ∧ (a == ("__debug__" : Str)) = false ∧ (a == ("__classdict__" : Str)) = false ∧
    ∀ X : Cx, X.prog = P → X.w = w → X.K = K → X.mg = mg → X.base = base → ∀ (g : Addr) (cdv : Value), GivesT X N x (defScope st) g cdv (defBody st) a (TTerr K c φ)
end Z
namespace Z
open PySem L2
theorem em_InvalidSlack : ((PySem.Str.ofString "InvalidSlack") ∈ errNames) = True := eq_true (by decide)
theorem em_InvalidTimes : ((PySem.Str.ofString "InvalidTimes") ∈ errNames) = True := eq_true (by decide)
theorem em_NotForward : ((PySem.Str.ofString "NotForward") ∈ errNames) = True := eq_true (by decide)
theorem em_TooGreat : ((PySem.Str.ofString "TooGreat") ∈ errNames) = True := eq_true (by decide)
theorem em_InvalidPlace : ((PySem.Str.ofString "InvalidPlace") ∈ errNames) = True := eq_true (by decide)
theorem em_InvalidCount : ((PySem.Str.ofString "InvalidCount") ∈ errNames) = True := eq_true (by decide)
theorem em_InvalidRange : ((PySem.Str.ofString "InvalidRange") ∈ errNames) = True := eq_true (by decide)
theorem em_OutOfBound : ((PySem.Str.ofString "OutOfBound") ∈ errNames) = True := eq_true (by decide)
theorem em_Contradiction : ((PySem.Str.ofString "Contradiction") ∈ errNames) = True := eq_true (by decide)
theorem em_InvalidName : ((PySem.Str.ofString "InvalidName") ∈ errNames) = True := eq_true (by decide)
theorem em_UnknownName : ((PySem.Str.ofString "UnknownName") ∈ errNames) = True := eq_true (by decide)
theorem em_InvalidPanel : ((PySem.Str.ofString "InvalidPanel") ∈ errNames) = True := eq_true (by decide)
theorem em_UnlikeRigs : ((PySem.Str.ofString "UnlikeRigs") ∈ errNames) = True := eq_true (by decide)
theorem em_InvalidRow : ((PySem.Str.ofString "InvalidRow") ∈ errNames) = True := eq_true (by decide)
theorem em_InvalidEnds : ((PySem.Str.ofString "InvalidEnds") ∈ errNames) = True := eq_true (by decide)
theorem em_InvalidMemory : ((PySem.Str.ofString "InvalidMemory") ∈ errNames) = True := eq_true (by decide)
theorem em_InvalidOperation : ((PySem.Str.ofString "InvalidOperation") ∈ errNames) = True := eq_true (by decide)
theorem em_InvalidRecording : ((PySem.Str.ofString "InvalidRecording") ∈ errNames) = True := eq_true (by decide)
theorem em_NotationError : ((PySem.Str.ofString "NotationError") ∈ errNames) = True := eq_true (by decide)
theorem em_DecodeError : ((PySem.Str.ofString "DecodeError") ∈ errNames) = True := eq_true (by decide)
def runEm := And.intro (@em_InvalidSlack) (And.intro (@em_InvalidTimes) (And.intro (@em_NotForward) (And.intro (@em_TooGreat) (And.intro (@em_InvalidPlace) (And.intro (@em_InvalidCount) (And.intro (@em_InvalidRange) (And.intro (@em_OutOfBound) (And.intro (@em_Contradiction) (And.intro (@em_InvalidName) (And.intro (@em_UnknownName) (And.intro (@em_InvalidPanel) (And.intro (@em_UnlikeRigs) (And.intro (@em_InvalidRow) (And.intro (@em_InvalidEnds) (And.intro (@em_InvalidMemory) (And.intro (@em_InvalidOperation) (And.intro (@em_InvalidRecording) (And.intro (@em_NotationError) ((@em_DecodeError))))))))))))))))))))
end Z
namespace Z
open PySem L2
def eL (n : Str) : List W := errNames.map fun m => W.bl (decide (n = m))
theorem eL_eq (n : Str) : [W.bl (decide (n = PySem.Str.ofString "InvalidSlack")), W.bl (decide (n = PySem.Str.ofString "InvalidTimes")), W.bl (decide (n = PySem.Str.ofString "NotForward")), W.bl (decide (n = PySem.Str.ofString "TooGreat")), W.bl (decide (n = PySem.Str.ofString "InvalidPlace")), W.bl (decide (n = PySem.Str.ofString "InvalidCount")), W.bl (decide (n = PySem.Str.ofString "InvalidRange")), W.bl (decide (n = PySem.Str.ofString "OutOfBound")), W.bl (decide (n = PySem.Str.ofString "Contradiction")), W.bl (decide (n = PySem.Str.ofString "InvalidName")), W.bl (decide (n = PySem.Str.ofString "UnknownName")), W.bl (decide (n = PySem.Str.ofString "InvalidPanel")), W.bl (decide (n = PySem.Str.ofString "UnlikeRigs")), W.bl (decide (n = PySem.Str.ofString "InvalidRow")), W.bl (decide (n = PySem.Str.ofString "InvalidEnds")), W.bl (decide (n = PySem.Str.ofString "InvalidMemory")), W.bl (decide (n = PySem.Str.ofString "InvalidOperation")), W.bl (decide (n = PySem.Str.ofString "InvalidRecording")), W.bl (decide (n = PySem.Str.ofString "NotationError")), W.bl (decide (n = PySem.Str.ofString "DecodeError"))] = eL n := rfl
theorem eL_all (n : Str) : (eL n).all W.isB = true := rfl
theorem eL_cnt : ∀ n ∈ errNames, Z.cntT (eL n) = 1 := by decide +kernel
theorem eL_lt : ∀ n ∈ errNames, Z.ixT (eL n) < 20 := by decide +kernel
theorem eL_text : (PySem.Str.ofString "slack times forward great place count range bound contradiction name unknown panel unlike") ++ (PySem.Str.ofString " row ends memory operation recording notation decode") = errText := by decide +kernel
theorem eL_ix : ∀ n ∈ errNames, (Txt.split errText (PySem.Str.ofString " "))[Z.ixT (eL n)]? = some (tagOf n) := by decide +kernel
/-- errors that tell no number, that tell an index, that tell an offset -/
def erPl : List Str := errNames.take 13
def erIx : List Str := (errNames.drop 13).take 6
theorem er_tag : ∀ n ∈ errNames, (tagOf n ∈ ([PySem.Str.ofString "row", PySem.Str.ofString "ends", PySem.Str.ofString "memory", PySem.Str.ofString "operation", PySem.Str.ofString "recording", PySem.Str.ofString "notation"] : List Str)) ↔ n ∈ erIx := by decide +kernel
theorem er_dec : ∀ n ∈ errNames, (tagOf n = PySem.Str.ofString "decode") ↔ n = "DecodeError" := by decide +kernel
theorem er_six : ∀ n ∈ erIx, n ∈ errNames ∧ xfn n = "index" := by decide +kernel
theorem er_plain : ∀ n ∈ erPl, n ∈ errNames ∧ n ∉ erIx ∧ n ≠ "DecodeError" := by decide +kernel
theorem er_last : ("DecodeError" : Str) ∈ errNames ∧ ("DecodeError" : Str) ∉ erIx ∧ xfn "DecodeError" = "offset" := by decide +kernel
/-- what the handler can tell -/
def okErr (n : Str) (i : Option Int) : Prop := (n ∈ erPl ∧ i = none) ∨ (n ∈ erIx ∧ ∃ x, i = some x) ∨ (n = "DecodeError" ∧ ∃ x, i = some x)
theorem okErr.mem {n : Str} {i : Option Int} (h : okErr n i) : n ∈ errNames := by
  rcases h with ⟨h, _⟩ | ⟨h, _⟩ | ⟨rfl, _⟩
  · exact (er_plain n h).1
  · exact (er_six n h).1
  · exact er_last.1
end Z

/-! ### the end of a law that hands lambdas over -/
namespace Z
open PySem PySem.Spec PyProof.Rows L2
/-- an error's class by its name -/
def erOf : List Str → List Addr → Str → Addr
  | n :: ns, e :: es, m => if m = n then e else erOf ns es m
  | _, _, _ => 0
def erAll : List Str := errNames ++ [("RodError" : Str)]
inductive All2 (R : Str → Addr → Prop) : List Str → List Addr → Prop
  | nil : All2 R [] []
  | cons {n e ns es} : R n e → All2 R ns es → All2 R (n :: ns) (e :: es)
theorem erOf_in {R : Str → Addr → Prop} : ∀ {ns : List Str} {es : List Addr}, All2 R ns es → ∀ m ∈ ns, R m (erOf ns es m)
  | _, _, .nil, m, h => nomatch h
  | n :: ns, e :: es, .cons r rs, m, h => by
    show R m (if m = n then e else erOf ns es m)
    by_cases q : m = n
    · rw [if_pos q, q]; exact r
    · rw [if_neg q]
      exact erOf_in rs m ((List.mem_cons.mp h).resolve_left q)
theorem xg_of {mg : Str → Option Value} {c : Cl} {es : List Addr} (hc : c.er = erOf erAll es) (h : All2 (fun n e => mg n = some (.ref e)) erAll es) : XgC mg c := fun m hm => by
  rw [hc]
  refine erOf_in h m ?_
  rcases hm with hm | rfl
  · exact List.mem_append_left _ hm
  · exact List.mem_append_right _ (List.mem_singleton.mpr rfl)
def excB (K : PySem.W.Frag) (D : Addr) : Bool := decide (PySem.W.findIn K (.ref D) "__getattribute__" = some (some (.builtin "BaseException.__getattribute__"))) && (decide (PySem.W.findIn K (.ref D) "__getattr__" = some none) && (decide (PySem.W.subIn K (.ref D) (.type "BaseException") = some true) && (PySem.W.hasDictIn K D &&
  (decide (PySem.W.findIn K (.ref D) "__class__" = some (some (.builtin "object.__class__"))) && (decide (PySem.W.specialIn K (.builtin "object.__class__") "__get__" = some (some (.builtin "getset_descriptor.__get__"))) && (decide (PySem.W.takesIn K (.builtin "object.__class__") = some true) && decide (PySem.W.mroIn K D (.type "object") = some true)))))))
theorem excB_ok {K : PySem.W.Frag} {D : Addr} (h : excB K D = true) : ExcC K D := by
  obtain ⟨h1, h⟩ := Bool.and_eq_true_iff.mp h
  obtain ⟨h2, h⟩ := Bool.and_eq_true_iff.mp h
  obtain ⟨h3, h⟩ := Bool.and_eq_true_iff.mp h
  obtain ⟨h4, h⟩ := Bool.and_eq_true_iff.mp h
  obtain ⟨h5, h⟩ := Bool.and_eq_true_iff.mp h
  obtain ⟨h6, h⟩ := Bool.and_eq_true_iff.mp h
  obtain ⟨h7, h8⟩ := Bool.and_eq_true_iff.mp h
  exact ⟨of_decide_eq_true h1, of_decide_eq_true h2, of_decide_eq_true h3, h4, of_decide_eq_true h5, of_decide_eq_true h6, of_decide_eq_true h7, of_decide_eq_true h8⟩
/-- all that is asked of the class of a raised error -/
def xnB (K : PySem.W.Frag) (er : Str → Addr) (n : Str) : Bool := excB K (er n) && ((errNames.all fun m => decide (PySem.W.kitOne K (.ref (er n)) (.ref (er m)) = some (decide (n = m)))) && (decide (PySem.W.kitOne K (.ref (er n)) (.type "ValueError") = some true) && (decide (PySem.W.exmOne K (.ref (er n)) (.ref (er "RodError")) = some true) &&
  (xfB K (er n) && (decide (PySem.W.findIn K (.ref (er n)) (xfn n) = some none) && decide (n ∈ errNames))))))
theorem xnB_ok {K : PySem.W.Frag} {c : Cl} {n : Str} (h : xnB K c.er n = true) : XnC K c n := by
  obtain ⟨h1, h⟩ := Bool.and_eq_true_iff.mp h
  obtain ⟨h2, h⟩ := Bool.and_eq_true_iff.mp h
  obtain ⟨h3, h⟩ := Bool.and_eq_true_iff.mp h
  obtain ⟨h4, h⟩ := Bool.and_eq_true_iff.mp h
  obtain ⟨h5, h⟩ := Bool.and_eq_true_iff.mp h
  obtain ⟨h6, h7⟩ := Bool.and_eq_true_iff.mp h
  exact ⟨excB_ok h1, fun m hm => of_decide_eq_true (List.all_eq_true.mp h2 m hm), of_decide_eq_true h3, of_decide_eq_true h4, xfB_ok h5, of_decide_eq_true h6, of_decide_eq_true h7⟩
abbrev F0 : XF := ⟨List Int, 1, fun a => [.scr a], fun a => a.length ≤ 63, fun a w => w = .bl true, by intros; rfl⟩
/-- what the end asks of a law with lambdas -/
def LawT (l : PySem.W.OpenLaw) (w : World) (K : PySem.W.Frag) (mg : Str → Option Value) (fa : Addr) (k : Nat) : Prop :=
  ∃ (c : Cl) (fd : FuncData) (c0 Pt : Addr), (∀ (s : Shared) (u : Value), BindsTo s fd ⟨[u], []⟩ [("_law_script", u)]) ∧ fd.code = .ref c0 ∧ (∃ o, K.lookup fa = some o ∧ o.data = .func fd) ∧
    (∃ e dd vs sl, K.lookup c0 = some ⟨e, dd, .fields vs, sl⟩ ∧ vs[11]? = some (.ref Pt)) ∧ K.lookup Pt = none ∧ PySem.W.codeHdIn K c0 Pt = true ∧
    ∀ base : Heap, K.In base → base.Ns mainGlobals mg → LamX.TabB base mg c0 Pt → FnOk l.prog w K mg base CX0 k fa fd ["_law_script"] (F0.spT K c Pt)
theorem walk_svT {l : PySem.W.OpenLaw} {k : Nat} {q : Program} {loose : List Str} {XP : (Str → Option Value) → Heap → Prop} {YP : World → Heap → Prop} {d : DefRec} {K : Params → PySem.W.Frag} (hn : l.most = some 63) (hdf : d.params.defaults = []) (hr : Room k callerA)
    (hrec : ((recsOf q).any fun e => e.name == d.name) = true)
    (hY : ∀ (w : World) (h : Heap), YP w h → (K w.params).In h)
    (F : ∀ (w : World) (mg : Str → Option Value) (fa : Addr) (h : Heap), (K w.params).In h → h.Ns mainGlobals mg → mg d.name = some (.ref fa) → LawT l w (K w.params) mg fa k) :
    PySem.W.WalkO q loose XP YP l.row.toRowW d [] (fun f vs => PySem.call f vs) :=
  LamX.walk_ofOwn (CX := fun _ => CX0) (x := "_law_script") hn (by decide) hdf hr hrec hY (fun w mg fa h Y KX G hm own => by
    obtain ⟨c, fd, c0, Pt, hb, hc, ⟨o, k1, k2⟩, ⟨e, dd, vs, sl, k3, k4⟩, k5, k6, hF⟩ := F w mg fa h KX G hm
    refine ⟨fd, [(c0, Pt)], F0.spT (K w.params) c Pt, ?_, ?_, ?_, hb, ?_, ?_⟩
    · intro p hp
      rw [List.mem_singleton.mp hp]
      exact own c0 Pt o fd e dd vs sl k1 k2 hc k3 k4
    · intro p hp
      rw [List.mem_singleton.mp hp]; exact k5
    · intro p hp
      rw [List.mem_singleton.mp hp]; exact PySem.W.codeHd_of_K KX k6
    · intro H a ns hl _ hT hS
      have hP := hT (c0, Pt) (List.mem_singleton.mpr rfl)
      refine ⟨ns, fun b => if b = Pt then none else H b, fun b o e => ?_, .cons ⟨a, rfl, ?_⟩ .nil, hl, ⟨if_pos rfl, LamX.TabS.nil hP⟩, fun v h' H' st z => ?_⟩
      · have e : (if b = Pt then none else H b) = some o := e
        by_cases hb : b = Pt
        · rw [if_pos hb] at e; cases e
        · rw [if_neg hb] at e; exact e
      · have ne : ∀ o : HO, H a = some o → o ≠ .tbl #[] → (if a = Pt then none else H a) = some o := fun o ho hn => by
          by_cases hb : a = Pt
          · rw [hb, show H Pt = some (.tbl #[]) from hP] at ho; cases ho; exact absurd rfl hn
          · rw [if_neg hb]; exact ho
        rcases hS with (hS | ⟨o, hS⟩) | hS
        · exact .inl (.inl (ne _ hS fun h => nomatch h))
        · exact .inl (.inr ⟨o, ne _ hS fun h => nomatch h⟩)
        · exact .inr hS
      · obtain ⟨w', hw, z⟩ := z
        have hw : w' = .bl true := hw
        subst hw
        exact dp_bl z
    · intro base kb gb tb
      exact hF base kb gb (tb (c0, Pt) (List.mem_singleton.mpr rfl))) fun _ _ _ _ _ z => z
/-! ### xs[::-1] -/
section
variable {K : PySem.W.Frag} {c : Cl} {te ta tb tk tv : TE} {tr : TA} {e a b d : XE} {ar : XA}
def XE.rev (a : XE) : XE := ⟨fun ρ Q => a.f ρ fun w => ∃ xs, w = .lst xs ∧ Q (.lst xs.reverse), fun k q => a.m (fun _ ⟨xs, e, q⟩ => ⟨xs, e, k _ q⟩) q⟩
theorem d_rev {ρ : Sl} {Q : W → Prop} : ((XE.rev a).f ρ Q) = (a.f ρ fun w => onL w fun xs => Q (.lst xs.reverse)) := rfl
end
/-! ### bool(x) of an own object that tells its length -/
section
variable {prog : Program} {w : World} {A : Around} {E : Value → Shared → Prop} {s : Shared} {K : PySem.W.Frag} {a C f : Addr} {ox : Obj} {od : Option Obj}
end
section
variable {X : Cx} {k j : Nat} {sp : Sp} {C : Addr}
end
section
variable {K : PySem.W.Frag} {c : Cl}
def XN.ownBool (k : Bool) (F : XF) : XN := ⟨fun ws Q => ∃ x, ws = [x] ∧ x.is k ∧ F.f [x] fun w => ∃ n : Nat, w = .int n ∧ n < 100000 ∧ Q (.bl (n != 0)), fun k ⟨x, a, i, q⟩ => ⟨x, a, i, F.m (fun _ ⟨n, e, l, z⟩ => ⟨n, e, l, k _ z⟩) q⟩⟩
theorem d_nownBool {ws : List W} {Q : W → Prop} {k : Bool} {F : XF} : ((XN.ownBool k F).f ws Q) = (on1 ws fun x => isC k x (F.f [x] fun w => ∃ n : Nat, w = .int n ∧ n < 100000 ∧ Q (.bl (n != 0)))) := rfl
/-- an own object compared with a tuple of arms -/
def XO.ownEqA (k : Bool) (F : XF) : XO := ⟨fun x y Q => x.is k ∧ (∃ al, y = .arm al) ∧ F.f [x, y] Q, fun k ⟨a, b, q⟩ => ⟨a, b, F.m k q⟩⟩
theorem d_oownEqA {x y : W} {Q : W → Prop} {k : Bool} {F : XF} : ((XO.ownEqA k F).f x y Q) = (isC k x ((∃ al, y = .arm al) ∧ F.f [x, y] Q)) := rfl
end
/-! ### a tuple of arms against a plain tuple -/
section
variable {K : PySem.W.Frag} {c : Cl}
def XO.eqAT (n : Bool) : XO := ⟨fun x y Q => ∃ al ys, x = .arm al ∧ y = .tup ys ∧ Pl 60 (.tup ys) ∧ Q (.bl (n ^^ decide (W.tup (arW al) = .tup ys))), fun k ⟨al, ys, a, b, d, q⟩ => ⟨al, ys, a, b, d, k _ q⟩⟩
theorem d_oeqAT {x y : W} {Q : W → Prop} {n : Bool} : ((XO.eqAT n).f x y Q) = (onA x fun al => ∃ ys, y = .tup ys ∧ Pl 60 (.tup ys) ∧ Q (.bl (n ^^ decide (W.tup (arW al) = .tup ys)))) := propext ⟨fun ⟨al, ys, a, b, d, q⟩ => ⟨al, a, ys, b, d, q⟩, fun ⟨al, a, ys, b, d, q⟩ => ⟨al, ys, a, b, d, q⟩⟩
end
def runXM := And.intro @d_rev (And.intro @d_nownBool (And.intro @d_oownEqA @d_oeqAT))
end Z

/-! ### results that are new -/
namespace Z
open PySem PySem.Spec PyProof.Rows L2
/-- a list, its address as y says -/
def YngL (K : PySem.W.Frag) (c : Cl) (y : Addr → Prop) (xs : List W) : PrS := ⟨⟨fun v h => (∃ a, v = .ref a ∧ y a) ∧ ((W.lst xs).p K c).p v h, fun e ⟨a, q⟩ => ⟨a, ((W.lst xs).p K c).mono e q⟩⟩, fun s ⟨a, q⟩ => ⟨a, Sim.p s (.lst xs) q⟩⟩
section
variable {K : PySem.W.Frag} {c : Cl} {J : Jn} {te ta tb tr' : TE} {tr : TA} {t : TT} {e a r : XE} {ar : XA} {tu tw tx : TS}
def XE.oldY (K : PySem.W.Frag) (c : Cl) (y : Addr → Prop) (e : XE) : XE := ⟨fun ρ Q => e.f ρ fun w => ∃ xs, w = .pr (YngL K c y xs) ∧ Q (.lst xs), fun k q => e.m (fun _ ⟨xs, ew, q⟩ => ⟨xs, ew, k _ q⟩) q⟩
def XS.asgY (K : PySem.W.Frag) (c : Cl) (y : Addr → Prop) (i : Nat) (e : XE) : XS := ⟨fun φ κ => φ.off [i] ∧ e.f φ.s fun w => ∃ xs, w = .lst xs ∧ κ.nx ⟨φ.s.set i (some (.pr (YngL K c y xs))), φ.m⟩, fun k ⟨o, q⟩ => ⟨o, e.m (fun _ ⟨xs, ew, z⟩ => ⟨xs, ew, k.nx _ z⟩) q⟩⟩
def XS.retY (K : PySem.W.Frag) (c : Cl) (y : Addr → Prop) (e : XE) : XS := ⟨fun φ κ => e.f φ.rev fun w => ∃ xs, w = .lst xs ∧ κ.rt (.pr (YngL K c y xs)), fun k q => e.m (fun _ ⟨xs, ew, z⟩ => ⟨xs, ew, k.rt _ z⟩) q⟩
end
section
variable {P : Program} {w : World} {K : PySem.W.Frag} {mg : Str → Option Value} {base : Heap} {c : Cl}
end
section
variable {K : PySem.W.Frag} {c : Cl} {J : Jn} {te ta tr : TE} {tt : TT} {e a r : XE} {t : XT} {tx : TS} {x : XS}
/-- x = e; if t: return r; x.append(a): x is new and let go -/
def XS.newUse (i : Nat) (e : XE) (t : XT) (r a : XE) (x : XS) : XS := ⟨fun φ κ => φ.m = none ∧ i < φ.s.length ∧ e.f φ.s fun w => ∃ xs, w = .lst xs ∧ xs.length < 100000 ∧ t.f (φ.s.set i (some w)) fun b => (b = true → r.f (φ.s.set i (some w)) κ.rt) ∧ (b = false → a.f (φ.s.set i (some w)) fun _ => x.f ⟨φ.s.set i none, none⟩ κ),
  fun k ⟨o, l, q⟩ => ⟨o, l, e.m (fun _ ⟨xs, ew, l, z⟩ => ⟨xs, ew, l, t.m (fun _ y => ⟨fun h => r.m k.rt (y.1 h), fun h => a.m (fun _ u => x.m k u) (y.2 h)⟩) z⟩) q⟩⟩
theorem d_newUse {i : Nat} {s : Sl} {κ : Ko} : ((XS.newUse i e t r a x).f ⟨s, none⟩ κ) = (i < s.length ∧ e.f s fun w => onL w fun xs => xs.length < 100000 ∧ t.f (s.set i (some (.lst xs))) fun b => (b = true → r.f (s.set i (some (.lst xs))) κ.rt) ∧ (b = false → a.f (s.set i (some (.lst xs))) fun _ => x.f ⟨s.set i none, none⟩ κ)) := propext ⟨fun ⟨_, l, q⟩ => ⟨l, e.m (fun _ ⟨xs, ew, z⟩ => ⟨xs, ew, by subst ew; exact z⟩) q⟩, fun ⟨l, q⟩ => ⟨rfl, l, e.m (fun _ ⟨xs, ew, z⟩ => ⟨xs, ew, by subst ew; exact z⟩) q⟩⟩
theorem d_asgY {y : Addr → Prop} {i : Nat} {φ : Fr} {κ : Ko} : ((XS.asgY K c y i e).f φ κ) = (φ.off [i] ∧ e.f φ.s fun w => onL w fun xs => κ.nx ⟨φ.s.set i (some (.pr (YngL K c y xs))), φ.m⟩) := rfl
theorem d_retY {y : Addr → Prop} {s : Sl} {κ : Ko} : ((XS.retY K c y e).f ⟨s, none⟩ κ) = (e.f s fun w => onL w fun xs => κ.rt (.pr (YngL K c y xs))) := rfl
theorem d_oldY {y : Addr → Prop} {ρ : Sl} {Q : W → Prop} : ((XE.oldY K c y e).f ρ Q) = (e.f ρ fun w => ∃ xs, w = .pr (YngL K c y xs) ∧ Q (.lst xs)) := rfl
end
def runYM := And.intro @d_newUse (And.intro @d_asgY (And.intro @d_retY @d_oldY))
end Z

/-! ### list(zip(xs, ys)): the pairs are kept, so each turn makes its own -/
namespace Zp2
open PySem PySem.Calls PyProof.Rows PyProof.V PySem.Spec PySem.W
abbrev IsZipG (h : Heap) (z TI TO : Addr) (f0 : Value) (f1 : Bool) : Prop :=
  h.get? z = some { cls := .type "zip", dict := none, data := .fields #[f0, .bool f1, .bool false, .ref TI, .ref TO], slots := #[] }
section
variable {prog : Program} {w : World} {A : Around} {E : Value → Shared → Prop} {s : Shared}
end
/-- the zip behind i turns, its pairs held -/
structure ZSt (h : Heap) (z TI TO i1 i2 l1 l2 : Addr) (xs ys : Array Value) (i : Nat) : Prop where
  ti : IsPair h TI (.ref i1) (.ref i2)
  t1 : h.IsListIter i1 l1 i
  t2 : h.IsListIter i2 l2 i
  ls1 : h.IsList l1 xs
  ls2 : h.IsList l2 ys
  st : (i = 0 ∧ IsZip h z TI TO .none ∧ ∃ a b, IsPair h TO a b) ∨ ∃ (a : Addr) (f : Bool) (oa : Obj), IsZipG h z TI TO (rawInt (a : Int)) f ∧ h.get? a = some oa ∧ z < a
/-- what the walk may change -/
def Off (z TO i1 i2 : Addr) (c : Addr) : Prop := c ≠ z ∧ c ≠ TO ∧ c ≠ i1 ∧ c ≠ i2
theorem ZSt.keep {h h' : Heap} {z TI TO i1 i2 l1 l2 : Addr} {xs ys : Array Value} {i : Nat} {S : Addr} (x : ZSt h z TI TO i1 i2 l1 l2 xs ys i) (hk : ∀ b o, b ≠ S → h.get? b = some o → ∃ o', h'.get? b = some o' ∧ o' = o) (hS : ∀ o, h.get? S = some o → ∃ o', h'.get? S = some o') (n : TI ≠ S ∧ TO ≠ S ∧ i1 ≠ S ∧ i2 ≠ S ∧ l1 ≠ S ∧ l2 ≠ S ∧ z ≠ S) : ZSt h' z TI TO i1 i2 l1 l2 xs ys i := by
  have k : ∀ b o, b ≠ S → h.get? b = some o → h'.get? b = some o := fun b o nb e => by
    obtain ⟨o', e', rfl⟩ := hk b o nb e
    exact e'
  obtain ⟨n1, n2, n3, n4, n5, n6, n7⟩ := n
  refine ⟨k _ _ n1 x.ti, x.t1.at fun o e => k _ o n3 e, x.t2.at fun o e => k _ o n4 e, x.ls1.at fun o e => k _ o n5 e, x.ls2.at fun o e => k _ o n6 e, ?_⟩
  rcases x.st with ⟨e, q, a, b, r⟩ | ⟨a, f, oa, q, r, l⟩
  · exact .inl ⟨e, k _ _ n7 q, a, b, k _ _ n2 r⟩
  · by_cases c : a = S
    · obtain ⟨o', e'⟩ := hS oa (by rw [← c]; exact r)
      exact .inr ⟨a, f, o', k _ _ n7 q, by rw [c]; exact e', l⟩
    · exact .inr ⟨a, f, oa, k _ _ n7 q, k _ _ c r, l⟩
section
variable {prog : Program} {w : World} {A : Around} {E : Value → Shared → Prop} {s : Shared} {z TI TO i1 i2 l1 l2 : Addr} {xs ys : Array Value}
/-- the pairs that were made -/
structure ZG (xs ys : Array Value) (lo : Addr) (h : Heap) (as : List Addr) : Prop where
  rise : as.Pairwise (· < ·)
  above : ∀ a ∈ as, lo < a
  pairs : ∀ (j : Nat) (a : Addr), as[j]? = some a → ∃ x y, xs[j]? = some x ∧ ys[j]? = some y ∧ IsPair h a x y
theorem ZG.there {lo : Addr} {h : Heap} {as : List Addr} (g : ZG xs ys lo h as) {a : Addr} (ha : a ∈ as) : a < h.objs.size := by
  obtain ⟨j, hj⟩ := List.mem_iff_getElem?.mp ha
  obtain ⟨_, _, _, _, e⟩ := g.pairs j a hj
  exact Heap.lt_size e
end
end Zp2

/-! ### list(zip(xs, ys)) -/
namespace Z
open PySem PySem.Spec PyProof.Rows L2
section
variable {X : Cx}
end
end Z
namespace Z
open PySem PySem.Spec PyProof.Rows L2
section
variable {K : PySem.W.Frag} {c : Cl} {tr : TA} {ar : XA}
def XE.lzip (ar : XA) : XE := ⟨fun ρ Q => ar.f ρ fun ws => ∃ xs ys, ws = [.lst xs, .lst ys] ∧ Q (.lst (zipW xs ys)), fun k q => ar.m (fun _ ⟨xs, ys, e, q⟩ => ⟨xs, ys, e, k _ q⟩) q⟩
theorem d_lzip {ρ : Sl} {Q : W → Prop} : ((XE.lzip ar).f ρ Q) = (ar.f ρ fun ws => on2 ws fun w u => onL w fun xs => onL u fun ys => Q (.lst (zipW xs ys))) := propext ⟨fun q => ar.m (fun _ ⟨xs, ys, e, q⟩ => ⟨_, _, e, xs, rfl, ys, rfl, q⟩) q, fun q => ar.m (fun _ ⟨w, u, e, xs, e1, ys, e2, q⟩ => ⟨xs, ys, by subst e1 e2; exact e, q⟩) q⟩
end
def runZM := @d_lzip
end Z

namespace Z
open PySem L2 PyProof.Rows
/-! ### what is lent to a call: objects that are fixed, known for its time -/
def fix (b : Addr) (o : Obj) : HO := .ext fun h => h.get? b = some o
abbrev CsM := Addr → Option Obj
def addC (cs : CsM) (H : Hp) : Hp := fun b => match cs b with | some o => some (fix b o) | none => H b
def delC (cs : CsM) (H : Hp) : Hp := fun b => match cs b with | some _ => none | none => H b
def Lent (cs : CsM) (H : Hp) : Prop := ∀ b o, cs b = some o → H b = some (fix b o)
section
variable {cs : CsM} {H H' h h' h2 H2 : Hp} {b : Addr} {o : Obj}
theorem addC_in (e : cs b = some o) : addC cs H b = some (fix b o) := by unfold addC; rw [e]
theorem addC_out (e : cs b = none) : addC cs H b = H b := by unfold addC; rw [e]
theorem delC_in (e : cs b = some o) : delC cs H b = none := by unfold delC; rw [e]
theorem delC_out (e : cs b = none) : delC cs H b = H b := by unfold delC; rw [e]
theorem lent_add : Lent cs (addC cs H) := fun b o e => addC_in e
theorem del_add (n : ∀ b o, cs b = some o → H b = none) : delC cs (addC cs H) = H := by
  funext b
  cases e : cs b with
  | some o => rw [delC_in e, n b o e]
  | none => rw [delC_out e, addC_out e]
theorem lent_no (l : Lent cs H) {u : HO} (q : H b = some u) (n : ∀ φ, u ≠ .ext φ) : cs b = none := by
  cases c : cs b with
  | none => rfl
  | some o =>
    have z := l b o c
    rw [q] at z
    exact absurd (Option.some.inj z) (n _)
theorem Lent.mono (l : Lent cs H) (e : Ex H H') : Lent cs H' := fun b o c => e _ _ (l b o c)
theorem del_mono (e : Ex H H') : Ex (delC cs H) (delC cs H') := fun b u q => by
  cases c : cs b with
  | some o => rw [delC_in c] at q; cases q
  | none => rw [delC_out c] at q ⊢; exact e b u q
theorem add_up (n : ∀ b o, cs b = some o → H b = none) : Ex H (addC cs H) := fun b u q => by
  cases c : cs b with
  | some o => rw [n b o c] at q; cases q
  | none => rw [addC_out c]; exact q
end
section
variable {P : Program} {w : World} {cs : CsM} {H H' : Hp} {h h' B : Heap} {fs : List Addr}
theorem fix_ok {b : Addr} {o : Obj} (e : h.get? b = some o) : ObjOk P w H h b (fix b o) := ⟨e, ⟨o, e⟩, fun _ _ p st => st o p⟩
theorem hok_del (l : Lent cs H) (ok : HOk P w H h) : HOk P w (delC cs H) h := fun b u e => by
  cases c : cs b with
  | some o => rw [delC_in c] at e; cases e
  | none =>
    rw [delC_out c] at e
    refine (ok b u e).stay (fun _ _ _ q => q) (fun d q => ?_) fun d xs q => ?_
    · rw [delC_out (lent_no l q fun φ z => by cases z)]; exact q
    · rw [delC_out (lent_no l q fun φ z => by cases z)]; exact q
theorem hok_add (at_ : ∀ b o, cs b = some o → h.get? b = some o ∧ H b = none) (ok : HOk P w H h) : HOk P w (addC cs H) h := fun b u e => by
  cases c : cs b with
  | some o => rw [addC_in c] at e; cases e; exact fix_ok (at_ b o c).1
  | none =>
    rw [addC_out c] at e
    have go : ∀ d v, H d = some v → addC cs H d = some v := fun d v q => add_up (fun b o z => (at_ b o z).2) d v q
    exact (ok b u e).stay (fun _ _ _ q => q) (fun d q => go d _ q) fun d xs q => go d _ q
theorem un_lend (at_ : ∀ b o, cs b = some o → h.get? b = some o ∧ H b = none ∧ b ∉ fs) (l : Lent cs H') (ok : HOk P w H' h') (u : Un fs [] (addC cs H) H' h h') : Un fs [] H (delC cs H') h h' := by
  have n0 : ∀ b, H b = none → cs b = none → addC cs H b = none := fun b n c => by rw [addC_out c]; exact n
  have up : ∀ b v, H b = some v → cs b = none := fun b v q => by
    cases c : cs b with
    | none => rfl
    | some o => rw [(at_ b o c).2.1] at q; cases q
  refine ⟨fun b o e n nf nx => ?_, fun b o e n nf nx => ?_, fun b o e n nx => ?_, u.there, fun b xs q => ?_, fun b o v q => ?_, fun b ps q => ?_⟩
  · cases c : cs b with
    | none => exact u.keep b o e (n0 b n c) nf nx
    | some o2 =>
      have e2 := (at_ b o2 c).1
      rw [e] at e2; cases e2
      exact (ok b _ (l b o c)).1
  · cases c : cs b with
    | none => exact u.slot b o e (n0 b n c) nf nx
    | some o2 => exact absurd nf (at_ b o2 c).2.2
  · cases c : cs b with
    | none => rw [delC_out c]; exact u.free b o e (n0 b n c) nx
    | some o2 => exact delC_in c
  · have c := up b _ q
    rw [delC_out c]
    exact u.tups b xs (by rw [addC_out c]; exact q)
  · have c := up b _ q
    rw [delC_out c]
    exact u.frzs b o v (by rw [addC_out c]; exact q)
  · have c := up b _ q
    rw [delC_out c]
    exact u.tbls b ps (by rw [addC_out c]; exact q)
theorem un_back (l : Lent cs H) (u : Un fs [] (delC cs H) H' h h') : Un fs [] H (addC cs H') h h' := by
  have un : ∀ b, H b = none → cs b = none := fun b n => by
    cases c : cs b with
    | none => rfl
    | some o => rw [l b o c] at n; cases n
  have dn : ∀ b, H b = none → delC cs H b = none := fun b n => by rw [delC_out (un b n)]; exact n
  refine ⟨fun b o e n nf nx => u.keep b o e (dn b n) nf nx, fun b o e n nf nx => u.slot b o e (dn b n) nf nx, fun b o e n nx => ?_, u.there, fun b xs q => ?_, fun b o v q => ?_, fun b ps q => ?_⟩
  · rw [addC_out (un b n)]; exact u.free b o e (dn b n) nx
  · have c := lent_no l q fun φ z => by cases z
    rw [addC_out c]
    exact u.tups b xs (by rw [delC_out c]; exact q)
  · have c := lent_no l q fun φ z => by cases z
    rw [addC_out c]
    exact u.frzs b o v (by rw [delC_out c]; exact q)
  · have c := lent_no l q fun φ z => by cases z
    rw [addC_out c]
    exact u.tbls b ps (by rw [delC_out c]; exact q)
theorem ub_back (l : Lent cs H) (u : UB fs (delC cs H) H' h B h') : UB fs H (addC cs H') h B h' := by
  have un : ∀ b, H b = none → cs b = none := fun b n => by
    cases c : cs b with
    | none => rfl
    | some o => rw [l b o c] at n; cases n
  have dn : ∀ b, H b = none → delC cs H b = none := fun b n => by rw [delC_out (un b n)]; exact n
  refine ⟨fun b o e n nf => u.keep b o e (dn b n) nf, u.slot, fun b o e n => ?_, u.there, fun b xs q => ?_, fun b o v q => ?_, fun b ps q => ?_⟩
  · rw [addC_out (un b n)]; exact u.free b o e (dn b n)
  · have c := lent_no l q fun φ z => by cases z
    rw [addC_out c]
    exact u.tups b xs (by rw [delC_out c]; exact q)
  · have c := lent_no l q fun φ z => by cases z
    rw [addC_out c]
    exact u.frzs b o v (by rw [delC_out c]; exact q)
  · have c := lent_no l q fun φ z => by cases z
    rw [addC_out c]
    exact u.tbls b ps (by rw [delC_out c]; exact q)
/-- none of them is known behind the call -/
def Off (cs : CsM) (H : Hp) : Prop := ∀ b o, cs b = some o → H b = none
section
variable {outer : List Env} {s s' : Shared} {Q Q2 : VK} {E E2 : XK} {u : Value} {r : Result}
theorem ce_back (l : Lent cs H) (at_ : ∀ b o, cs b = some o → s.heap.get? b = some o ∧ b ∉ frs outer) (hq : ∀ v H', Q v H' → Off cs H' → Q2 v (addC cs H')) (c : CE outer P w (delC cs H) s Q u s') : CE outer P w H s Q2 u s' := by
  obtain ⟨v, H', os, bare, un, hok, rv, q⟩ := c
  have st : ∀ b o, cs b = some o → s'.heap.get? b = some o ∧ H' b = none := fun b o e =>
    ⟨un.keep b o (at_ b o e).1 (delC_in e) (at_ b o e).2 (fun z => nomatch z), un.free b o (at_ b o e).1 (delC_in e) (fun z => nomatch z)⟩
  exact ⟨v, addC cs H', os, bare, un_back l un, hok_add st hok, rv, hq v H' q fun b o e => (st b o e).2⟩
theorem cx_back (l : Lent cs H) (at_ : ∀ b o, cs b = some o → s.heap.get? b = some o ∧ b ∉ frs outer) (he : ∀ cls d H', E cls d H' → Off cs H' → E2 cls d (addC cs H')) (c : L2.CX P w outer (delC cs H) s E u s') : L2.CX P w outer H s E2 u s' := by
  obtain ⟨a, B, H', cls, d, e, fl, hok, ub, na, os, ag, ex⟩ := c
  have st : ∀ b o, cs b = some o → B.get? b = some o ∧ H' b = none := fun b o e =>
    ⟨ub.keep b o (at_ b o e).1 (delC_in e) (at_ b o e).2, ub.free b o (at_ b o e).1 (delC_in e)⟩
  have na2 : addC cs H' a = none := by
    cases z : cs a with
    | none => rw [addC_out z]; exact na
    | some o =>
      have y := fl.2.1
      rw [(st a o z).1] at y; cases y
  exact ⟨a, B, addC cs H', cls, d, e, fl, hok_add st hok, ub_back l ub, na2, os, ag, he cls d H' ex fun b o e => (st b o e).2⟩
theorem ce_lend (at_ : ∀ b o, cs b = some o → s.heap.get? b = some o ∧ H b = none ∧ b ∉ frs outer) (hq : ∀ v H', Q v H' → Lent cs H' ∧ Q2 v (delC cs H')) (c : CE outer P w (addC cs H) s Q u s') : CE outer P w H s Q2 u s' := by
  obtain ⟨v, H', os, bare, un, hok, rv, q⟩ := c
  obtain ⟨l, q2⟩ := hq v H' q
  exact ⟨v, delC cs H', os, bare, un_lend at_ l hok un, hok_del l hok, rv, q2⟩
end
section
variable {K : PySem.W.Frag} {mg : Str → Option Value} {base : Heap} {A : Around} {outer : List Env} {s : Shared}
theorem env0_lend (at_ : ∀ b o, cs b = some o → s.heap.get? b = some o ∧ H b = none ∧ b ∉ frs outer ∧ base.get? b = none) (e : Env0 P w K mg base A outer s H) : Env0 P w K mg base A outer s (addC cs H) := by
  refine ⟨e.frames, e.mod, fun b o z => ⟨(e.bs b o z).1, ?_⟩, e.bsz, e.funs, fun b z => ?_, hok_add (fun b o z => ⟨(at_ b o z).1, (at_ b o z).2.1⟩) e.hok, e.bare⟩
  · cases c : cs b with
    | none => rw [addC_out c]; exact (e.bs b o z).2
    | some o2 => rw [(at_ b o2 c).2.2.2] at z; cases z
  · cases c : cs b with
    | none => rw [addC_out c]; exact e.frf b z
    | some o2 => exact absurd z (at_ b o2 c).2.2.1
theorem env0_del (l : Lent cs H) (e : Env0 P w K mg base A outer s H) : Env0 P w K mg base A outer s (delC cs H) := by
  have dn : ∀ b, H b = none → delC cs H b = none := fun b n => by
    cases c : cs b with
    | none => rw [delC_out c]; exact n
    | some o => exact delC_in c
  exact ⟨e.frames, e.mod, fun b o z => ⟨(e.bs b o z).1, dn b (e.bs b o z).2⟩, e.bsz, e.funs, fun b z => dn b (e.frf b z), hok_del l e.hok, e.bare⟩
end
end
/-! ### the same for steps -/
/-- cells of a frame -/
structure Cel (cs : CsM) : Prop where
  c : ∀ b o, cs b = some o → ∃ v, o.data = .cell v
  h : ∀ b o, cs b = some o → ∃ h : Heap, h.get? b = some o
section
variable {cs : CsM} {H H' h h' h2 H2 : Hp}
theorem fix_code {b : Addr} {o : Obj} (l : Cel cs) (e : cs b = some o) : fix b o ≠ LamX.CodeO b q0 := fun z => by
  obtain ⟨hh, q⟩ := l.h b o e
  obtain ⟨v, y⟩ := l.c b o e
  have z2 := congrFun (HO.ext.inj z) hh
  have z3 : hh.get? b = some o → ∃ (oc : Obj) (vs : Array Value) (t : Tok), hh.get? b = some oc ∧ oc.data = .fields vs ∧ vs[1]? = some (.str q0 t) := fun q => by
    have : (hh.get? b = some o) = _ := z2
    exact this.mp q
  obtain ⟨oc, vs, t, a1, a2, _⟩ := z3 q
  rw [q] at a1
  cases a1
  rw [y] at a2; cases a2
theorem tab_add {P : Addr} (l : Cel cs) (n : ∀ b o, cs b = some o → ∀ ps, H b ≠ some (.tbl ps)) (n2 : ∀ b o, cs b = some o → H b ≠ some (LamX.CodeO b q0)) (t : LamX.TabS H P q0) : LamX.TabS (addC cs H) P q0 := by
  obtain ⟨ps, h1, h2, h3⟩ := t
  have go : ∀ b v, H b = some v → (∀ o, cs b = some o → False) → addC cs H b = some v := fun b v q z => by
    cases c : cs b with
    | none => rw [addC_out c]; exact q
    | some o => exact (z o c).elim
  refine ⟨ps, go _ _ h1 fun o c => n _ o c ps h1, h2, fun pos cv hc => ?_⟩
  obtain ⟨c, e1, e2⟩ := h3 pos cv hc
  exact ⟨c, e1, go _ _ e2 fun o z => n2 _ o z e2⟩
theorem tab_del {P : Addr} (l : Cel cs) (lt : Lent cs H) (t : LamX.TabS H P q0) : LamX.TabS (delC cs H) P q0 := by
  obtain ⟨ps, h1, h2, h3⟩ := t
  refine ⟨ps, by rw [delC_out (lent_no lt h1 fun φ z => by cases z)]; exact h1, h2, fun pos cv hc => ?_⟩
  obtain ⟨c, e1, e2⟩ := h3 pos cv hc
  refine ⟨c, e1, ?_⟩
  cases z : cs c with
  | none => rw [delC_out z]; exact e2
  | some o =>
    have y := lt c o z
    rw [e2] at y
    exact absurd (Option.some.inj y).symm (fix_code l z)
/-- into the call: the step behind it, seen without what was lent -/
theorem stp_fwd (l : Cel cs) (n : Off cs H) (x : Ex h H) (s : Stp (addC cs h) (addC cs H) h' H') : Stp h H (delC cs h') (delC cs H') := by
  have nh : Off cs h := fun b o e => by
    cases q : h b with
    | none => rfl
    | some u => have y := x b u q; rw [n b o e] at y; cases y
  have lH : Lent cs H' := fun b o e => s.e b _ (addC_in e)
  have lh : Lent cs h' := fun b o e => s.s b _ (addC_in e)
  refine ⟨⟨fun b u q z => ?_, fun b q => ?_, fun P t => ?_⟩, fun b u q => ?_, del_mono s.i, fun b u q nn nx => ?_⟩
  · have q2 := s.e b u (add_up n b u q) z
    cases c : cs b with
    | none => rw [delC_out c]; exact q2
    | some o => rw [n b o c] at q; cases q
  · cases c : cs b with
    | none =>
      rw [delC_out c] at q
      have := s.n b q
      rw [addC_out c] at this; exact this
    | some o => exact n b o c
  · refine tab_del l lH (s.e0.t P (tab_add l (fun b o c ps z => ?_) (fun b o c z => ?_) t))
    · rw [n b o c] at z; cases z
    · rw [n b o c] at z; cases z
  · have q2 := s.s b u (add_up nh b u q)
    cases c : cs b with
    | none => rw [delC_out c]; exact q2
    | some o => rw [nh b o c] at q; cases q
  · cases c : cs b with
    | some o => exact delC_in c
    | none =>
      rw [delC_out c]
      refine s.f0 b u (add_up n b u q) (by rw [addC_out c]; exact nn) fun φ z => nx φ (by rw [delC_out c]; exact z)
/-- out of what was lent, and back -/
theorem stp_back (l : Cel cs) (lh : Lent cs h) (x : Ex h H) (n2 : Off cs H2) (s : Stp (delC cs h) (delC cs H) h2 H2) : Stp h H (addC cs h2) (addC cs H2) := by
  have lH : Lent cs H := lh.mono x
  have m2 : Off cs h2 := fun b o e => by
    cases q : h2 b with
    | none => rfl
    | some u => have := s.i b u q; rw [n2 b o e] at this; cases this
  refine ⟨⟨fun b u q z => ?_, fun b q => ?_, fun P t => ?_⟩, fun b u q => ?_, fun b u q => ?_, fun b u q nn nx => ?_⟩
  · cases c : cs b with
    | some o => rw [lH b o c] at q; rw [addC_in c]; exact q
    | none => rw [addC_out c]; exact s.e b u (by rw [delC_out c]; exact q) z
  · cases c : cs b with
    | some o => rw [addC_in c] at q; cases q
    | none =>
      rw [addC_out c] at q
      have := s.n b q
      rw [delC_out c] at this; exact this
  · refine tab_add l (fun b o c ps z => ?_) (fun b o c z => ?_) (s.e0.t P (tab_del l lH t))
    · rw [n2 b o c] at z; cases z
    · rw [n2 b o c] at z; cases z
  · cases c : cs b with
    | some o => rw [lh b o c] at q; rw [addC_in c]; exact q
    | none => rw [addC_out c]; exact s.s b u (by rw [delC_out c]; exact q)
  · cases c : cs b with
    | some o => rw [addC_in c] at q ⊢; exact q
    | none => rw [addC_out c] at q ⊢; exact s.i b u q
  · cases c : cs b with
    | some o => rw [lh b o c] at nn; cases nn
    | none =>
      rw [addC_out c]
      exact s.f0 b u (by rw [delC_out c]; exact q) (by rw [delC_out c]; exact nn) fun φ z => nx φ (by rw [addC_out c]; exact z)
end
end Z

namespace Z
open PySem L2 PyProof.Rows
/-! ### a closure: its object, its names, its call -/
/-- the names of a lambda: captured ones and globals, one parameter at most -/
structure LamS2 (sc scope : Scope) (lo : Option Str) (N : List Str) : Prop where
  kind : scope.kind = .function
  co : scope.isCoroutine = false
  gen : scope.isGenerator = false
  noc : ∀ y ∈ scope.names, y.2 ≠ .cell
  loc : ∀ y ∈ scope.names, y.2 = .local → lo = some y.1
  par : ∀ x, lo = some x → scope.names.lookup x = some .local ∧ x ∉ N
  free : ∀ y ∈ scope.names, y.2 = .free → sc.names.lookup y.1 = some .cell ∨ sc.names.lookup y.1 = some .free
def lamB2 (sc scope : Scope) (lo : Option Str) (N : List Str) : Bool :=
  (decide (scope.kind = .function) && (!scope.isCoroutine && !scope.isGenerator)) && ((scope.names.all fun y => !decide (y.2 = .cell) && ((!decide (y.2 = .local) || decide (lo = some y.1)) && (!decide (y.2 = .free) || (decide (sc.names.lookup y.1 = some .cell) || decide (sc.names.lookup y.1 = some .free))))) &&
  (match lo with | none => true | some x => decide (scope.names.lookup x = some .local) && !decide (x ∈ N)))
theorem lamB2_ok {sc scope : Scope} {lo : Option Str} {N : List Str} (h : lamB2 sc scope lo N = true) : LamS2 sc scope lo N := by
  unfold lamB2 at h
  obtain ⟨h1, h2⟩ := Bool.and_eq_true_iff.mp h
  obtain ⟨k1, k2⟩ := Bool.and_eq_true_iff.mp h1
  obtain ⟨k3, k4⟩ := Bool.and_eq_true_iff.mp k2
  obtain ⟨n1, n2⟩ := Bool.and_eq_true_iff.mp h2
  have n3 := List.all_eq_true.mp n1
  refine ⟨of_decide_eq_true k1, by simpa using k3, by simpa using k4, fun y hy e => ?_, fun y hy e => ?_, fun x e => ?_, fun y hy e => ?_⟩
  · have z := n3 y hy
    rw [e] at z
    simp at z
  · have z := n3 y hy
    rw [e] at z
    simpa using z
  · subst e
    have z : (decide (scope.names.lookup x = some .local) && !decide (x ∈ N)) = true := n2
    simpa using z
  · have z := n3 y hy
    rw [e] at z
    simpa using z
/-- how the one parameter gets its value -/
def ParB (params : Arguments) (body : Expr) (scope : Scope) : Option Str → Prop
  | none => ∀ (q : Str) (cl : List (Str × Addr)) (doc pm cdv ctv : Value), bindArgs (PySem.W.kdv_fn "<lambda>" q params (.expr body) scope cl .none doc pm cdv ctv) ⟨[], []⟩ = pure []
  | some x => ∀ (q : Str) (cl : List (Str × Addr)) (dV doc pm cdv ctv : Value), ∃ k : Option (Array Value) → Sem (List (Str × Value)), bindArgs (PySem.W.kdv_fn "<lambda>" q params (.expr body) scope cl dV doc pm cdv ctv) ⟨[], []⟩ = seqItems? dV >>= k ∧ ∀ u : Value, k (some #[u]) = pure [(x, u)]
/-- the defaults' object -/
def DefV : Option Str → Value → Hp → Prop
  | none, dV, _ => dV = .none
  | some _, dV, h => ∃ T : Addr, dV = .ref T ∧ h T = some (.tup [.int 0])
theorem DefV.mono {lo : Option Str} {dV : Value} {h h' : Hp} (e : Ex h h') (d : DefV lo dV h) : DefV lo dV h' := by
  cases lo with
  | none => exact d
  | some x => obtain ⟨T, a, b⟩ := d; exact ⟨T, a, e _ _ b⟩
abbrev cloO (X : Cx) (params : Arguments) (body : Expr) (scope : Scope) (dV doc pm ctv : Value) (c' : Addr) : Obj :=
  PySem.W.kdv_obj "<lambda>" (X.env.qual ++ "<lambda>") params (.expr body) scope (cloFrom X.env.cells scope.names []) dV doc pm c' ctv
/-- a frame's cells as they stand -/
structure CelX (X : Cx) (cs : CsM) (s : Shared) : Prop where
  has : ∀ y c, X.env.cells.lookup y = some c → ∃ o, s.heap.get? c = some o ∧ cs c = some o
  is : ∀ b o, cs b = some o → s.heap.get? b = some o ∧ (∃ v, o.data = .cell v) ∧ ∃ y, X.env.cells.lookup y = some b
theorem CelX.cel {X : Cx} {cs : CsM} {s : Shared} (x : CelX X cs s) : Cel cs := ⟨fun b o e => (x.is b o e).2.1, fun b o e => ⟨_, (x.is b o e).1⟩⟩
section
variable {X : Cx} {pins : List (Addr × Obj)} {σ : L2.St} {H0 H : Hp} {s0 s1 : Shared} {cs : CsM}
open Classical in
theorem celX_of (I : Inv X pins σ H0 s0) : ∃ cs : CsM, CelX X cs s0 := by
  refine ⟨fun b => if ∃ y, X.env.cells.lookup y = some b then s0.heap.get? b else none, fun y c e => ?_, fun b o e => ?_⟩
  · obtain ⟨v, o, ho, _⟩ := I.cell y c e
    refine ⟨o, ho, ?_⟩
    show (if ∃ y, X.env.cells.lookup y = some c then s0.heap.get? c else none) = some o
    rw [if_pos ⟨y, e⟩]; exact ho
  · have e : (if ∃ y, X.env.cells.lookup y = some b then s0.heap.get? b else none) = some o := e
    by_cases z : ∃ y, X.env.cells.lookup y = some b
    · rw [if_pos z] at e
      obtain ⟨y, hy⟩ := z
      obtain ⟨v, o2, ho, hd⟩ := I.cell y b hy
      rw [e] at ho; cases ho
      exact ⟨e, ⟨_, hd⟩, y, hy⟩
    · rw [if_neg z] at e; cases e
theorem clo_cells (ok : X.Ok) {scope : Scope} {lo : Option Str} {N : List Str} (L : LamS2 X.env.scope scope lo N) {y : Str} {c : Addr} (e : (cloFrom X.env.cells scope.names []).lookup y = some c) : X.env.cells.lookup y = some c ∧ (y, NameKind.free) ∈ scope.names := by
  rcases cloFrom_mem (PySem.mem_of_lookup e) with z | ⟨z1, z2⟩
  · exact nomatch z
  · have hv : X.env.kindOf y = some .cell ∨ X.env.kindOf y = some .free := L.free _ z1 rfl
    obtain ⟨d, hd⟩ := ok.has y hv
    have : X.env.cells.lookup y = some d := hd
    rw [this] at z2
    have z2 : c = d := z2
    rw [z2]; exact ⟨this, z1⟩
/-- the lambda's frame, as it starts -/
theorem clo_start {A : Around} {outer : List Env} {E : XK} {scope : Scope} {f c' : Addr} {g : Heap} {tk : Nat} {lo : Option Str} {m : Str → Option Value} (I : Inv X pins σ H0 s0) (L : LamS2 X.env.scope scope lo X.N) (cc : CelX X cs s0) (e0 : Env0 X.prog X.w X.K X.mg X.base A outer s1 H)
    (hh : A.handled = none) (at1 : ∀ b o, cs b = some o → s1.heap.get? b = some o ∧ H b = none) (hn : g.Ns s1.heap.objs.size m) (hk : ∀ b o, s1.heap.get? b = some o → g.get? b = some o) :
    Inv (LamX.lamCx X A outer s1 H E scope f c') [] σ H { s1 with heap := g, toks := tk } := by
  have cl := fun {y : Str} {c : Addr} (e : (cloFrom X.env.cells scope.names []).lookup y = some c) => clo_cells I.ok L e
  have isC : ∀ {y c v}, X.env.cells.lookup y = some c → s0.heap.IsCell c v → g.IsCell c v := fun {y c v} e ⟨o, q1, q2⟩ => by
    obtain ⟨o2, z1, z2⟩ := cc.has y c e
    rw [q1] at z1; cases z1
    exact ⟨o, hk _ _ (at1 _ _ z2).1, q2⟩
  have off : ∀ {y c}, X.env.cells.lookup y = some c → H c = none := fun {y c} e => by
    obtain ⟨o2, z1, z2⟩ := cc.has y c e
    exact (at1 _ _ z2).2
  have got : ∀ {y}, (y, NameKind.free) ∈ scope.names → ∃ c, (cloFrom X.env.cells scope.names []).lookup y = some c := fun {y} hy => L2.mem_lookup (cloFrom_has hy)
  have none_ : ∀ b : Addr, b ∈ (LamX.lamCx X A outer s1 H E scope f c').ex → False := fun b z => nomatch (show b ∈ ([] : List Addr) from z)
  have ok : (LamX.lamCx X A outer s1 H E scope f c').Ok := {
    mod := e0.mod
    kind := L.kind
    glob := rfl
    blt := rfl
    above := Nat.le_refl _
    inj := fun y z c a b => I.ok.inj y z c (cl a).1 (cl b).1
    has := fun y hy => by
      have hy : scope.names.lookup y = some .cell ∨ scope.names.lookup y = some .free := hy
      rcases hy with q | q
      · exact absurd rfl (L.noc _ (PySem.mem_of_lookup q))
      · exact got (PySem.mem_of_lookup q)
    cab := fun y c z _ => (nomatch (show false = true from z))
    hd := fun _ => hh
    frames := Around.frames_deeper e0.frames
    stk := .inr ⟨rfl, rfl⟩
    exf := fun b z => (none_ b z).elim
    bs := e0.bs
    bsz := e0.bsz
    noex := fun b _ _ z => none_ b z
    exfs := fun b z => (none_ b z).elim
    funs := e0.funs
    frf := e0.frf }
  refine { ok := ok, os := rfl, bare := e0.bare, base := Un.kept hk, loc := ⟨m, hn, fun i y v a b q => ?_⟩, cell := fun y c e => ?_, free := e0.hok.fresh (Nat.le_refl _), freeC := fun y c e => off (cl e).1, pin := fun q z => (nomatch (show q ∈ ([] : List (Addr × Obj)) ++ [] from z)), hok := e0.hok.kept hk, len := I.len }
  · have q : Vis scope y := q
    rcases q with q | q | q
    · have z := L.loc _ (PySem.mem_of_lookup q) rfl
      exact absurd (List.mem_of_getElem? a) (L.par y z).2
    · exact absurd rfl (L.noc _ (PySem.mem_of_lookup q))
    · have hm := PySem.mem_of_lookup q
      have kc := L.free _ hm rfl
      obtain ⟨mm, hmm, hl⟩ := I.loc
      obtain ⟨u, r, lk⟩ := hl i y v a b (.inr kc)
      obtain ⟨c2, h2⟩ := got hm
      have c1 := (cl h2).1
      refine ⟨u, r, .inr ⟨.inr q, c2, h2, ?_⟩⟩
      rcases lk with ⟨k0, _⟩ | ⟨_, c3, e3, z3⟩
      · have k0 : X.env.scope.names.lookup y = some .local := k0
        rcases kc with kc | kc
        · have kc : X.env.scope.names.lookup y = _ := kc
          rw [k0] at kc; cases kc
        · have kc : X.env.scope.names.lookup y = _ := kc
          rw [k0] at kc; cases kc
      · rw [c1] at e3; cases e3
        exact isC c1 z3
  · obtain ⟨v, z⟩ := I.cell y c (cl e).1
    exact ⟨v, isC (cl e).1 z⟩
end
/-- the closure is called -/
theorem clo_run {X : Cx} {pins : List (Addr × Obj)} {σ : L2.St} {H0 HZ : Hp} {s0 s1 : Shared} {cs : CsM} {A : Around} {outer : List Env} {E : XK} {Q : VK} {params : Arguments} {body : Expr} {scope : Scope} {lo : Option Str} {dV doc pm ctv : Value} {f c' : Addr} {k : Nat} {t : XK → TE}
    (I : Inv X pins σ H0 s0) (L : LamS2 X.env.scope scope lo X.N) (cc : CelX X cs s0) (e0 : Env0 X.prog X.w X.K X.mg X.base A outer s1 HZ) (hr : Room (k + 1) A) (hq : X.env.qual ++ "<lambda>" = q0)
    (hf : HZ f = some (fix f (cloO X params body scope dV doc pm ctv c'))) (hd : DefV lo dV HZ) (hp : ParB params body scope lo) (hl : Lent cs HZ) (hc : HZ c' = some (LamX.CodeO c' q0))
    (hbody : ∀ (A : Around) (outer : List Env) (s : Shared) (H : Hp) (E : XK) (f c' : Addr), Room k (A.deeper (LamX.lamEnv X scope s.heap.objs.size f c')) → PE (LamX.lamCx X A outer s H E scope f c') body (t E))
    (ht : t (fun cls d H' => Off cs H' → E cls d (addC cs H')) σ (delC cs HZ) (fun v H' => Off cs H' → Q v (addC cs H'))) :
    codeAny (model X.prog X.w) A (.call (.ref f) ⟨[], []⟩) (CR (L2.CX X.prog X.w) outer X.prog X.w HZ s1 Q E) s1 := by
  have of1 : s1.heap.get? f = some (cloO X params body scope dV doc pm ctv c') := (e0.hok f _ hf).1
  have at1 : ∀ b o, cs b = some o → s1.heap.get? b = some o := fun b o e => (e0.hok b _ (hl b o e)).1
  have nf : ∀ b o, cs b = some o → b ∉ frs outer := fun b o e z => by
    have y := e0.frf b z
    rw [hl b o e] at y; cases y
  have KX : X.K.In s1.heap := e0.mod.kin.keeps fun b o e => (e0.bs b o e).1
  have lim : s1.heap.NoLimit := e0.mod.nolimit.keeps fun b o e => (e0.bs b o e).1
  obtain ⟨⟨oc, vs, tq, hoc, hdc, hvc⟩, _, _⟩ := e0.hok c' _ hc
  have hcd : s1.heap.CodeRec (.ref c') (X.env.qual ++ "<lambda>") := ⟨c', oc, vs, tq, rfl, hoc, hdc, by rw [hq]; exact hvc⟩
  have bnd : ∃ bs : List (Str × Value), BindsTo s1 (PySem.W.kdv_fn "<lambda>" (X.env.qual ++ "<lambda>") params (.expr body) scope (cloFrom X.env.cells scope.names []) dV doc pm (.ref c') ctv) ⟨[], []⟩ bs ∧ ∀ x ∈ bs, scope.names.lookup x.1 = some .local := by
    cases lo with
    | none =>
      have hd : dV = .none := hd
      subst hd
      exact ⟨[], BindsTo.of_eq (hp _ _ _ _ _ _), fun x z => nomatch z⟩
    | some x =>
      obtain ⟨T, e, hT⟩ := hd
      subst e
      obtain ⟨kk, k1, k2⟩ := hp (X.env.qual ++ "<lambda>") (cloFrom X.env.cells scope.names []) (.ref T) doc pm (.ref c') ctv
      obtain ⟨_, its, rv, oT, g1, g2, n, g3⟩ := e0.hok T _ hT
      cases rv with
      | cons ru rr =>
        cases rr
        obtain ⟨tk, rfl⟩ := ru
        exact ⟨_, BindsTo.of_defaults rfl g1 g3 k1 (k2 _), fun y hy => by rw [List.mem_singleton.mp hy]; exact (L.par x rfl).1⟩
  obtain ⟨bs, hb, hloc⟩ := bnd
  refine PySem.W.kla_callFunE hr.depth of1 rfl L.co L.gen rfl hcd (hb _ _ _ _ ?_)
  refine wpAny_newFunctionEnv L.noc hloc (fun g hn sb => ⟨lim.fresh _ sb, ?_⟩) L.kind
  have hk : ∀ b o, s1.heap.get? b = some o → g.get? b = some o := fun b o e => sb.extBut b o (Nat.ne_of_lt (Heap.lt_size e)) (Heap.get?_push_of_some _ e)
  have J := clo_start (E := fun cls d H' => Off cs H' → E cls d (addC cs H')) (f := f) (c' := c') (tk := s1.toks + bs.length) I L cc (env0_del hl e0) hr.hd (fun b o e => ⟨at1 b o e, delC_in e⟩) hn hk
  show codeAny _ _ (.expr body (LamX.lamEnv X scope s1.heap.objs.size f c')) _ _
  refine PySem.W.kla_codeExpr (wpAny_mono ((hbody A outer s1 (delC cs HZ) _ f c' (hr.deeper _)).run [] _ σ _ _ J ht) (fun v s' z => ?_) fun e s' z => ?_)
  · obtain ⟨v', H', J', rv, q⟩ := z
    exact ce_back hl (fun b o e => ⟨at1 b o e, nf b o e⟩) (fun v H' q => q) ⟨v', H', J'.os, J'.bare, J'.base, J'.hok, rv, q⟩
  · exact wpAny_mono z (fun _ s'' y => cx_back hl (fun b o e => ⟨at1 b o e, nf b o e⟩) (fun cls d H' q => q) y) fun e' s'' y => cx_back hl (fun b o e => ⟨at1 b o e, nf b o e⟩) (fun cls d H' q => q) y
end Z

namespace Z
open PySem L2 PyProof.Rows
/-! ### the making of a closure -/
/-- what is made: the object f, its code c', its defaults -/
structure MkR (P : Addr) (H H1 : Hp) (f c' : Addr) (lo : Option Str) (dV : Value) (fo : Obj) : Prop where
  q : Exq H H1
  o : ∀ b u, b ≠ P → H b = some u → H1 b = some u
  nf : H f = none
  f : H1 f = some (fix f fo)
  c : H1 c' = some (LamX.CodeO c' q0)
  d : match lo with | none => dV = .none | some _ => ∃ T, dV = .ref T ∧ H T = none ∧ H1 T = some (.tup [.int 0])
/-- the parameters' defaults -/
def DefS (params : Arguments) (env : Env) : Option Str → Prop
  | none => defaultsOf params env = ([], [])
  | some _ => ∃ (j : Nat) (p : Pos), params.defaults = [.Constant (.int 0) j p] ∧ params.kw_defaults = [] ∧ params.kwonlyargs = []
section
variable {X : Cx} {pins : List (Addr × Obj)} {σ : L2.St} {H : Hp} {s : Shared} {c P : Addr} {params : Arguments} {body : Expr} {scope : Scope} {pos : Pos} {lo : Option Str}
theorem clo_tail {dV : Value} {line : Nat} {E : Value → Shared → Prop} {Q : Value → Shared → Prop} (I : Inv X pins σ H s) (TB : LamX.TabB X.base X.mg c P) (hcode : X.env.code = .ref c) (hq : X.env.qual ++ "<lambda>" = q0) (hT : LamX.TabS H P q0)
    (hfree : ∀ y ∈ scope.names, y.2 = .free → ∃ c, X.env.cells.lookup y.1 = some c)
    (k : ∀ (f c' : Addr) (doc pm ctv : Value) (H1 : Hp) (s' : Shared), Inv X pins σ H1 s' → Exq H H1 → (∀ b u, b ≠ P → H b = some u → H1 b = some u) → H f = none → H1 f = some (fix f (cloO X params body scope dV doc pm ctv c')) → H1 c' = some (LamX.CodeO c' q0) → Q (.ref f) s') :
    wpAny (model X.prog X.w) X.A (makeTail "<lambda>" (X.env.qual ++ "<lambda>") params (.expr body) scope X.env dV .none none pos line) Q E s := by
  have tt := hT
  obtain ⟨ps, hP, ht, ha⟩ := hT
  have bP := TB.bm.keeps I.bk
  have hPr : s.heap.get? P = some { cls := .none, data := .fields ps } := I.hok P _ hP
  have lay : ∀ (f : Addr) (o : Obj) (H1 : Hp) (s1 : Shared) (tk : Tok), Inv X pins σ H1 s1 → s1.heap.objs.size = f → o.isFreed = false → Inv X pins σ (upd H1 f (fix f o)) { s1 with heap := s1.heap.push o, toks := tk } := fun f o H1 s1 tk J e fr => by
    subst e
    exact J.laid (t' := tk) (fun b u z => Heap.get?_push_of_some _ z) (Nat.le_refl _) (fix_ok (Heap.get?_push_size _ fr))
  cases hca : codeAmong pos ps.toList with
  | some cv =>
    obtain ⟨c', rfl, hco⟩ := ha pos cv hca
    refine PySem.W.kdv_makeTailHit (mg := X.mg) (c := c) (P := P) (ps := ps) (closure_ok hfree) I.ok.glob (I.mod.glob.keeps I.bk) hcode (TB.code.keeps I.bk) hPr ht hca bP fun ctv doc h' tk hx hsz => ?_
    have J : Inv X pins σ H { s with heap := h', toks := tk } := I.kept (t' := tk) hx
    have J2 := lay h'.objs.size (cloO X params body scope dV doc ((X.mg "__name__").getD .none) ctv c') H _ tk J rfl rfl
    have nf : H h'.objs.size = none := I.hok.fresh hsz
    exact k h'.objs.size c' doc _ ctv _ _ J2 (Exq.refl.upd nf (plo_none nf)) (fun b u _ e => by rw [upd_ne (ne_of_none e nf)]; exact e) nf upd_same (by rw [upd_ne (ne_of_none hco nf)]; exact hco)
  | none =>
    refine PySem.W.kdv_makeTail (mg := X.mg) (c := c) (P := P) (ps := ps) (closure_ok hfree) I.ok.glob (I.mod.glob.keeps I.bk) hcode (TB.code.keeps I.bk) hPr ht hca TB.gP bP fun c' ctv doc h' tk hx hge hlt hrec htb => ?_
    obtain ⟨c2, oc, vs, t, e2, hoc, hd, hv⟩ := hrec
    cases e2
    have nC : H c' = none := I.hok.fresh hge
    have hv' : vs[1]? = some (.str q0 t) := by rw [← hq]; exact hv
    have J := LamX.inv_table (t' := tk) (more := #[rawInt pos.line, rawInt pos.col, .ref c']) (h' := h') I hP (fun b o hb e => hx b o hb e) htb hge ⟨oc, vs, t, hoc, hd, hv'⟩
    have nPc : P ≠ c' := ne_of_none hP nC
    have stays : ∀ b o, b ≠ P → H b = some o → upd (upd H P (.tbl (ps ++ #[rawInt pos.line, rawInt pos.col, .ref c']))) c' (LamX.CodeO c' q0) b = some o := fun b o n e => by rw [upd_ne (ne_of_none e nC), upd_ne n]; exact e
    have isC : ∀ a, H a = some (LamX.CodeO a q0) → a ≠ P := fun a e z => by
      subst z
      rw [hP] at e
      unfold LamX.CodeO at e
      cases e
    have gr : Grow P H (upd (upd H P (.tbl (ps ++ #[rawInt pos.line, rawInt pos.col, .ref c']))) c' (LamX.CodeO c' q0)) := by
      refine grow_more hP nC (fun b nb tb => ?_) ⟨_, by rw [upd_ne nPc, upd_same], ?_, fun p' cv hcv => ?_⟩
      · obtain ⟨qs, b1, b2, b3⟩ := tb
        refine ⟨qs, stays _ _ nb b1, b2, fun p' cv hcv => ?_⟩
        obtain ⟨a, ea, ca⟩ := b3 p' cv hcv
        exact ⟨a, ea, stays _ _ (isC a ca) ca⟩
      · have eL : (ps ++ #[rawInt pos.line, rawInt pos.col, .ref c']).toList = ps.toList ++ [rawInt pos.line, rawInt pos.col, .ref c'] := by simp
        rw [eL]
        exact PySem.TriplesOk_snoc _ _ _ _ ht
      · have eL : (ps ++ #[rawInt pos.line, rawInt pos.col, .ref c']).toList = ps.toList ++ [rawInt pos.line, rawInt pos.col, .ref c'] := by simp
        rw [eL] at hcv
        rcases LamX.among_app _ ht hcv with z | z
        · obtain ⟨a, ea, ca⟩ := ha p' cv z
          exact ⟨a, ea, stays _ _ (isC a ca) ca⟩
        · exact ⟨c', z, upd_same⟩
    have hsz : s.heap.objs.size ≤ h'.objs.size := Nat.le_of_lt (Nat.lt_of_le_of_lt hge hlt)
    have nf : H h'.objs.size = none := I.hok.fresh hsz
    have J2 := lay h'.objs.size (cloO X params body scope dV doc ((X.mg "__name__").getD .none) ctv c') _ _ tk J rfl rfl
    have n1 := J.hok.fresh (show (⟨h', s.gens, s.drawn, tk, s.os⟩ : Shared).heap.objs.size ≤ h'.objs.size from Nat.le_refl _)
    refine k h'.objs.size c' doc _ ctv _ _ J2 (gr.q.upd nf (plo_none n1)) (fun b u nb e => ?_) nf upd_same ?_
    · rw [upd_ne (ne_of_none e nf)]; exact gr.o b u nb e
    · rw [upd_ne (Nat.ne_of_lt hlt), upd_same]
theorem clo_mk {E : Value → Shared → Prop} {Q : Value → Shared → Prop} (I : Inv X pins σ H s) (TB : LamX.TabB X.base X.mg c P) (hcode : X.env.code = .ref c) (hq : X.env.qual ++ "<lambda>" = q0) (hT : LamX.TabS H P q0) (L : LamS2 X.env.scope scope lo X.N) (hd : DefS params X.env lo)
    (k : ∀ (f c' : Addr) (dV doc pm ctv : Value) (H1 : Hp) (s' : Shared), Inv X pins σ H1 s' → MkR P H H1 f c' lo dV (cloO X params body scope dV doc pm ctv c') → Q (.ref f) s') :
    wpAny (model X.prog X.w) X.A (eval (.Lambda params body scope pos) X.env) Q E s := by
  have hfree : ∀ y ∈ scope.names, y.2 = .free → ∃ c, X.env.cells.lookup y.1 = some c := fun y hy e => I.ok.has y.1 (L.free y hy e)
  cases lo with
  | none =>
    refine PySem.W.kla_eval hd ?_
    rw [makeFunction_eq]
    simp only [List.zip_nil_right, List.filterMap_nil, pure_bind, List.isEmpty_nil, if_true]
    exact clo_tail I TB hcode hq hT hfree fun f c' doc pm ctv H1 s' J a b n e g => k f c' .none doc pm ctv H1 s' J ⟨a, b, n, e, g, rfl⟩
  | some x =>
    obtain ⟨j, p, d1, d2, d3⟩ := hd
    refine PySem.W.kdv_lam (by rw [d1]; rfl) d2 ?_
    rw [d1]
    refine PySem.W.kdv_all1 (thn ((pe_int (X := X) (i := 0) (j := j) (pos := p)).run pins s σ H (fun v H1 => v = .int 0 ∧ H1 = H) I ⟨rfl, rfl⟩) fun u s1 z => ?_)
    obtain ⟨v, H1, I1, r1, e1, e2⟩ := z
    subst e1 e2
    refine PySem.W.kdv_all0 ?_
    rw [makeFunction_eq, d3]
    simp only [List.zip_nil_right, List.filterMap_nil, List.isEmpty_nil, List.isEmpty_cons, if_true, pure_bind, Bool.false_eq_true, if_false]
    refine wpAny_bind (wpAny_newTextTuple ?_)
    have nT : H1 s1.heap.objs.size = none := I1.hok.fresh (Nat.le_refl _)
    have I2 : Inv X pins σ (upd H1 s1.heap.objs.size (.tup [.int 0])) { s1 with heap := s1.heap.push { cls := .type "tuple", data := .seq [u].toArray }, toks := s1.toks } := I1.laid (a := s1.heap.objs.size) (t' := s1.toks) (fun b w z => Heap.get?_push_of_some _ z) (Nat.le_refl _)
      ⟨by show 1 ≤ sizeLine; decide, [u], .cons r1 .nil, _, Heap.get?_push_size _ rfl, rfl, _, rfl⟩
    have tT : LamX.TabS (upd H1 s1.heap.objs.size (.tup [.int 0])) P q0 := tab_but hT (plo_none nT) fun a z => upd_ne z
    refine clo_tail I2 TB hcode hq tT hfree fun f c' doc pm ctv H2 s' J a b n e g => k f c' (.ref s1.heap.objs.size) doc pm ctv H2 s' J ⟨(Exq.refl.upd nT (plo_none nT)).trans a, fun d w nd z => b d w nd (by rw [upd_ne (ne_of_none z nT)]; exact z), ?_, e, g, _, rfl, nT, ?_⟩
    · by_cases z : f = s1.heap.objs.size
      · rw [z]; exact nT
      · rw [upd_ne z] at n; exact n
    · refine b _ _ (fun z => ?_) upd_same
      obtain ⟨ps, hP, _⟩ := hT
      rw [← z, nT] at hP; cases hP
end
/-! ### the value -/
/-- what goes on if it is an error, and only then -/
def onExc (k : Str → Option Int → Prop) : W → Prop | .exc n i => k n i | _ => False
theorem onExc_m {k k' : Str → Option Int → Prop} (h : ∀ n i, k n i → k' n i) : ∀ w, onExc k w → onExc k' w := fun w q => by cases w <;> first | exact h _ _ q | exact q
/-- a closure of the frame X that does as e says -/
def cloP (K : PySem.W.Frag) (c : Cl) (X : Cx) (k : Nat) (e : XE) : Pr := ⟨fun v h => ∃ (f c' : Addr) (params : Arguments) (body : Expr) (scope : Scope) (lo : Option Str) (dV doc pm ctv : Value) (t : XK → TE), v = .ref f ∧ h f = some (fix f (cloO X params body scope dV doc pm ctv c')) ∧ DefV lo dV h ∧
    h c' = some (LamX.CodeO c' q0) ∧ X.env.qual ++ "<lambda>" = q0 ∧ LamS2 X.env.scope scope lo X.N ∧ ParB params body scope lo ∧ (∀ E, EvX K c E (t E) e) ∧
    ∀ (A : Around) (outer : List Env) (s : Shared) (H : Hp) (E : XK) (f c' : Addr), Room k (A.deeper (LamX.lamEnv X scope s.heap.objs.size f c')) → PE (LamX.lamCx X A outer s H E scope f c') body (t E),
  fun e ⟨f, c', params, body, scope, lo, dV, doc, pm, ctv, t, a, b, d, g, r⟩ => ⟨f, c', params, body, scope, lo, dV, doc, pm, ctv, t, a, e _ _ b, d.mono e, e _ _ g, r⟩⟩
theorem sim_ext {h h' : Hp} {b : Addr} {φ : Heap → Prop} (s : Sim h h') (e : h b = some (.ext φ)) : h' b = some (.ext φ) := by
  rcases s b _ e with z | ⟨kvs, z, _⟩
  · exact z
  · rcases z with z | ⟨od, z⟩ <;> cases z
theorem sim_tup {h h' : Hp} {b : Addr} {xs : List V} (s : Sim h h') (e : h b = some (.tup xs)) : h' b = some (.tup xs) := by
  rcases s b _ e with z | ⟨kvs, z, _⟩
  · exact z
  · rcases z with z | ⟨od, z⟩ <;> cases z
theorem DefV.sim {lo : Option Str} {dV : Value} {h h' : Hp} (s : Sim h h') (d : DefV lo dV h) : DefV lo dV h' := by
  cases lo with
  | none => exact d
  | some x => obtain ⟨T, a, b⟩ := d; exact ⟨T, a, sim_tup s b⟩
def cloS (K : PySem.W.Frag) (c : Cl) (X : Cx) (k : Nat) (e : XE) : PrS := ⟨cloP K c X k e, fun s ⟨f, c', params, body, scope, lo, dV, doc, pm, ctv, t, a, b, d, g, r⟩ => ⟨f, c', params, body, scope, lo, dV, doc, pm, ctv, t, a, sim_ext s b, d.sim s, sim_ext s g, r⟩⟩
/-- a closure whose cells are lent, and which raises one of S -/
structure Rs (P : Program) (w : World) (K : PySem.W.Frag) (mg : Str → Option Value) (base : Heap) (c : Cl) (k : Nat) (S : Str → Option Int → Prop) (v : V) (h : Hp) (X : Cx) (e : XE) (pins : List (Addr × Obj)) (σ : L2.St) (H0 : Hp) (s0 : Shared) (cs : CsM) (ρ : Sl) : Prop where
  x : X.prog = P ∧ X.w = w ∧ X.K = K ∧ X.mg = mg ∧ X.base = base
  p : (cloP K c X k e).p v h
  I : Inv X pins σ H0 s0
  cc : CelX X cs s0
  l : Lent cs h
  n : En (ρ.G K c) σ (delC cs h)
  e : e.f ρ (onExc S)
def raisP (P : Program) (w : World) (K : PySem.W.Frag) (mg : Str → Option Value) (base : Heap) (c : Cl) (k : Nat) (S : Str → Option Int → Prop) : Pr := ⟨fun v h => ∃ X e pins σ H0 s0 cs ρ, Rs P w K mg base c k S v h X e pins σ H0 s0 cs ρ,
  fun u ⟨X, e, pins, σ, H0, s0, cs, ρ, r⟩ => ⟨X, e, pins, σ, H0, s0, cs, ρ, r.x, (cloP K c X k e).mono u r.p, r.I, r.cc, r.l.mono u, r.n.mono (del_mono u), r.e⟩⟩
theorem en_sim {K : PySem.W.Frag} {c : Cl} {ρ : Sl} {σ : L2.St} {h h' : Hp} (s : Sim h h') (n : En (ρ.G K c) σ h) : En (ρ.G K c) σ h' := by
  refine ⟨n.len, fun i P q => ?_⟩
  obtain ⟨v, a, b⟩ := n.at_ i P q
  have q2 : (ρ.map (Option.map (W.p K c)))[i]? = some (some P) := q
  rw [List.getElem?_map] at q2
  cases z : ρ[i]? with
  | none => rw [z] at q2; cases q2
  | some o =>
    rw [z] at q2
    cases o with
    | none => cases q2
    | some w => cases q2; exact ⟨v, a, Sim.p s w b⟩
theorem del_sim {cs : CsM} {h h' : Hp} (s : Sim h h') : Sim (delC cs h) (delC cs h') := fun b o e => by
  cases c : cs b with
  | some u => rw [delC_in c] at e; cases e
  | none => rw [delC_out c] at e ⊢; exact s b o e
theorem Lent.sim {cs : CsM} {h h' : Hp} (s : Sim h h') (l : Lent cs h) : Lent cs h' := fun b o e => sim_ext s (l b o e)
def raisS (P : Program) (w : World) (K : PySem.W.Frag) (mg : Str → Option Value) (base : Heap) (c : Cl) (k : Nat) (S : Str → Option Int → Prop) : PrS := ⟨raisP P w K mg base c k S,
  fun s ⟨X, e, pins, σ, H0, s0, cs, ρ, r⟩ => ⟨X, e, pins, σ, H0, s0, cs, ρ, r.x, (cloS K c X k e).sim s r.p, r.I, r.cc, r.l.sim s, en_sim (del_sim s) r.n, r.e⟩⟩
end Z

namespace Z
open PySem L2 PyProof.Rows
/-! ### calls with closures -/
theorem add_mono {cs : CsM} {h H : Hp} (e : Ex h H) : Ex (addC cs h) (addC cs H) := fun b u q => by
  cases c : cs b with
  | some o => rw [addC_in c] at q ⊢; exact q
  | none => rw [addC_out c] at q ⊢; exact e b u q
theorem Off.sub {cs : CsM} {h H : Hp} (e : Ex h H) (o : Off cs H) : Off cs h := fun b u q => by
  cases z : h b with
  | none => rfl
  | some v => have y := e b v z; rw [o b u q] at y; cases y
/-- x(), in a def that was entered with the closure: Z is that def's context -/
theorem pe_cloZ {X Z : Cx} {pins : List (Addr × Obj)} {σ : L2.St} {H0 : Hp} {s0 : Shared} {cs : CsM} {W : WX} {E : XK} {params : Arguments} {body : Expr} {scope : Scope} {lo : Option Str} {dV doc pm ctv : Value} {f c' : Addr} {k i : Nat} {a : Str} {t : XK → TE} {p1 p2 : Pos}
    (x1 : Z.prog = X.prog) (x2 : Z.w = X.w) (x3 : Z.K = X.K) (x4 : Z.mg = X.mg) (x5 : Z.base = X.base) (I : Inv X pins σ H0 s0) (L : LamS2 X.env.scope scope lo X.N) (cc : CelX X cs s0) (hq : X.env.qual ++ "<lambda>" = q0) (hp : ParB params body scope lo)
    (hbody : ∀ (A : Around) (outer : List Env) (s : Shared) (H : Hp) (E : XK) (f c' : Addr), Room k (A.deeper (LamX.lamEnv X scope s.heap.objs.size f c')) → PE (LamX.lamCx X A outer s H E scope f c') body (t E))
    (tk : Takes Z W) (hW : ∀ cls d σ' H', E cls d H' → W cls d σ' H') (hr : Room (k + 1) Z.A) (hN : Z.N[i]? = some a) (hv : Vis Z.env.scope a) (hd : (a == ("__debug__" : Str)) = false) (hcd : (a == ("__classdict__" : Str)) = false) :
    PE Z (.Call (.Name a p1) [] [] p2) (fun σZ HZ R => σZ[i]? = some (some (.ref f)) ∧ HZ c' = some (LamX.CodeO c' q0) ∧ HZ f = some (fix f (cloO X params body scope dV doc pm ctv c')) ∧ DefV lo dV HZ ∧ Lent cs HZ ∧
      t (fun cls d H' => Off cs H' → E cls d (addC cs H')) σ (delC cs HZ) (fun v H' => Off cs H' → R v (addC cs H'))) := by
  refine ⟨fun pinsZ sZ σZ HZ R IZ ⟨hs, hc, hf, hdv, hl, ht⟩ => ?_⟩
  refine wpAny_Call_Name_kw (thn ((pe_var (pos := p1) (i := i) hN hv hd hcd).run pinsZ sZ σZ HZ (fun v H1 => v = .ref f ∧ H1 = HZ) IZ ⟨.ref f, hs, rfl, rfl⟩) fun u s1 z => ?_)
  obtain ⟨v, H1, I1, r1, e1, e2⟩ := z
  subst e1 e2
  obtain rfl : u = Value.ref f := r1
  have of1 := (I1.hok f _ hf).1
  refine PySem.W.callWith_F0 ⟨_, _, _, _, of1⟩ ?_
  have en0 := I1.env0
  rw [x1, x2, x3, x4, x5] at en0
  have rc := clo_run I L cc en0 hr hq hf hdv hp hl hc hbody ht
  rw [← x1, ← x2] at rc
  have hx : Passes (L2.CX Z.prog Z.w) Z E := passes_call tk hW
  refine wpAny_call (codeAny_mono rc fun r s' q => ?_)
  cases r with
  | error e => exact hx pinsZ σZ H1 s1 e s' I1 q
  | ok fl => cases fl with
    | ret u => exact I1.after q
    | _ => exact False.elim q
/-- the handler, called with a closure that raises -/
abbrev F_errC (P : Program) (w : World) (K : PySem.W.Frag) (mg : Str → Option Value) (base : Heap) (c : Cl) (k : Nat) (φ : Str → Option Int → Prop) : XF := ⟨Str → Option Int → Prop, 1, fun S => [.pr (raisS P w K mg base c k S)], fun S => ∀ n i, S n i → φ n i, fun S w => ∃ n i, S n i ∧ w = told n i, by intros; rfl⟩
theorem errK_fx {P : Program} {w : World} {K : PySem.W.Frag} {mg : Str → Option Value} {base : Heap} {c : Cl} {k : Nat} {φ : Str → Option Int → Prop} {x : Str} (e : ErrK P w K mg base c φ x) : Fx P w K mg base (k + 2) x ((F_errC P w K mg base c k φ).sp K c) := by
  obtain ⟨st, N, a, ⟨g, fd, F, hm, hb⟩, Sc, hN, hva, hdb, hcd, hG⟩ := e.ex
  have kp := F.kp
  obtain ⟨oc, od, kV, doc0, pm0, an, cdv, ct, osl, rfl, lk, hcg⟩ := F.ex
  refine ⟨g, hm, kp, fun A outer s H us vs Q E hr e0 rv hs => ?_⟩
  obtain ⟨S, h, ex, vv, hS, kk⟩ := hs
  have vv : Vs [raisP P w K mg base c k S] vs h := vv
  cases vv with
  | cons p q =>
    cases q
    obtain ⟨X, e, pins, σ, H0, s0, cs, ρ, r⟩ := p
    obtain ⟨f, c', params, body, scope, lo, dV, doc, pm, ctv, t, rfl, hf, hd, hc, hq, L, hp, hev, hbody⟩ := r.p
    obtain ⟨x1, x2, x3, x4, x5⟩ := r.x
    obtain ⟨u, rfl, ru⟩ : ∃ u, us = [u] ∧ RelV (.ref f) u := by
      cases rv with
      | cons ru rr => cases rr; exact ⟨_, rfl, ru⟩
    refine codeAny_mono (LamX.run_ofS (CX := C8.CX0) (E := C8.E0) (Q := Q) (N := N) (ps := [a]) (us := [u]) (vs := [.ref f]) lk hcg Sc hr e0 (hb s [u] (e0.mod.kin.keeps fun b o z => (e0.bs b o z).1) rfl) (.cons ru .nil) rfl fun hr' => ?_) fun r s' z => ?_
    · have cel := r.cc.cel
      let X' : Cx := { prog := P, w := w, K := K, mg := mg, base := base, A := A, N := [], s_0 := s, H_0 := H, env := PyProof.Rows.envOfC x (defScope st) 0 0 .none, outer := outer, stack := outer, ex := [], fn := fun _ => false, calm := true, pn := [], xe := fun _ _ => False }
      have TT : TTerr K c φ (fun E HZ R => HZ f = some (fix f (cloO X params body scope dV doc pm ctv c')) ∧ DefV lo dV HZ ∧ Lent cs HZ ∧ t (fun cls d H' => Off cs H' → E cls d (addC cs H')) σ (delC cs HZ) (fun v H' => Off cs H' → R v (addC cs H'))) H Q := by
        refine ⟨fun cls d H' => ∃ n i h', ExOk c n i cls d h' ∧ S n i ∧ Stp h H h' H', ⟨ex _ _ hf, hd.mono ex, r.l.mono ex, ?_⟩, fun cls d H' ⟨n, i, h', xo, sn, st⟩ => ⟨n, i, h', xo, hS n i sn, st.i, fun v h2 H2 s2 pv => kk v h2 H2 (st.trans s2) ⟨told n i, ⟨n, i, sn, rfl⟩, pv⟩⟩⟩
        refine hev _ ρ (onExc S) r.e σ (delC cs h) (delC cs H) r.n (del_mono ex) _ (fun v h' H' st ⟨w, qw, pw⟩ => ?_) fun n i cls d h' H' st qs xo off => ⟨n, i, addC cs h', xo.mono (add_up (Off.sub st.i off)), qs, stp_back cel r.l ex off st⟩
        cases w <;> first | exact (show False from qw).elim | exact (show False from pw).elim
      obtain ⟨t', ht', hq'⟩ := hG X' rfl rfl rfl rfl rfl g cdv f c' s H Q _
        (fun W pn xe E p1 p2 tk hW => pe_cloZ (i := 0) x1.symm x2.symm x3.symm x4.symm x5.symm r.I L r.cc hq hp hbody (takes_len tk) (fun cls d σ' H' e l => hW cls d σ' H' l e) hr' hN hva hdb hcd) (ex _ _ hc) TT
      exact ⟨t', ht'.nox, hq'⟩
    · cases r with
      | error e => exact (show False from z).elim
      | ok fl => exact z
/-! ### in the law: the call, with what its frame's cells hold lent to it -/
def tLC (X : Cx) (sp : Sp) (t : TA) : TE := fun σ H Q => t σ H fun vs H1 => ∀ (cs : CsM) (pins : List (Addr × Obj)) (s : Shared), Inv X pins σ H1 s → CelX X cs s → Off cs H1 → sp vs (addC cs H1) (fun v H' => Lent cs H' ∧ Q v (delC cs H')) (fun _ _ _ => False)
theorem pe_lent {X : Cx} {k j : Nat} {x : Str} {sp : Sp} {p pos : Pos} {e : Expr} {es : List Expr} {t : TA} (c : Fx X.prog X.w X.K X.mg X.base k x sp) (hr : Room j X.A) (hk : k ≤ j) (hfn : ∀ y, X.fn y = true) (hst : X.stack = X.env :: X.outer ∧ X.env.frame = some X.env.locals) (hg : Gl X x) (ha : PA X (e :: es) t)
    (hdb : (x == ("__debug__" : Str)) = false := by decide) (he : starEach (e :: es) X.env = (false, eval e X.env) :: starEach es X.env := by rfl) (hpl : (backTo pos (starEach es X.env)).any (·.1) = false := by rfl) : PE X (.Call (.Name x p) (e :: es) [] pos) (tLC X sp t) := by
  obtain ⟨f, hm, kp, F⟩ := c.ex
  refine ⟨fun pins s σ H Q I h => wpAny_Call_Name_kw (ld_glob I hg hm ?_ hdb)⟩
  refine PySem.W.callWith_K (h₀ := X.base) I.ok.mod.kin kp (thn (ha.run pos pins s σ H _ I h) fun us s1 ⟨vs, H1, I1, rv, q⟩ => ⟨I1.kIn, ?_⟩) he hpl
  obtain ⟨cs, cc⟩ := celX_of I1
  have low : ∀ b o, cs b = some o → X.s_0.heap.objs.size ≤ b := fun b o z => by
    obtain ⟨_, _, y, hy⟩ := cc.is b o z
    exact I1.ok.cab y b (hfn y) hy
  have off : Off cs H1 := fun b o z => by
    obtain ⟨_, _, y, hy⟩ := cc.is b o z
    exact I1.freeC y b hy
  have at_ : ∀ b o, cs b = some o → s1.heap.get? b = some o ∧ H1 b = none ∧ b ∉ frs X.stack ∧ X.base.get? b = none := fun b o z => by
    obtain ⟨g1, ⟨v, g2⟩, y, hy⟩ := cc.is b o z
    refine ⟨g1, off b o z, fun m => ?_, ?_⟩
    · rw [hst.1] at m
      have m : b ∈ (X.env :: X.outer).filterMap (·.frame) := m
      rw [List.filterMap_cons, hst.2] at m
      rcases List.mem_cons.mp m with m | m
      · obtain ⟨mm, ⟨oL, es', ep, hL, hd, _⟩, _⟩ := I1.loc
        have hL : s1.heap.get? X.env.locals = some oL := hL
        rw [← m, g1] at hL; cases hL
        rw [g2] at hd; cases hd
      · obtain ⟨_, o2, ho2, _⟩ := I1.ok.funs.mem m
        exact absurd (Heap.lt_size ho2) (Nat.not_lt.mpr (low b o z))
    · cases q : X.base.get? b with
      | none => rfl
      | some o2 => exact absurd (Nat.lt_of_lt_of_le (Heap.lt_size q) I1.ok.bsz) (Nat.not_lt.mpr (low b o z))
  have rc := F X.A X.stack s1 (addC cs H1) us vs _ _ (hr.mono hk) (env0_lend at_ I1.env0) rv (q cs pins s1 I1 cc off)
  refine wpAny_call (codeAny_mono rc fun r s' z => ?_)
  cases r with
  | error e => exact (show False from z).elim
  | ok fl => cases fl with
    | ret u => exact I1.after (ce_lend (fun b o e => ⟨(at_ b o e).1, (at_ b o e).2.1, (at_ b o e).2.2.1⟩) (fun v H' y => y) z)
    | _ => exact False.elim z
/-- a closure made -/
def tClo (P : Addr) (X : Cx) (k : Nat) (t : XK → TE) : TE := fun σ H Q => LamX.TabS H P q0 ∧ ∀ (f c' : Addr) (params : Arguments) (body : Expr) (scope : Scope) (lo : Option Str) (dV doc pm ctv : Value) (H1 : Hp), MkR P H H1 f c' lo dV (cloO X params body scope dV doc pm ctv c') →
  X.env.qual ++ "<lambda>" = q0 → LamS2 X.env.scope scope lo X.N → ParB params body scope lo → (∀ (A : Around) (outer : List Env) (s : Shared) (H : Hp) (E : XK) (f c' : Addr), Room k (A.deeper (LamX.lamEnv X scope s.heap.objs.size f c')) → PE (LamX.lamCx X A outer s H E scope f c') body (t E)) → Q (.ref f) H1
theorem pe_clo {X : Cx} {c P : Addr} {k : Nat} {params : Arguments} {body : Expr} {scope : Scope} {pos : Pos} {lo : Option Str} {t : XK → TE} (TB : LamX.TabB X.base X.mg c P) (hcode : X.env.code = .ref c) (hq : X.env.qual ++ "<lambda>" = q0) (L : LamS2 X.env.scope scope lo X.N) (hd : DefS params X.env lo) (hp : ParB params body scope lo)
    (hbody : ∀ (A : Around) (outer : List Env) (s : Shared) (H : Hp) (E : XK) (f c' : Addr), Room k (A.deeper (LamX.lamEnv X scope s.heap.objs.size f c')) → PE (LamX.lamCx X A outer s H E scope f c') body (t E)) : PE X (.Lambda params body scope pos) (tClo P X k t) :=
  ⟨fun pins s σ H Q I ⟨hT, kk⟩ => clo_mk I TB hcode hq hT L hd fun f c' dV doc pm ctv H1 s' J m => ⟨.ref f, H1, J, rfl, kk f c' params body scope lo dV doc pm ctv H1 m hq L hp hbody⟩⟩
section
variable {K : PySem.W.Frag} {c : Cl} {P : Addr} {te ta tb : TE} {tr : TA} {e a b : XE} {ar : XA} {X : Cx} {k : Nat}
def XE.clo (K : PySem.W.Frag) (c : Cl) (X : Cx) (k : Nat) (e : XE) : XE := ⟨fun _ Q => Q (.pr (cloS K c X k e)), fun k q => k _ q⟩
theorem evl_clo {t : XK → TE} (he : ∀ E, EvX K c E (t E) e) : EvL K c P (tClo P X k t) (.clo K c X k e) := fun ρ Q q σ h H n ee z R kk => by
  refine ⟨z.2, fun f c' params body scope lo dV doc pm ctv H1 m hq L hp hb => ?_⟩
  have hP : ∀ b u, h b = some u → b ≠ P := fun b u e y => by subst y; rw [z.1] at e; cases e
  have old : ∀ b u, h b = some u → H1 b = some u := fun b u e => m.o b u (hP b u e) (ee b u e)
  obtain ⟨Tp, tT⟩ : ∃ Tp : Addr → Prop, (∀ b, Tp b → H b = none) ∧ ((lo = none ∧ dV = .none) ∨ ∃ x T, lo = some x ∧ dV = .ref T ∧ Tp T ∧ H1 T = some (.tup [.int 0])) := by
    have d := m.d
    cases lo with
    | none => exact ⟨fun _ => False, fun _ x => x.elim, .inl ⟨rfl, d⟩⟩
    | some x => obtain ⟨T, a1, a2, a3⟩ := d; exact ⟨fun b => b = T, fun b e => by rw [e]; exact a2, .inr ⟨x, T, rfl, a1, rfl, a3⟩⟩
  classical
  let h1 : Hp := fun b => if b = f ∨ b = c' ∨ Tp b then H1 b else h b
  have hin : ∀ b, (b = f ∨ b = c' ∨ Tp b) → h1 b = H1 b := fun b y => if_pos y
  have hout : ∀ b, ¬ (b = f ∨ b = c' ∨ Tp b) → h1 b = h b := fun b y => if_neg y
  have ex1 : Ex h h1 := fun b u e => by
    by_cases y : b = f ∨ b = c' ∨ Tp b
    · rw [hin b y]; exact old b u e
    · rw [hout b y]; exact e
  have ex2 : Ex h1 H1 := fun b u e => by
    by_cases y : b = f ∨ b = c' ∨ Tp b
    · rw [hin b y] at e; exact e
    · rw [hout b y] at e; exact old b u e
  refine kk (.ref f) h1 H1 ⟨m.q, ex1, ex2, fun b u e nb nx => ?_⟩ ⟨_, q, f, c', params, body, scope, lo, dV, doc, pm, ctv, t, rfl, ?_, ?_, ?_, hq, L, hp, he, hb⟩
  · by_cases y : b = f ∨ b = c' ∨ Tp b
    · rcases y with y | y | y
      · rw [y, m.nf] at e; cases e
      · have z2 := nx (fun h => ∃ (oc : Obj) (vs : Array Value) (t : Tok), h.get? c' = some oc ∧ oc.data = .fields vs ∧ vs[1]? = some (.str q0 t))
        rw [y] at z2
        exact absurd m.c z2
      · rw [tT.1 b y] at e; cases e
    · rw [hout b y]; exact nb
  · rw [hin f (.inl rfl)]; exact m.f
  · rcases tT.2 with ⟨e1, e2⟩ | ⟨x, T, e1, e2, e3, e4⟩
    · subst e1; exact e2
    · subst e1; exact ⟨T, e2, by rw [hin T (.inr (.inr e3))]; exact e4⟩
  · rw [hin c' (.inr (.inl rfl))]; exact m.c
/-- the handler called with a lambda -/
def XE.errC (φ : Str → Option Int → Prop) (e : XE) : XE := ⟨fun ρ Q => e.f ρ (onExc fun n i => φ n i ∧ Q (told n i)), fun k q => e.m (onExc_m fun n i z => ⟨z.1, k _ z.2⟩) q⟩
theorem rais_of {cs : CsM} {pins : List (Addr × Obj)} {s : Shared} {h1 H1 : Hp} {σ : L2.St} {ρ : Sl} {S : Str → Option Int → Prop} {v : V} (I : Inv X pins σ H1 s) (cc : CelX X cs s) (off : Off cs H1) (ex : Ex h1 H1) (n : En (ρ.G K c) σ h1) (hK : X.K = K) (p : (cloP K c X k e).p v h1) (q : e.f ρ (onExc S)) :
    (raisP X.prog X.w K X.mg X.base c k S).p v (addC cs h1) := by
  have o1 := Off.sub ex off
  refine ⟨X, e, pins, σ, H1, s, cs, ρ, ⟨rfl, rfl, hK, rfl, rfl⟩, (cloP K c X k e).mono (add_up o1) p, I, cc, lent_add, ?_, q⟩
  rw [del_add o1]; exact n
/-- all of a list of closures raise the same -/
abbrev F_allR (P : Program) (w : World) (K : PySem.W.Frag) (mg : Str → Option Value) (base : Heap) (c : Cl) (k : Nat) (φ : Str → Option Int → Prop) : XF := ⟨W × Nat, 2, fun a => [.lst (List.replicate a.2 (.pr (raisS P w K mg base c k fun n i => φ n i ∧ told n i = a.1))), a.1], fun a => Pl 60 a.1 ∧ a.2 ≤ 1000, fun _ w => w = .bl true, by intros; rfl⟩
def XE.allR (K : PySem.W.Frag) (c : Cl) (X : Cx) (k : Nat) (φ : Str → Option Int → Prop) (a b : XE) : XE := ⟨fun ρ Q => a.f ρ fun w => b.f ρ fun y => ∃ ws, w = .lst ws ∧ ws.length ≤ 1000 ∧ Pl 60 y ∧ (∀ u ∈ ws, ∃ e : XE, u = .pr (cloS K c X k e) ∧ e.f ρ (onExc fun n i => φ n i ∧ told n i = y)) ∧ Q (.bl true),
  fun k q => a.m (fun _ z => b.m (fun _ ⟨ws, e, l, p, y, r⟩ => ⟨ws, e, l, p, y, k _ r⟩) z) q⟩
theorem evl_allR {φ : Str → Option Int → Prop} (ha : EvL X.K c P ta a) (hb : EvL X.K c P tb b) : EvL X.K c P (tLC X ((F_allR X.prog X.w X.K X.mg X.base c k φ).sp X.K c) (tCons ta (tCons tb tNil))) (.allR X.K c X k φ a b) := fun ρ Q q σ h H n ee z R kk => by
  refine ha ρ _ q σ h H n ee z _ fun v h1 H1 s1 ⟨w, qw, pw⟩ => hb ρ _ qw σ h1 H1 (n.mono s1.s) s1.i (z.go s1) _ fun u h2 H2 s2 ⟨y, ⟨ws, ew, lw, py, al, qn⟩, pu⟩ => ?_
  subst ew
  intro cs pins s I cc off
  have cel := cc.cel
  have s12 := s1.trans s2
  have pw2 := (W.p X.K c (.lst ws)).mono s2.s pw
  obtain ⟨a0, vs, rfl, hv, vv⟩ := (show (L X.K (W.ps X.K c ws)).p v h2 from pw2)
  have o2 := Off.sub s2.i off
  have up : Ex h2 (addC cs h2) := add_up o2
  have rep : ∀ (ws : List W) (vs : List V), (∀ u ∈ ws, ∃ e : XE, u = .pr (cloS X.K c X k e) ∧ e.f ρ (onExc fun n i => φ n i ∧ told n i = y)) → Vs (W.ps X.K c ws) vs h2 → Vs (W.ps X.K c (List.replicate ws.length (.pr (raisS X.prog X.w X.K X.mg X.base c k fun n i => φ n i ∧ told n i = y)))) vs (addC cs h2) := by
    intro ws
    induction ws with
    | nil => intro vs _ q; cases q; exact .nil
    | cons w ws ih =>
      intro vs al q
      have q : Vs (w.p X.K c :: W.ps X.K c ws) vs h2 := q
      cases q with
      | cons q1 q2 =>
        obtain ⟨e, ew, he⟩ := al w List.mem_cons_self
        subst ew
        exact .cons (rais_of I cc off s2.i (n.mono s12.s) rfl q1 he) (ih _ (fun u m => al u (List.mem_cons_of_mem _ m)) q2)
  refine ⟨(y, ws.length), addC cs h2, add_mono s2.i, .cons ⟨a0, vs, rfl, up _ _ hv, rep ws vs al vv⟩ (.cons ((y.p X.K c).mono up pu) .nil), ⟨py, lw⟩, fun v h' H' st ⟨w, ew, pv⟩ => ?_⟩
  have ew : w = .bl true := ew
  subst ew
  exact ⟨fun b o y => st.e b _ (addC_in y), kk v (delC cs h') (delC cs H') (s12.trans (stp_fwd cel off s2.i st)) ⟨_, qn, by rw [p_bl pv]; exact Dq.bl _⟩⟩
theorem evl_lst (ha : EAL K c P tr ar) : EvL K c P (tLst tr) (.lst ar) := fun ρ Q q σ h H n ee z R k =>
  ha ρ _ q σ h H n ee z _ fun ws vs h1 H1 ⟨hz, qw⟩ s1 p1 => ⟨by rw [p1.len, ps_len]; exact Evl.sz_of hz, fun p np => k _ (upd h1 p (.lst vs)) _ (s1.trans (Stp.new s1.i np)) ⟨_, qw, p, vs, rfl, upd_same, p1.mono (Stp.new (o := .lst vs) s1.i np).s⟩⟩
theorem d_clo {ρ : Sl} {Q : W → Prop} : ((XE.clo K c X k e).f ρ Q) = Q (.pr (cloS K c X k e)) := rfl
theorem d_errC {φ : Str → Option Int → Prop} {ρ : Sl} {Q : W → Prop} : ((XE.errC φ e).f ρ Q) = (e.f ρ (onExc fun n i => φ n i ∧ Q (told n i))) := rfl
theorem d_allR {φ : Str → Option Int → Prop} {ρ : Sl} {Q : W → Prop} : ((XE.allR K c X k φ a b).f ρ Q) = (a.f ρ fun w => b.f ρ fun y => onL w fun ws => ws.length ≤ 1000 ∧ Pl 60 y ∧ (∀ u ∈ ws, ∃ e : XE, u = .pr (cloS K c X k e) ∧ e.f ρ (onExc fun n i => φ n i ∧ told n i = y)) ∧ Q (.bl true)) := rfl
theorem onExc_exc {κ : Str → Option Int → Prop} {n : Str} {i : Option Int} : onExc κ (.exc n i) = κ n i := rfl
end
def runXC := And.intro (@d_clo) (And.intro (@d_errC) (And.intro (@d_allR) (@onExc_exc)))
end Z

namespace Z
open PySem PySem.Spec L2 PyProof.Rows
/-! ### errors with an own __init__: super().__init__(text with a number), self.field = number -/
/-- what is known of such a class, its __init__ at f, its text -/
structure SupC (P : Program) (K : PySem.W.Frag) (C f : Addr) (y m : Str) (st : Stmt) : Prop where
  T : OexC K C
  no : PySem.W.findIn K (.ref C) y = some none
  fn : ∃ (oc kV doc pm ct ccl cl : Value) (od an cdd cld : Option Addr) (osl ccs csl : Array (Option Value)) (qual : Str) (cda cc : Addr) (vs : Array Value) (file : Str) (tf : Tok),
    K.lookup f = some ⟨oc, od, .func (PySem.W.ksFn "__init__" qual (defArgs st) (defBody st) (defScope st) .none kV doc pm an (.ref cda) ct cc), osl⟩ ∧ PySem.W.codeIn K (.ref cda) qual = true ∧ K.lookup cda = some ⟨ccl, cdd, .fields vs, ccs⟩ ∧ vs[2]? = some (.str file tf) ∧ ((P.main.file : Str) == file) = true ∧
    K.lookup cc = some ⟨cl, cld, .cell (some (.ref C)), csl⟩
  cl : ∃ cd, PySem.W.clsIn K C = some cd
  sub : PySem.W.mroIn K C (.ref C) = some true
  sup : PySem.W.nsIn K mainGlobals "super" = some none
  any : PySem.W.nsIn K cStatics "thirdparty.any" = some none
  at_ : PySem.W.ks_superIn K C C "__init__" = some (some (.builtin "ValueError.__init__"))
  ve : PySem.W.subIn K (.ref C) (.type "ValueError") = some true
  ini : PySem.W.findIn K (.ref C) "__init__" = some (some (.ref f))
  ty : PySem.W.typeIn K (.ref f) = some (.type "function")
  top : (P.main.scope.names.lookup ("super" : Str)).isSome = false
/-- the text of such a def -/
def supE (p0 p1 p2 p3 p4 p5 p6 p7 : Pos) (j : Nat) (y m : Str) : Expr := .Call (.Attribute (.Call (.Name "super" p0) [] [] p1) "__init__" p2) [.JoinedStr [.Constant (.str m) j p3, .FormattedValue (.Name y p4) (-1) none p5] p6] [] p7
structure SupS (y m : Str) (st : Stmt) : Prop where
  body : ∃ (p0 p1 p2 p3 p4 p5 p6 p7 p8 q1 q2 q3 q4 : Pos) (j : Nat), defBody st = [.Expr (supE p0 p1 p2 p3 p4 p5 p6 p7 j y m) p8, .Assign [.Attribute (.Name "self" q1) y q2] (.Name y q3) q4] ∧
    (∀ (qual : Str) (L f : Addr) (cd : Value) (cc : Addr), ∃ pl : Sem Bool, eval (supE p0 p1 p2 p3 p4 p5 p6 p7 j y m) (PySem.W.ksEnv qual (defScope st) L f cd cc) = (do
      let ov ← attributeBase (.Call (.Name "super" p0) [] [] p1) "__init__" (PySem.W.ksEnv qual (defScope st) L f cd cc) (eval (.Call (.Name "super" p0) [] [] p1) (PySem.W.ksEnv qual (defScope st) L f cd cc))
      standAt p2.atName
      let (f', first) ← holding [ov] (getMethod ov "__init__" pl)
      callWith p7 f' first (backTo p7 (starEach [.JoinedStr [.Constant (.str m) j p3, .FormattedValue (.Name y p4) (-1) none p5] p6] (PySem.W.ksEnv qual (defScope st) L f cd cc))) [])) ∧
    (∀ (qual : Str) (L f : Addr) (cd : Value) (cc : Addr), swapsWith (supE p0 p1 p2 p3 p4 p5 p6 p7 j y m) none p8.line (PySem.W.ksEnv qual (defScope st) L f cd cc) = pure false) ∧
    (∀ (qual : Str) (L f : Addr) (cd : Value) (cc : Addr), swapsWith (.Name y q3) (some (.Attribute (.Name "self" q1) y q2)) q4.line (PySem.W.ksEnv qual (defScope st) L f cd cc) = pure false)
  par : ∃ ar, ((defArgs st).posonlyargs ++ (defArgs st).args).head? = some ar ∧ ar.arg = "self"
  kind : (defScope st).kind = .function
  co : (defScope st).isCoroutine = false
  gen : (defScope st).isGenerator = false
  ks : (defScope st).names.lookup ("super" : Str) = some .globalImplicit
  kc : (defScope st).names.lookup ("__class__" : Str) = some .free
  kS : (defScope st).names.lookup ("self" : Str) = some .local
  ky : (defScope st).names.lookup y = some .local
  nm : ((defScope st).names.all fun x => !decide (x.2 = .cell) && (!decide (x.2 = .free) || decide (x.1 = "__class__"))) = true
  ny : (y == ("self" : Str)) = false ∧ (y == ("__debug__" : Str)) = false ∧ (y == ("__classdict__" : Str)) = false ∧ ("self" == y) = false
  len : m.length ≤ 100
  bd : ∀ (qual : Str) (kV doc pm : Value) (an : Option Addr) (cdv ct : Value) (cc : Addr) (a b : Value), bindArgs (PySem.W.ksFn "__init__" qual (defArgs st) (defBody st) (defScope st) .none kV doc pm an cdv ct cc) ⟨[a, b], []⟩ = pure ([(("self" : Str), a), (y, b)] : List (Str × Value))
theorem SupS.noc {y m : Str} {st : Stmt} (S : SupS y m st) : ∀ x ∈ (defScope st).names, x.2 ≠ .cell := fun x hx e => by
  have z := List.all_eq_true.mp S.nm x hx
  rw [e] at z
  simp at z
theorem SupS.fr {y m : Str} {st : Stmt} (S : SupS y m st) : ∀ x ∈ (defScope st).names, x.2 = .free → x.1 = "__class__" := fun x hx e => by
  have z := List.all_eq_true.mp S.nm x hx
  rw [e] at z
  simpa using z
/-- the context of its body -/
def supCx (P : Program) (w : World) (K : PySem.W.Frag) (mg : Str → Option Value) (base : Heap) (y qual : Str) (scope : Scope) (f cda cc : Addr) (A : Around) (outer : List Env) (s : Shared) (H : Hp) : Cx where
  prog := P
  w := w
  K := K
  mg := mg
  base := base
  A := A.deeper (PySem.W.ksEnv qual scope s.heap.objs.size f (.ref cda) cc)
  N := ["self", y]
  s_0 := s
  H_0 := H
  env := PySem.W.ksEnv qual scope s.heap.objs.size f (.ref cda) cc
  outer := outer
  stack := PySem.W.ksEnv qual scope s.heap.objs.size f (.ref cda) cc :: outer
  ex := []
  fn := fun _ => false
  calm := true
  pn := []
  xe := fun _ _ => False
section
variable {P : Program} {w : World} {K : PySem.W.Frag} {mg : Str → Option Value} {base : Heap} {C f cda cc : Addr} {y m qual : Str} {st : Stmt} {A : Around} {outer : List Env} {s : Shared} {H : Hp}
theorem sup_start {g : Heap} {tk : Nat} {us : List Value} {vs : List V} (e0 : Env0 P w K mg base A outer s H) (hh : A.handled = none) (S : SupS y m st) (hcc : ∃ o : Obj, s.heap.get? cc = some o ∧ (∃ v, o.data = .cell v)) (hn : H cc = none) (hl : vs.length = 2) (rv : Vals vs us)
    (hns : g.Ns s.heap.objs.size (fun x => (([("self" : Str), y].zip us).reverse).lookup x)) (hk : ∀ b o, s.heap.get? b = some o → g.get? b = some o) :
    Inv (supCx P w K mg base y qual (defScope st) f cda cc A outer s H) [] (vs.map some) H { s with heap := g, toks := tk } := by
  have only : ∀ {x c}, ([("__class__", cc)] : List (Str × Addr)).lookup x = some c → x = "__class__" ∧ c = cc := fun {x c} e => by
    have z := PySem.mem_of_lookup e
    rw [List.mem_singleton] at z
    cases z; exact ⟨rfl, rfl⟩
  have nx0 : ∀ b : Addr, b ∈ (supCx P w K mg base y qual (defScope st) f cda cc A outer s H).ex → False := fun b z => nomatch (show b ∈ ([] : List Addr) from z)
  have ok : (supCx P w K mg base y qual (defScope st) f cda cc A outer s H).Ok := {
    mod := e0.mod
    kind := S.kind
    glob := rfl
    blt := rfl
    above := Nat.le_refl _
    inj := fun a b c p q => (only p).1.trans (only q).1.symm
    has := fun x hx => by
      have hx : (defScope st).names.lookup x = some .cell ∨ (defScope st).names.lookup x = some .free := hx
      rcases hx with q | q
      · exact absurd rfl (S.noc _ (PySem.mem_of_lookup q))
      · have z := S.fr _ (PySem.mem_of_lookup q) rfl
        have z : x = "__class__" := z
        subst z
        exact ⟨cc, rfl⟩
    cab := fun x c z _ => (nomatch (show false = true from z))
    hd := fun _ => hh
    frames := Around.frames_deeper e0.frames
    stk := .inr ⟨rfl, rfl⟩
    exf := fun b z => (nx0 b z).elim
    bs := e0.bs
    bsz := e0.bsz
    noex := fun b _ _ z => nx0 b z
    exfs := fun b z => (nx0 b z).elim
    funs := e0.funs
    frf := e0.frf }
  obtain ⟨oc, ho, v0, hv0⟩ := hcc
  obtain ⟨a, b, ua, ub, rfl, rfl, ra, rb⟩ : ∃ a b ua ub, vs = [a, b] ∧ us = [ua, ub] ∧ RelV a ua ∧ RelV b ub := by
    cases rv with
    | nil => cases hl
    | cons r1 r2 => cases r2 with
      | nil => cases hl
      | cons r2 r3 => cases r3 with
        | nil => exact ⟨_, _, _, _, rfl, rfl, r1, r2⟩
        | cons r4 r5 => simp at hl
  refine { ok := ok, os := rfl, bare := e0.bare, base := Un.kept hk, loc := ⟨_, hns, fun i x v p q z => ?_⟩, cell := fun x c e => ?_, free := e0.hok.fresh (Nat.le_refl _), freeC := fun x c e => ?_, pin := fun q z => (nomatch (show q ∈ ([] : List (Addr × Obj)) ++ [] from z)), hok := e0.hok.kept hk, len := rfl }
  · have p : ([("self" : Str), y] : List Str)[i]? = some x := p
    match i, p, q with
    | 0, p, q =>
      cases p; cases q
      refine ⟨ua, ra, .inl ⟨S.kS, ?_⟩⟩
      show List.lookup ("self" : Str) ([(y, ub), (("self" : Str), ua)] : List (Str × Value)) = some ua
      rw [List.lookup_cons, S.ny.2.2.2]; rfl
    | 1, p, q =>
      cases p; cases q
      refine ⟨ub, rb, .inl ⟨S.ky, ?_⟩⟩
      show List.lookup y ([(y, ub), (("self" : Str), ua)] : List (Str × Value)) = some ub
      rw [List.lookup_cons, beq_self_eq_true]
  · obtain ⟨rfl, rfl⟩ := only e
    exact ⟨v0, oc, hk _ _ ho, hv0⟩
  · obtain ⟨rfl, rfl⟩ := only e
    exact hn
end
/-- the built-in __init__, bound to an error, called -/
theorem call_mw {prog : Program} {w : World} {A : Around} {E : Value → Shared → Prop} {hp : Heap} {g : Array GenState} {d : Drawn} {t : Nat} {os : OsState} {nm q : Str} {C N e t0 m0 : Addr} {bs bm : List Value} {hdct : Bool} {sn : List Str} {sub : List Value} {ab : Bool} {col : Option Bool} {dd : Option Addr} {k0 k1 k2 k3 k5 : Option Value} {xs : List Value} {Q : Value → Shared → Prop}
    (hC : hp.get? C = some (excClassObj nm q C N bs bm hdct sn sub ab col dd k0 k1 k2 k3 k5 "ValueError.__new__")) (he : hp.get? e = some (PySem.HandSPX.excO C t0)) (hm : hp.get? m0 = some (PySem.W.kxs_mw "ValueError.__init__" e)) (hz : xs.length ≤ sizeLine)
    (hq : ∀ h' t1, (∀ b o, b ≠ e → hp.get? b = some o → h'.get? b = some o) → h'.get? e = some (PySem.HandSPX.excO C t1) → Q .none ⟨h', g, d, t, os⟩) : wpAny (model prog w) A (call (.ref m0) xs) Q E ⟨hp, g, d, t, os⟩ := by
  refine wpAny_call (codeAny_of_tree ?_)
  show wpAny _ A.in1 (callAny (.ref m0) ⟨xs, []⟩) _ _ _
  simp only [callAny]
  refine wpAny_bind (wpAny_load hm ?_)
  have mt : (Value.type "method-wrapper" == Value.type "method" || Value.type "method-wrapper" == Value.type "builtin_function_or_method" || Value.type "method-wrapper" == Value.type "method-wrapper") = true := by decide
  simp only [mt, PySem.W.kxs_mw, if_true]
  refine PySem.W.KFB.if_so (by decide) (wpAny_bind (PySem.W.check_bound_init F.excBase_ValueError.toExcCallFacts hC he rfl ?_))
  refine wpAny_bind (wpAny_pure (wpAny_pure ⟨plainId_quiet F.excBase_ValueError.init.plain _, codeAny_builtin F.excBase_ValueError.initEntry ?_⟩))
  exact PySem.W.exc_init_tree (cls := .ref C) (t0 := t0) (dv := none) (c2 := .none) (c3 := .none) (b4 := .bool false) he hz fun h' k a _ => hq h' _ k a
/-- what such an __init__ keeps -/
def spSup (C : Addr) (y : Str) : Sp := fun vs H Q _ => ∃ (a : Addr) (i : Int), vs = [.ref a, .int i] ∧ i.natAbs < 10 ^ 12 ∧ H a = some (exo a C none) ∧ ∀ dx, H dx = none → dx ≠ a → Q .non (upd (upd H dx (exd dx [(y, .int i)])) a (exo a C (some dx)))
theorem joined_ok {X : Cx} {m y : Str} {j k : Nat} {p3 p4 p5 p6 : Pos} (hN : X.N[k]? = some y) (hv : Vis X.env.scope y) (h1 : (y == ("__debug__" : Str)) = false) (h2 : (y == ("__classdict__" : Str)) = false) (hm : m.length ≤ 100) :
    ∃ te : TE, PE X (.JoinedStr [.Constant (.str m) j p3, .FormattedValue (.Name y p4) (-1) none p5] p6) te ∧ ∀ (σ : L2.St) (H : Hp) (i : Int) (Q : VK), σ[k]? = some (some (.int i)) → i.natAbs < 10 ^ 12 → (∀ s, Q (.str s) H) → te σ H Q := by
  refine ⟨_, pe_joined (.cons (pe_str (x := m)) (.cons (pe_fmt (pe_var hN hv h1 h2)) .nil)), fun σ H i Q hi hb hq => ?_⟩
  have la : ∀ a b : Str, (a ++ b).length = a.length + b.length := fun a b => by
    show (a ++ b).cps.size = _
    rw [Str.cps_append, Array.size_append]; rfl
  have le : Str.empty.length = 0 := rfl
  have lo : (Str.ofString (toString i)).length = (toString i).length := by first | exact ofString_length _ | exact PySem.ofString_length _
  refine ⟨m, rfl, ?_, .int i, hi, .inr ⟨i, rfl, ?_, _, rfl, ?_, hq _⟩⟩
  · rw [la, le, sizeLine_eq]; omega
  · rcases Nat.lt_or_ge 0 i.natAbs with z | z
    · exact Nat.lt_of_lt_of_le ((Nat.log2_lt (n := i.natAbs) (k := 40) (by omega)).mpr (Nat.lt_of_lt_of_le hb (by decide))) (by decide)
    · rw [show i.natAbs = 0 by omega]; decide
  · have l := int_text_length_le10 (k := 12) (by decide) hb
    rw [la, la, le, sizeLine_eq]
    have lo' : (Str.ofString (toString i)).length ≤ 13 := by rw [lo]; exact l
    exact Nat.le_trans (Nat.add_le_add (Nat.le_of_eq (Nat.zero_add _)) lo') (by omega)
theorem sup_fn {P : Program} {w : World} {K : PySem.W.Frag} {mg : Str → Option Value} {base : Heap} {C f : Addr} {y m : Str} {st : Stmt} {k : Nat} (S : SupS y m st) (F0 : SupC P K C f y m st) :
    ∃ fd, FnOk P w K mg base CX0 (k + 1) f fd [("self" : Str), y] (spSup C y) ∧ Binds K fd [("self" : Str), y] [] := by
  obtain ⟨oc, kV, doc, pm, ct, ccl, cl, od, an, cdd, cld, osl, ccs, csl, qual, cda, cc, vs2, file, tf, lk, hcd, lcd, hvs, hfile, lcc⟩ := F0.fn
  obtain ⟨ar, har, hself⟩ := S.par
  obtain ⟨p0, p1, p2, p3, p4, p5, p6, p7, p8, q1, q2, q3, q4, j, hbody, hev, hsw, hsw2⟩ := S.body
  obtain ⟨cd, hcls⟩ := F0.cl
  refine ⟨PySem.W.ksFn "__init__" qual (defArgs st) (defBody st) (defScope st) .none kV doc pm an (.ref cda) ct cc, ⟨fun vs H Q E h => ?_, fun A outer s H args us vs Q E hr e0 hb rv hs => ?_⟩, fun s us kin hl => ?_⟩
  · obtain ⟨a, i, rfl, _⟩ := h; rfl
  rotate_left
  · match us, hl with
    | [a, b], _ => exact BindsTo.of_eq (S.bd qual kV doc pm an (.ref cda) ct cc a b)
  obtain ⟨a, i, rfl, hi, ha, kq⟩ := hs
  have KX : K.In s.heap := e0.mod.kin.keeps fun b o z => (e0.bs b o z).1
  have lim : s.heap.NoLimit := e0.mod.nolimit.keeps fun b o z => (e0.bs b o z).1
  have hloc : ∀ x ∈ [("self" : Str), y].zip us, (defScope st).names.lookup x.1 = some .local := fun x hx => by
    have z := (List.of_mem_zip (a := x.1) (b := x.2) hx).1
    rcases List.mem_cons.mp z with z | z
    · rw [z]; exact S.kS
    · rw [List.mem_singleton.mp z]; exact S.ky
  refine ks_codeAny_call_defAt (fd := PySem.W.ksFn "__init__" qual (defArgs st) (defBody st) (defScope st) .none kV doc pm an (.ref cda) ct cc) (body := defBody st) (binds := [("self" : Str), y].zip us) hr.depth (KX _ _ lk) rfl lim (PySem.W.codeRec_of KX hcd) rfl hb S.noc hloc (fun g hn hk => ?_) S.co S.gen S.kind
  have hccb : base.get? cc = some ⟨cl, cld, .cell (some (.ref C)), csl⟩ := e0.mod.kin _ _ lcc
  have J := sup_start (f := f) (cda := cda) (cc := cc) (qual := qual) (tk := s.toks + ([("self" : Str), y].zip us).length) e0 hr.hd S ⟨_, (e0.bs _ _ hccb).1, _, rfl⟩ (e0.bs _ _ hccb).2 rfl rv hn hk
  have ex : ∀ {α : Type} {t : Sem α} {Q' : α → Shared → Prop} {A' : Around} {s' : Shared} {E' : Value → Shared → Prop}, wpAny (model P w) A' t Q' (fun _ _ => False) s' → wpAny (model P w) A' t Q' E' s' := fun h => wpAny_mono h (fun _ _ z => z) fun _ _ z => z.elim
  obtain ⟨pl, hpl⟩ := hev qual s.heap.objs.size f (.ref cda) cc
  rw [hbody]
  refine ks_wpAt_execs_cons (ks_wpAt_Expr_any (ks_wpAt_MethodCall (pl := pl) ?_ ?he) ?hi ?hs)
  case hi =>
    show ((defScope st).kind == .module && _) = false
    rw [S.kind]; rfl
  case hs => exact hsw _ _ _ _ _
  case he => exact hpl
  refine ks_wpAt_super_base (env := PySem.W.ksEnv qual (defScope st) s.heap.objs.size f (.ref cda) cc) (oc := ⟨ccl, cdd, .fields vs2, ccs⟩) S.ks S.kc rfl rfl (hk _ _ (KX _ _ lk)) rfl har rfl (hk _ _ (KX _ _ lcd)) rfl hvs hfile F0.top ?_
  obtain ⟨mb, hb1, hb2⟩ := e0.mod.blt
  have hmg0 : mg "super" = none := PySem.W.mg_none_of e0.mod.kin e0.mod.glob F0.sup
  refine PySem.W.ks_loadName_global S.kind S.ks (Calls.loadGlobal_builtin (e0.mod.glob.keeps fun b o z => hk _ _ (e0.bs b o z).1) hmg0 (hb1.keeps fun b o z => hk _ _ (e0.bs b o z).1) ((hb2 "super" (by decide)).trans (by rfl)) ⟨rfl, ?_⟩)
  obtain ⟨sh, sg, sd, stk, sos⟩ := s
  obtain ⟨ub, rfl, rb⟩ : ∃ ub, us = [.ref a, ub] ∧ RelV (.int i) ub := by
    cases rv with
    | cons r1 r2 => cases r2 with
      | cons r2 r3 => cases r3; exact ⟨_, by rw [show _ = Value.ref a from r1], r2⟩
  have KG : K.In g := KX.keeps hk
  refine wpAny_loadName_free S.kind S.kc rfl ⟨_, hk _ _ (KX _ _ lcc), rfl⟩ ?_
  rw [hself]
  refine wpAny_loadName_local S.kind S.kS hn (v := .ref a) ?_ ?_
  · show List.lookup ("self" : Str) ([(y, ub), (("self" : Str), .ref a)] : List (Str × Value)) = _
    rw [List.lookup_cons, S.ny.2.2.2]; rfl
  obtain ⟨oD, hD1, hD2⟩ : ∃ oD : Obj, g.get? C = some oD ∧ oD.data = .cls cd := by
    unfold PySem.W.clsIn at hcls
    split at hcls
    · rename_i c1 d1 cd1 sl1 ho
      cases hcls
      exact ⟨_, KG _ _ ho, rfl⟩
    · cases hcls
  obtain ⟨t1, hx⟩ := exo_at J.hok ha
  refine ks_wpAny_isType_cls hD1 hD2 ⟨rfl, ?_⟩
  refine ks_wpAny_call_super hD1 hD2 hx rfl (fun c z => by cases z) (PySem.W.looks_mroIn KG F0.sub) fun h1 e1 k1 => ?_
  have J1 := J.kept (t' := stk + ([("self" : Str), y].zip [.ref a, ub]).length) k1
  have K1 : K.In h1 := KG.keeps k1
  have hx1 := k1 _ _ hx
  have ia : PySem.W.InstAt h1 a _ C none := ⟨hx1, rfl, rfl, trivial⟩
  have at2 := F0.at_
  unfold PySem.W.ks_superIn at at2
  rw [hcls] at at2
  refine PySem.W.kxs_getMethod PySem.W.kxs_ValueError e1 (PySem.W.looks_opaque K1 F0.any) (l₀ := cd.mro) (fun A Q E s k q => wpAny_bind ((PySem.W.looks_clsIn K1 hcls) A _ E s k (wpAny_pure q))) rfl K1 at2 (ia.type.andThen (PySem.W.looks_subIn K1 F0.ve)) (PySem.W.ks_ne K1 ia hcls) rfl ?_
  generalize htk : stk + ([("self" : Str), y].zip [.ref a, ub]).length + 1 = tk2
  generalize hX : supCx P w K mg base y qual (defScope st) f cda cc A outer ⟨sh, sg, sd, stk, sos⟩ H = X at *
  have xE : X.env = PySem.W.ksEnv qual (defScope st) sh.objs.size f (.ref cda) cc := by rw [← hX]; rfl
  have xP : X.prog = P ∧ X.w = w ∧ X.K = K ∧ X.A = A.deeper (PySem.W.ksEnv qual (defScope st) sh.objs.size f (.ref cda) cc) ∧ X.N = [("self" : Str), y] ∧ X.fs = frs outer ∧ X.ex = [] ∧ X.H_0 = H ∧ X.s_0 = ⟨sh, sg, sd, stk, sos⟩ := by rw [← hX]; exact ⟨rfl, rfl, rfl, rfl, rfl, rfl, rfl, rfl, rfl⟩
  have xe : X.xe = fun _ _ => False := by rw [← hX]; rfl
  obtain ⟨x1, x2, x3, x4, x5, x6, x7, x8, x9⟩ := xP
  have J2 : Inv X [] ([V.ref a, .int i].map some) H ⟨h1.push (PySem.W.kxs_mw "ValueError.__init__" a), sg, sd, tk2, sos⟩ := J1.kept (t' := tk2) fun b o e => Heap.get?_push_of_some _ e
  have hmw : (h1.push (PySem.W.kxs_mw "ValueError.__init__" a)).get? h1.objs.size = some (PySem.W.kxs_mw "ValueError.__init__" a) := Heap.get?_push_size _ rfl
  have J3 : Inv X [(h1.objs.size, PySem.W.kxs_mw "ValueError.__init__" a)] ([V.ref a, .int i].map some) H ⟨h1.push (PySem.W.kxs_mw "ValueError.__init__" a), sg, sd, tk2, sos⟩ := J2.pins_of fun p hp => by
    rw [List.mem_singleton.mp hp]
    refine ⟨hmw, J1.hok.fresh (Nat.le_refl _), fun z => ?_, fun z => ?_, fun v z => by cases z⟩
    · exact absurd J1.lt (by rw [← z]; exact Nat.lt_irrefl _)
    · exact J1.nofs (Nat.le_refl _) z
  obtain ⟨te, pj, hte⟩ := joined_ok (X := X) (k := 1) (m := m) (y := y) (j := j) (p3 := p3) (p4 := p4) (p5 := p5) (p6 := p6) (by rw [x5]; rfl) (by rw [xE]; exact .inl S.ky) S.ny.2.1 S.ny.2.2.1 S.len
  have pa : PA X [.JoinedStr [.Constant (.str m) j p3, .FormattedValue (.Name y p4) (-1) none p5] p6] (tCons te tNil) := pa_cons pj pa_nil
  refine PySem.W.kxs_callWith (i := "ValueError.__init__") (x := a) rfl ?_
  refine Calls.evalArgs_plain ?_
  have run := pa.run p7 _ _ _ _ (fun vs H' => (∃ z, vs = [.str z]) ∧ H' = H) J3 (hte _ H i _ rfl hi fun z => ⟨⟨z, rfl⟩, rfl⟩)
  rw [x1, x2, x4, xE, xe] at run
  refine wpAny_mono run (fun vs s3 hv => ?_) fun _ _ z => z.elim
  obtain ⟨ws, H', I3, rws, ⟨z, rfl⟩, rfl⟩ := hv
  obtain ⟨h3, g3, d3, tk3, os3⟩ := s3
  have pin := (I3.pin (h1.objs.size, PySem.W.kxs_mw "ValueError.__init__" a) (List.mem_append.mpr (.inr List.mem_cons_self))).1
  refine ⟨pin, ?_⟩
  obtain ⟨nm, q, N, bs, bm, sn, sub, ab, col, dd, k0, k1', k2, k3, k5, hC, hbm⟩ := F0.T.cls
  have K3 : K.In h3 := by have z := I3.kIn; rw [x3] at z; exact z
  obtain ⟨t3, hx3⟩ := exo_at I3.hok ha
  have lz : vs.length ≤ sizeLine := by
    rw [← Paired.length rws, sizeLine_eq]
    exact Nat.le_trans (Nat.le_refl 1) (by decide)
  refine call_mw (K3 _ _ hC) hx3 pin lz fun h4 t4 k4 hx4 => ?_
  have J4 : Inv X [] ([V.ref a, .int i].map some) H' ⟨h4, g3, d3, tk3, os3⟩ := by
    have z := (I3.pins_of (pins' := []) fun p hp => nomatch hp).write (t' := tk3) (x := a) (e := a) (o := exo a C none) (by rw [ha]; exact True.intro) (.inl rfl) k4 ⟨_, hx4⟩ (exo_ok hx4)
    have eu : upd H' a (exo a C none) = H' := by
      funext b
      by_cases hb : b = a
      · rw [hb, upd_same, ha]
      · rw [upd_ne hb]
    rw [eu] at z; exact z
  refine wpAt_of_wpAny ?_
  have vS : Vis X.env.scope "self" := by rw [xE]; exact .inl S.kS
  have vy : Vis X.env.scope y := by rw [xE]; exact .inl S.ky
  have st2 := pss_one (ps_ost (X := X) (o := .Name "self" q1) (e := .Name y q3) (f := y) (p' := q2) (pos := q4) (pe_var (i := 0) (by rw [x5]; rfl) vS) (pe_var (i := 1) (by rw [x5]; rfl) vy S.ny.2.1 S.ny.2.2.1) (by rw [xE]; exact hsw2 _ _ _ _ _))
  have run2 := st2.run [] _ _ _ { nx := fun _ H2 => Q .non H2, rt := fun _ _ => False, bk := fun _ _ => False, ct := fun _ _ => False } J4 (by
    refine ⟨.int i, rfl, .ref a, rfl, a, C, rfl, by rw [x3]; exact F0.T, by rw [x3]; exact F0.no, .inl ⟨ha, fun dx nd nda => kq dx nd nda⟩⟩)
  rw [x1, x2, x4, xE, xe] at run2
  refine wpAny_mono run2 (fun fl s5 hs => ?_) fun _ _ z => z.elim
  cases fl with
  | next =>
    obtain ⟨σ', H2, J5, q5⟩ := hs
    have b5 := J5.base
    have o5 := J5.os
    have k5' := J5.hok
    rw [x6, x7, x8, x9] at b5
    rw [x9] at o5
    rw [x1, x2] at k5'
    exact ⟨.non, H2, o5, J5.bare, b5, k5', rfl, q5⟩
  | ret u =>
    obtain ⟨_, _, _, _, _, z⟩ := hs
    exact z.elim
  | brk =>
    obtain ⟨_, _, _, z⟩ := hs
    exact z.elim
  | cont =>
    obtain ⟨_, _, _, z⟩ := hs
    exact z.elim
/-- the class n, made and raised with a number -/
structure XiC (P : Program) (w : World) (K : PySem.W.Frag) (mg : Str → Option Value) (base : Heap) (c : Cl) (n : Str) : Prop where
  g : mg n = some (.ref (c.er n))
  T : OexC K (c.er n)
  ex : ∃ (f : Addr) (fd : FuncData), PySem.W.findIn K (.ref (c.er n)) "__init__" = some (some (.ref f)) ∧ PySem.W.typeIn K (.ref f) = some (.type "function") ∧ FnOk P w K mg base CX0 2 f fd [("self" : Str), xfn n] (spSup (c.er n) (xfn n)) ∧ Binds K fd [("self" : Str), xfn n] []
theorem xiC_of {P : Program} {w : World} {K : PySem.W.Frag} {mg : Str → Option Value} {base : Heap} {c : Cl} {n m : Str} {f : Addr} {st : Stmt} (g : mg n = some (.ref (c.er n))) (S : SupS (xfn n) m st) (F : SupC P K (c.er n) f (xfn n) m st) : XiC P w K mg base c n := by
  obtain ⟨fd, a, b⟩ := sup_fn (w := w) (mg := mg) (base := base) (k := 1) S F
  exact ⟨g, F.T, f, fd, F.ini, F.ty, a, b⟩
def tRaiI (E : XK) (C : Addr) (y : Str) (ta : TE) : TS := fun _ σ H => tMkO C (spSup C y) [] (tCons ta tNil) σ H E
theorem ps_raiI {X : Cx} {E : XK} {c : Cl} {n : Str} {j : Nat} {e : Expr} {ta : TE} {p pos pos2 : Pos} (hc : X.calm = true) (x : XiC X.prog X.w X.K X.mg X.base c n) (hr : Room j X.A) (hk : 3 ≤ j) (tk : Takes X fun cls d _ H => E cls d H) (hg : Gl X n) (he : PE X e ta)
    (hs : starEach [e] X.env = (false, eval e X.env) :: starEach [] X.env := by rfl) (hdb : (n == ("__debug__" : Str)) = false := by decide) :
    PS X (.Raise (some (.Call (.Name n p) [e] [] pos)) none pos2) (tRaiI E (c.er n) (xfn n) ta) := by
  obtain ⟨f, fd, h1, h2, F1, hb⟩ := x.ex
  exact ps_raise hc tk (pmk_oex (CX := CX0) x.T h1 h2 F1 (hr.mono hk) hb (ds := []) (dvs := []) .nil (fun _ _ _ _ _ _ _ z => z.elim) hg x.g (pa_cons he pa_nil hs) (p := p) (pos := pos) hdb hs rfl)
/-- raise X(e), a number -/
def XS.raiI (n : Str) (a : XE) : XS := ⟨fun φ κ => a.f φ.s fun w => ∃ i, w = .int i ∧ i.natAbs < 10 ^ 12 ∧ κ.rt (.exc n (some i)), fun k q => a.m (fun _ ⟨i, e, b, z⟩ => ⟨i, e, b, k.rt _ z⟩) q⟩
section
variable {K : PySem.W.Frag} {c : Cl} {E : XK} {ta : TE} {a : XE}
theorem esx_raiI {n : Str} (ha : Ev K c ta a) : ESX K c (jE c E) (tRaiI E (c.er n) (xfn n) ta) (.raiI n a) := fun φ κ b D q lk lx σ h H nn s m => by
  refine (show ta σ H _ from ha φ.s _ q σ h H nn s.st.i _ fun v h1 H1 s1 ⟨w, ⟨i, ew, hb, qw⟩, pw⟩ => ?_)
  subst ew
  obtain rfl := p_int pw
  refine ⟨Nat.le_trans (Nat.le_refl 1) (by decide), fun a0 na => ⟨a0, i, rfl, hb, upd_same, fun dx nd nda => ?_⟩⟩
  have nd1 : H1 dx = none := by rw [upd_ne nda] at nd; exact nd
  refine ⟨rfl, dx, [(xfn n, .int i)], upd_same, by rw [upd_ne nda, upd_same], nd1, ?_⟩
  have e : upd (del (upd (upd (upd H1 a0 (exo a0 (c.er n) none)) dx (exd dx [(xfn n, .int i)])) a0 (exo a0 (c.er n) (some dx))) a0) dx (.xd [(xfn n, .int i)]) = upd H1 dx (.xd [(xfn n, .int i)]) := by
    funext b
    by_cases z : b = dx
    · subst z; rw [upd_same, upd_same]
    · rw [upd_ne z, upd_ne z]
      by_cases y : b = a0
      · subst y; rw [del_same, na]
      · rw [del_ne y, upd_ne y, upd_ne z, upd_ne y]
  rw [e]
  exact lx n (some i) qw _ _ (upd h1 dx (.xd [(xfn n, .int i)])) _ ((s.st.trans s1).trans (Stp.new s1.i nd1)) ⟨rfl, dx, rfl, upd_same⟩
theorem d_raiI {φ : Fr} {κ : Ko} {n : Str} : ((XS.raiI n a).f φ κ) = (a.f φ.s fun w => onI w fun i => i.natAbs < 10 ^ 12 ∧ κ.rt (.exc n (some i))) := rfl
end
/-! ### a law whose closures are values -/
theorem fun_runC {Pg : Program} {w : World} {K : PySem.W.Frag} {mg : Str → Option Value} {base : Heap} {c : Cl} {P : Addr} {F : XF} {m qual : Str} {st : Stmt} {ps N : List Str} {k : Nat} {f : Addr} {fd : FuncData} {s : Cx → XS} {c0 : Addr} (d : L2.Fun K m qual st f fd) (hc : fd.code = .ref c0) (S : FnScope N ps (defScope st)) (hn : F.n = ps.length)
    (hb : ∀ (X : Cx) (a : F.α) (Q : W → Prop), F.pre a → (∀ w, F.post a w → Q w) → (s X).whole (F.args a) (N.length - ps.length) Q)
    (ht : ∀ (A : Around) (outer : List Env) (sh : Shared) (H : Hp) (E : XK), Room k (A.deeper (PyProof.Rows.envOfC qual (defScope st) sh.heap.objs.size f (.ref c0))) → ∃ t : TS, PSs (cxOf CX0 Pg w K mg base N qual (defScope st) f (.ref c0) A outer sh H E).nox (defBody st) t ∧ ESX K c (jT P) t (s (cxOf CX0 Pg w K mg base N qual (defScope st) f (.ref c0) A outer sh H E).nox)) :
    FnOk Pg w K mg base CX0 (k + 1) f fd ps (F.spT K c P) := by
  obtain ⟨oc, od, kV, doc, pm, an, cdv, ct, osl, rfl, lk, hcd⟩ := d.ex
  refine fn_of lk hcd S (fun vs H Q E h => ?_) fun A outer sh H vs Q E hr h => ?_
  · obtain ⟨a, _, _, q, _⟩ := h
    rw [q.len, ps_len, F.hn, hn]
  · have hc : cdv = .ref c0 := hc
    subst hc
    obtain ⟨t, ht, hs⟩ := ht A outer sh H E hr
    refine ⟨t, ht.nox, ?_⟩
    obtain ⟨a, h, e, q, p, tb, kk⟩ := h
    have hl : (W.ps K c (F.args a)).length = ps.length := by rw [ps_len, F.hn, hn]
    have z := en_start (args := fun _ : Unit => W.ps K c (F.args a)) (N := N) (ps := ps) (a := ()) (fun _ => hl) q
    have z' : En (((W.ps K c (F.args a)).map some ++ List.replicate (N.length - ps.length) none : Ctx)) (L2.start N vs) h := z
    rw [vs_start a hn] at z'
    refine hs _ _ ⟨h, H, h⟩ _ (hb _ a (fun w => F.post a w) p fun w z => z) ?_ tb (L2.start N vs) h H z' ⟨Stp.refl e, fun _ _ q => q⟩ trivial
    exact ⟨fun φ z σ h' H' n s' m => kk .non h' H' s'.st ⟨_, z, Dq.non⟩, fun w z v h' H' s' pw => kk v h' H' s' ⟨w, z, pw⟩, fun φ z => z.elim, fun φ z => z.elim⟩
section
variable {K : PySem.W.Frag} {c : Cl} {P : Addr} {ta tb : TE} {e a b : XE} {X : Cx} {k : Nat} {Pg : Program} {w : World} {mg : Str → Option Value} {base : Heap} {φ : Str → Option Int → Prop}
theorem evl_allR2 (ha : EvL K c P ta a) (hb : EvL K c P tb b) (hx : X.prog = Pg ∧ X.w = w ∧ X.K = K ∧ X.mg = mg ∧ X.base = base := by exact ⟨rfl, rfl, rfl, rfl, rfl⟩) : EvL K c P (tLC X ((F_allR Pg w K mg base c k φ).sp K c) (tCons ta (tCons tb tNil))) (.allR K c X k φ a b) := by
  obtain ⟨rfl, rfl, rfl, rfl, rfl⟩ := hx
  exact evl_allR ha hb
/-- an __init__ that raises -/
def XF.spI (K : PySem.W.Frag) (c : Cl) (F : XF) : Sp := fun vs H Q E => ∃ (y : Addr) (us : List V), vs = .ref y :: us ∧ F.spx K c us H Q E
abbrev XF.ini (F : XF) : XF := ⟨Addr × F.α, F.n + 1, fun a => .adr a.1 :: F.args a.2, fun a => F.pre a.2, fun a w => F.post a.2 w, fun a => by rw [List.length_cons, F.hn]⟩
theorem spI_of {F : XF} : ∀ vs H Q E, F.spI K c vs H Q E → F.ini.spx K c vs H Q E := fun vs H Q E ⟨y, us, e, a, h, x, z, p, k1, k2⟩ => by
  subst e
  exact ⟨(y, a), h, x, .cons rfl z, p, k1, k2⟩
theorem ixI_of {C f : Addr} {x : Str} {k : Nat} {ps : List Str} {F : XF} (t : Mk K C f) (hm : mg x = some (.ref C)) (o : ∃ fd, FnOk Pg w K mg base (L2.CX Pg w) k f fd ps (F.ini.spx K c) ∧ Binds K fd ps []) : IxX Pg w K mg base k x C (F.spI K c) := by
  obtain ⟨fd, G, b⟩ := o
  exact ix_ofX t hm ⟨fd, G.imp spI_of, b⟩
theorem evx_mkE {E : XK} {C : Addr} {F : XF} {tr : TA} {ar : XA} (hx : ∀ a w, F.pre a → F.post a w → ∃ n i, w = .exc n i) (ha : EA K c tr ar) : EvX K c E (StX.tMakeR C (F.spI K c) E tr) (.call F ar) := fun ρ Q q σ h H n ee R k kx =>
  ha ρ _ q σ h H n ee _ fun ws vs h1 H1 ⟨a, ew, pa, ka⟩ s1 p1 => by
    subst ew
    intro y dx ny nd ne
    have eH : Ex H1 (upd (upd H1 dx (.own y)) y (.ins C dx [])) := fun b o z => by rw [upd_ne (ne_of_none z ny), upd_ne (ne_of_none z nd)]; exact z
    have s2 : Stp h1 H1 h1 (upd (upd H1 dx (.own y)) y (.ins C dx [])) := ⟨Exq.of eH, fun _ _ z => z, fun b o z => eH b o (s1.i b o z), fun _ _ _ z _ => z⟩
    refine ⟨y, vs, rfl, a, h1, s2.i, p1, pa, fun v h' H' st ⟨w, pw, vw⟩ => ?_, fun n i cls d h' H' st pw xo => kx n i cls d h' H' ((s1.trans s2).trans st) (ka _ pw) xo⟩
    obtain ⟨n, i, rfl⟩ := hx a w pa pw
    exact (show False from vw).elim
end
/-! ### the classes' facts, checked -/
def oexB (K : PySem.W.Frag) (C : Addr) : Bool := (match K.lookup C with
  | some ⟨.type "type", _, .cls cd, sl⟩ => (match cd.mro, sl.toList with
    | .ref D :: rest, [_, _, _, _, some (.builtin n), _] => D == C && (n == "ValueError.__new__" && (!cd.hasDel && (cd.hasDict && PySem.HandSPX.refsVE rest)))
    | _, _ => false)
  | _ => false) && (decide (PySem.W.findIn K (.ref C) "__setattr__" = some (some (.builtin "object.__setattr__"))) && (decide (PySem.W.subIn K (.ref C) (.type "BaseException") = some true) && (decide (PySem.W.typeIn K (.ref C) = some (.type "type")) && PySem.W.keepIn K (.ref C))))
theorem oexB_ok {K : PySem.W.Frag} {C : Addr} (h : oexB K C = true) : OexC K C := by
  unfold oexB at h
  obtain ⟨h1, h⟩ := Bool.and_eq_true_iff.mp h
  obtain ⟨h2, h⟩ := Bool.and_eq_true_iff.mp h
  obtain ⟨h3, h⟩ := Bool.and_eq_true_iff.mp h
  obtain ⟨h4, h5⟩ := Bool.and_eq_true_iff.mp h
  refine ⟨?_, of_decide_eq_true h2, of_decide_eq_true h3, of_decide_eq_true h4, h5⟩
  split at h1
  · rename_i dd cd sl ho
    split at h1
    · rename_i D rest e0 e1 e2 e3 n e5 hm hs
      obtain ⟨g1, h1⟩ := Bool.and_eq_true_iff.mp h1
      obtain ⟨g2, h1⟩ := Bool.and_eq_true_iff.mp h1
      obtain ⟨g3, h1⟩ := Bool.and_eq_true_iff.mp h1
      obtain ⟨g4, g5⟩ := Bool.and_eq_true_iff.mp h1
      obtain rfl := beq_iff_eq.mp g1
      obtain rfl := beq_iff_eq.mp g2
      replace g3 : cd.hasDel = false := by simpa using g3
      obtain ⟨a1, a2, a3, a4, a5, a6, a7, a8, a9, a10, a11⟩ := cd
      dsimp only at hm g3 g4
      subst hm g3 g4
      have es : sl = #[e0, e1, e2, e3, some (.builtin "ValueError.__new__"), e5] := by
        obtain ⟨l⟩ := sl
        have hs : l = _ := hs
        rw [hs]
      subst es
      exact ⟨_, _, _, _, rest, _, _, _, _, _, _, _, _, _, _, ho, g5⟩
    · cases h1
  · cases h1
def supB (K : PySem.W.Frag) (C f : Addr) (y : Str) : Bool := oexB K C && (decide (PySem.W.findIn K (.ref C) y = some none) && ((PySem.W.clsIn K C).isSome && (decide (PySem.W.mroIn K C (.ref C) = some true) && (decide (PySem.W.nsIn K mainGlobals "super" = some none) && (decide (PySem.W.nsIn K cStatics "thirdparty.any" = some none) &&
  (decide (PySem.W.ks_superIn K C C "__init__" = some (some (.builtin "ValueError.__init__"))) && (decide (PySem.W.subIn K (.ref C) (.type "ValueError") = some true) && (decide (PySem.W.findIn K (.ref C) "__init__" = some (some (.ref f))) && decide (PySem.W.typeIn K (.ref f) = some (.type "function"))))))))))
theorem supC_of {P : Program} {K : PySem.W.Frag} {C f : Addr} {y m : Str} {st : Stmt} (h : supB K C f y = true) (top : (P.main.scope.names.lookup ("super" : Str)).isSome = false)
    {oc kV doc pm ct ccl cl : Value} {od an cdd cld : Option Addr} {osl ccs csl : Array (Option Value)} {qual : Str} {cda cc : Addr} {vs : Array Value} {file : Str} {tf : Tok}
    (a : K.lookup f = some ⟨oc, od, .func (PySem.W.ksFn "__init__" qual (defArgs st) (defBody st) (defScope st) .none kV doc pm an (.ref cda) ct cc), osl⟩) (b : PySem.W.codeIn K (.ref cda) qual = true) (d : K.lookup cda = some ⟨ccl, cdd, .fields vs, ccs⟩) (e : vs[2]? = some (.str file tf)) (g : ((P.main.file : Str) == file) = true)
    (i : K.lookup cc = some ⟨cl, cld, .cell (some (.ref C)), csl⟩) : SupC P K C f y m st := by
  obtain ⟨h1, h⟩ := Bool.and_eq_true_iff.mp h
  obtain ⟨h2, h⟩ := Bool.and_eq_true_iff.mp h
  obtain ⟨h3, h⟩ := Bool.and_eq_true_iff.mp h
  obtain ⟨h4, h⟩ := Bool.and_eq_true_iff.mp h
  obtain ⟨h5, h⟩ := Bool.and_eq_true_iff.mp h
  obtain ⟨h6, h⟩ := Bool.and_eq_true_iff.mp h
  obtain ⟨h7, h⟩ := Bool.and_eq_true_iff.mp h
  obtain ⟨h8, h⟩ := Bool.and_eq_true_iff.mp h
  obtain ⟨h9, h10⟩ := Bool.and_eq_true_iff.mp h
  exact ⟨oexB_ok h1, of_decide_eq_true h2, ⟨oc, kV, doc, pm, ct, ccl, cl, od, an, cdd, cld, osl, ccs, csl, qual, cda, cc, vs, file, tf, a, b, d, e, g, i⟩, Option.isSome_iff_exists.mp h3, of_decide_eq_true h4, of_decide_eq_true h5, of_decide_eq_true h6, of_decide_eq_true h7, of_decide_eq_true h8, of_decide_eq_true h9, of_decide_eq_true h10, top⟩
def runXD := @d_raiI
end Z

namespace Z
open PySem PySem.Spec L2 PyProof.Rows
/-! ### a call of an instance, told without the frame it runs in (so that a closure may hold it) -/
def tCallR (C : Addr) (sp : Sp) (E : XK) (tf : TE) (t : TA) : TE := fun σ H Q => tf σ H fun y H1 => ∃ a, y = V.ref a ∧ t σ H1 fun vs H2 => (∃ dx fs, H2 a = some (.ins C dx fs)) ∧ sp (V.ref a :: vs) H2 Q E
section
variable {X : Cx} {k j : Nat} {x : Str} {sp : Sp} {E : XK} {p pos : Pos} {e o : Expr} {es : List Expr} {t : TA} {ta tb : TE} {C : Addr} {m : Str}
theorem pe_cOXr (c : MxX X.prog X.w X.K X.mg X.base k C "__call__" sp) (hr : Room j X.A) (hk : k ≤ j) (hx : Passes (L2.CX X.prog X.w) X E) (hf : PE X o ta) (ha : PA X (e :: es) t)
    (ht : eval (.Call o (e :: es) [] pos) X.env = (do callWith pos (← eval o X.env) [] (backTo pos (starEach (e :: es) X.env)) (backToKw pos (keywordEach [] X.env))) := by rfl)
    (he : starEach (e :: es) X.env = (false, eval e X.env) :: starEach es X.env := by rfl) (hpl : (backTo pos (starEach es X.env)).any (·.1) = false := by rfl) : PE X (.Call o (e :: es) [] pos) (tCallR C sp E ta t) := by
  obtain ⟨f, a, b, d, F⟩ := c.ex
  refine ⟨fun pins s σ H Q I h => Call_ (thn (hf.run pins s σ H _ I h) fun u s1 ⟨y, H1, I1, ry, a', ey, q⟩ => ?_) ht⟩
  subst ey
  obtain rfl : u = Value.ref a' := ry
  refine StX.callO_with (thn (ha.run pos pins s1 σ H1 _ I1 q) fun us s2 ⟨vs, H2, I2, r, hi, q2⟩ => ?_) he hpl
  have hi : StX.InsC X H2 a' C := .inr hi
  obtain ⟨ox, od, J, hd⟩ := StX.insC_at I2 hi
  exact ⟨⟨C, ox, od, J, hd⟩, StX.run_callO ⟨a, b, d⟩ F (hr.mono hk) hx I2 hi r q2⟩
end
section
variable {K : PySem.W.Frag} {c : Cl} {E : XK} {ta : TE} {tr : TA} {a : XE} {ar : XA}
theorem evx_callOr {k : Bool} {F : XF} (ha : Ev K c ta a) (hr : EA K c tr ar) : EvX K c E (tCallR (c.at k) (F.spx K c) E ta tr) (.callO k F a ar) := fun ρ Q q σ h H nn ee R kk kx => ha ρ _ q σ h H nn ee _ fun v h1 H1 s1 ⟨w, ⟨i, qw⟩, pw⟩ => by
  obtain ⟨o, dx, fs, rfl, ho⟩ := is_ins i pw
  refine ⟨o, rfl, hr ρ _ qw σ h1 H1 (nn.mono s1.s) s1.i _ fun ws vs h2 H2 q2 s2 p2 => ⟨⟨dx, fs, s2.e _ _ (s1.i _ _ ho)⟩, ?_⟩⟩
  exact spx_run q2 s2.i (.cons ((w.p K c).mono s2.s pw) p2) (fun v h3 H3 s3 z => kk v h3 H3 ((s1.trans s2).trans s3) z) fun m i cls d h3 H3 s3 z x => kx m i cls d h3 H3 ((s1.trans s2).trans s3) z x
end
/-! ### lists of closures that grow -/
section
variable {K : PySem.W.Frag} {c : Cl} {P : Addr} {ta : TE} {tr : TA} {a : XE} {ar : XA}
end
/-! ### texts put together of texts and whole numbers -/
inductive JP where
  | s (m : Str)
  | v (a : XE)
def jnF : List JP → Sl → Prop → Prop
  | [], _, R => R
  | .s m :: r, ρ, R => m.length ≤ 200 ∧ jnF r ρ R
  | .v a :: r, ρ, R => a.f ρ fun w => ∃ i, w = .int i ∧ i.natAbs < 10 ^ 25 ∧ jnF r ρ R
theorem jnF_m {R S : Prop} (k : R → S) : ∀ (js : List JP) (ρ : Sl), jnF js ρ R → jnF js ρ S
  | [], _, h => k h
  | .s _ :: r, ρ, ⟨a, h⟩ => ⟨a, jnF_m k r ρ h⟩
  | .v a :: r, ρ, h => a.m (fun _ ⟨i, e, l, z⟩ => ⟨i, e, l, jnF_m k r ρ z⟩) h
def XE.jn (js : List JP) : XE := ⟨fun ρ Q => js.length ≤ 20 ∧ jnF js ρ (∀ s, Q (.str s)), fun k ⟨l, q⟩ => ⟨l, jnF_m (fun z s => k _ (z s)) _ _ q⟩⟩
section
variable {K : PySem.W.Frag} {c : Cl} {ta : TE} {a : XE} {ts : List TE} {js : List JP}
theorem d_jn {ρ : Sl} {Q : W → Prop} : ((XE.jn js).f ρ Q) = (js.length ≤ 20 ∧ jnF js ρ (∀ s, Q (.str s))) := rfl
theorem jnF_nil {ρ : Sl} {R : Prop} : jnF [] ρ R = R := rfl
theorem jnF_s {ρ : Sl} {R : Prop} {m : Str} : jnF (.s m :: js) ρ R = (m.length ≤ 200 ∧ jnF js ρ R) := rfl
theorem jnF_v {ρ : Sl} {R : Prop} : jnF (.v a :: js) ρ R = (a.f ρ fun w => onI w fun i => i.natAbs < 10 ^ 25 ∧ jnF js ρ R) := rfl
end
/-! ### {} and {} -/
section
variable {X : Cx}
end
def XO.neD0 : XO := ⟨fun x y Q => x = .dct [] ∧ y = .dct [] ∧ Q (.bl false), fun k ⟨a, b, q⟩ => ⟨a, b, k _ q⟩⟩
theorem d_oneD0 {x y : W} {Q : W → Prop} : (XO.neD0.f x y Q) = (onD x fun al => onD y fun bl => al = [] ∧ bl = [] ∧ Q (.bl false)) := propext ⟨fun ⟨a, b, q⟩ => ⟨_, a, _, b, rfl, rfl, q⟩, fun ⟨al, a, bl, b, z1, z2, q⟩ => by subst z1 z2; exact ⟨a, b, q⟩⟩
/-! ### f(..).append(x), the list a new one -/
section
variable {K : PySem.W.Frag} {c : Cl} {ta tx : TE} {a x : XE}
def XS.dropAppN (a x : XE) : XS := ⟨fun φ κ => φ.m = none ∧ a.f φ.s fun w => ∃ xs, w = .lst xs ∧ xs.length < 100000 ∧ x.f (φ.s.map fun _ => none) fun _ => κ.nx φ, fun k ⟨o, q⟩ => ⟨o, a.m (fun _ ⟨xs, e, l, z⟩ => ⟨xs, e, l, x.m (fun _ y => k.nx _ y) z⟩) q⟩⟩
theorem d_dropAppN {s : Sl} {κ : Ko} : ((XS.dropAppN a x).f ⟨s, none⟩ κ) = (a.f s fun w => onL w fun xs => xs.length < 100000 ∧ x.f (s.map fun _ => none) fun _ => κ.nx ⟨s, none⟩) := propext ⟨fun ⟨_, q⟩ => q, fun q => ⟨rfl, q⟩⟩
end
/-! ### a def that stands under another name -/
structure DnA (K : PySem.W.Frag) (mg : Str → Option Value) (x m : Str) (st : Stmt) (ps : List Str) : Prop where
  ex : ∃ f fd, L2.Fun K m m st f fd ∧ mg x = some (.ref f) ∧ Binds K fd ps []
section
variable {P : Program} {w : World} {K : PySem.W.Frag} {mg : Str → Option Value} {base : Heap} {c : Cl}
theorem DnA.run {F : XF} {x m : Str} {st : Stmt} {ps N : List Str} {k : Nat} {s : XS} (d : DnA K mg x m st ps) (S : FnScope N ps (defScope st)) (hn : F.n = ps.length)
    (hb : ∀ (a : F.α) (Q : W → Prop), F.pre a → (∀ w, F.post a w → Q w) → s.whole (F.args a) (N.length - ps.length) Q)
    (ht : ∀ (f : Addr) (cdv : Value) (A : Around) (outer : List Env) (sh : Shared) (H : Hp) (E : XK), Room k (A.deeper (PyProof.Rows.envOfC m (defScope st) sh.heap.objs.size f cdv)) → ∃ t : TS, PSs (cxOf CX0 P w K mg base N m (defScope st) f cdv A outer sh H E).nox (defBody st) t ∧ ES K c t s) :
    Fx P w K mg base (k + 1) x (F.sp K c) := by
  obtain ⟨f, fd, F', hm, hb'⟩ := d.ex
  exact ⟨f, hm, F'.kp, raw0 (fun_run F' S hn hb fun cdv A outer sh H E => ht f cdv A outer sh H E) hb'⟩
theorem DnA.runX {F : XF} {x m : Str} {st : Stmt} {ps N : List Str} {k : Nat} {s : XS} (d : DnA K mg x m st ps) (S : FnScope N ps (defScope st)) (hn : F.n = ps.length)
    (hb : ∀ (a : F.α) (Q : W → Prop), F.pre a → (∀ w, F.post a w → Q w) → s.whole (F.args a) (N.length - ps.length) Q)
    (ht : ∀ (f : Addr) (cdv : Value) (A : Around) (outer : List Env) (sh : Shared) (H : Hp) (E : XK), Room k (A.deeper (PyProof.Rows.envOfC m (defScope st) sh.heap.objs.size f cdv)) → ∃ t : TS, PSs (cxOf (L2.CX P w) P w K mg base N m (defScope st) f cdv A outer sh H E) (defBody st) t ∧ ESX K c (jE c E) t s) :
    FxX P w K mg base (k + 1) x (F.spx K c) := by
  obtain ⟨f, fd, F', hm, hb'⟩ := d.ex
  exact ⟨f, hm, F'.kp, rawX (fun_runX F' S hn hb fun cdv A outer sh H E => ht f cdv A outer sh H E) hb'⟩
end
def runXJ := And.intro (@d_jn) (And.intro (@jnF_nil) (And.intro (@jnF_s) (And.intro (@jnF_v) (And.intro (@d_oneD0) (@d_dropAppN)))))
end Z

namespace Pf
open PySem L2 Z PyProof.Rows
def isPl (p : Int) : Bool := decide (-1000000 ≤ p) && decide (p ≤ 1000000)
theorem isPl_of {p : Int} (h : -1000000 ≤ p ∧ p ≤ 1000000) : isPl p = true := by simp [isPl, h.1, h.2]
theorem getD_mem {xs : List Int} {i : Nat} (h : i < xs.length) : xs.getD i 0 ∈ xs := by
  rw [List.getD_eq_getElem?_getD, List.getElem?_eq_getElem h]; exact List.getElem_mem h
-- from t_mem2.lean
def btw (p i j : Int) : Bool := decide (min i j < p) && decide (p < max i j)
def fitB (ps : List Int) (i : Nat) : Bool := isPl (ps.getD i 0) && (if i = 0 then decide (ps.getD 0 0 ≤ 0) else if i = 1 then decide (ps.getD 0 0 < ps.getD 1 0) else btw (ps.getD i 0) (ps.getD (i - 2) 0) (ps.getD (i - 1) 0))
def okMem (ps : List Int) : Prop := ps ≠ [] ∧ ps.length ≤ 5000 ∧ ∀ i, i < ps.length → fitB ps i = true
def runL (p : Int) : List Int → Nat
  | a :: b :: r => if btw p a b = true then runL p (b :: r) + 1 else 0
  | _ => 0
theorem runL_lt (p : Int) : ∀ ps : List Int, ps ≠ [] → runL p ps + 1 ≤ ps.length
  | [], h => absurd rfl h
  | [a], _ => Nat.le_refl _
  | a :: b :: r, _ => by
    unfold runL
    have := runL_lt p (b :: r) (List.cons_ne_nil _ _)
    split
    · simp only [List.length_cons] at this ⊢; omega
    · simp
def aft (ps : List Int) (p : Int) : List Int := if p ≤ ps.getD 0 0 then [p] else ps.take (runL p ps + 1) ++ [p]
theorem aft_len (ps : List Int) (p : Int) (h : ps ≠ []) : (aft ps p).length ≤ ps.length + 1 ∧ aft ps p ≠ [] := by
  unfold aft
  split
  · exact ⟨by have := List.length_pos_iff.mpr h; simp, by simp⟩
  · exact ⟨by rw [List.length_append, List.length_take]; simp; omega, by simp⟩
theorem runL_step {p : Int} {ps : List Int} {g : Nat} (h1 : 1 ≤ g) (h2 : g < ps.length) : runL p (ps.drop (g - 1)) = if btw p (ps.getD (g - 1) 0) (ps.getD g 0) = true then runL p (ps.drop g) + 1 else 0 := by
  have e1 : ps.drop (g - 1) = ps[g - 1] :: ps.drop g := by
    rw [List.drop_eq_getElem_cons (by omega)]
    congr 2; omega
  have e2 : ps.drop g = ps[g] :: ps.drop (g + 1) := List.drop_eq_getElem_cons h2
  rw [e1, e2]
  have a1 : ps.getD (g - 1) 0 = ps[g - 1] := by rw [List.getD_eq_getElem?_getD, List.getElem?_eq_getElem (by omega)]; rfl
  have a2 : ps.getD g 0 = ps[g] := by rw [List.getD_eq_getElem?_getD, List.getElem?_eq_getElem h2]; rfl
  rw [a1, a2]
  rfl
theorem getD_some {ps : List Int} {i : Nat} (h : i < ps.length) : ps[i]? = some (ps.getD i 0) := by
  rw [List.getD_eq_getElem?_getD, List.getElem?_eq_getElem h]; rfl
theorem at_getD {ps : List Int} {i : Nat} (h : i < ps.length) : atI ps (i : Int) = some (ps.getD i 0) := atI_nat (getD_some h)
-- from t_mem4.lean
def leB (lo : Bool) (a b : Int) : Prop := if lo = true then a ≤ b else b ≤ a
/-- ms is the memory of the places xs, the lowest (highest) first -/
inductive Mean : Bool → List Int → List Int → Prop
  | last {lo : Bool} {E : Int} (a : List Int) (h : ∀ y ∈ a, leB lo E y) : Mean lo (a ++ [E]) [E]
  | more {lo : Bool} {E : Int} {t ms : List Int} (a : List Int) (h : ∀ y ∈ a, leB lo E y) (h2 : ∀ y ∈ t, ¬ leB lo y E) (ne : t ≠ []) (m : Mean (!lo) (E :: t) ms) : Mean lo (a ++ E :: t) (E :: ms)
theorem leB_trans {lo : Bool} {a b c : Int} (h : leB lo a b) (k : leB lo b c) : leB lo a c := by
  cases lo <;> simp [leB] at * <;> omega
theorem leB_not {lo : Bool} {a b : Int} (h : ¬ leB lo a b) : leB (!lo) a b ∧ leB lo b a := by
  cases lo <;> simp [leB] at * <;> omega
theorem leB_rfl {lo : Bool} {a : Int} : leB lo a a := by cases lo <;> simp [leB]
theorem Mean.head {lo : Bool} {xs ms : List Int} (m : Mean lo xs ms) : ∃ F r, ms = F :: r ∧ ∀ y ∈ xs, leB lo F y := by
  cases m with
  | @last lo E a h =>
    refine ⟨E, [], rfl, fun y hy => ?_⟩
    rcases List.mem_append.mp hy with q | q
    · exact h y q
    · rw [List.mem_singleton.mp q]; exact leB_rfl
  | @more lo E t ms a h h2 ne m =>
    refine ⟨E, ms, rfl, fun y hy => ?_⟩
    rcases List.mem_append.mp hy with q | q
    · exact h y q
    · rcases List.mem_cons.mp q with q | q
      · rw [q]; exact leB_rfl
      · exact (leB_not (h2 y q)).2
def updL (lo : Bool) (ms : List Int) (p : Int) : List Int := if (if lo = true then decide (p ≤ ms.getD 0 0) else decide (ms.getD 0 0 ≤ p)) = true then [p] else ms.take (runL p ms + 1) ++ [p]
theorem updL_yes {lo : Bool} {E p : Int} {r : List Int} (h : leB lo p E) : updL lo (E :: r) p = [p] := by
  unfold updL
  refine if_pos ?_
  cases lo <;> simp [leB] at * <;> exact h
theorem updL_no {lo : Bool} {E p : Int} {r : List Int} (h : ¬ leB lo p E) : updL lo (E :: r) p = (E :: r).take (runL p (E :: r) + 1) ++ [p] := by
  unfold updL
  refine if_neg ?_
  cases lo <;> simp [leB] at * <;> exact h
theorem Mean.upd {p : Int} : ∀ {lo : Bool} {xs ms : List Int}, Mean lo xs ms → Mean lo (xs ++ [p]) (updL lo ms p) := by
  intro lo xs ms m
  induction m with
  | @last lo E a h =>
    by_cases c : leB lo p E
    · rw [updL_yes c]
      refine Mean.last (a ++ [E]) fun y hy => ?_
      rcases List.mem_append.mp hy with q | q
      · exact leB_trans c (h y q)
      · rw [List.mem_singleton.mp q]; exact c
    · rw [updL_no c, List.append_assoc]
      refine Mean.more (t := [p]) (ms := [p]) a h (fun y hy => ?_) (by simp) ?_
      · rw [List.mem_singleton.mp hy]; exact c
      · refine Mean.last [E] fun y hy => ?_
        rw [List.mem_singleton.mp hy]; exact (leB_not c).1
  | @more lo E t ms a h h2 ne m ih =>
    by_cases c : leB lo p E
    · rw [updL_yes c]
      refine Mean.last (a ++ E :: t) fun y hy => ?_
      rcases List.mem_append.mp hy with q | q
      · exact leB_trans c (h y q)
      · rcases List.mem_cons.mp q with q | q
        · rw [q]; exact c
        · exact leB_trans c (leB_not (h2 y q)).2
    · have e : updL lo (E :: ms) p = E :: updL (!lo) ms p := by
        rw [updL_no c]
        obtain ⟨F, r, rfl, hF⟩ := m.head
        have hE : leB (!lo) F E := hF E List.mem_cons_self
        by_cases c2 : leB (!lo) p F
        · rw [updL_yes c2]
          have : btw p E F = false := by
            unfold btw
            cases lo <;> simp [leB] at * <;> omega
          have r0 : runL p (E :: F :: r) = 0 := by
            show (if btw p E F = true then _ else 0) = 0
            rw [this]; simp
          rw [r0]; rfl
        · rw [updL_no c2]
          have : btw p E F = true := by
            unfold btw
            cases lo <;> simp [leB] at * <;> omega
          have r1 : runL p (E :: F :: r) = runL p (F :: r) + 1 := by
            show (if btw p E F = true then _ else 0) = _
            rw [if_pos this]
          rw [r1]; rfl
      rw [e, List.append_assoc]
      refine Mean.more (t := t ++ [p]) a h (fun y hy => ?_) (by simp) ih
      rcases List.mem_append.mp hy with q | q
      · exact h2 y q
      · rw [List.mem_singleton.mp q]; exact c
def memF (row : List Int) : List Int := row.foldl aft [0]
theorem aft_updL (ms : List Int) (p : Int) : aft ms p = updL true ms p := by
  unfold aft updL
  simp
theorem mean_fold : ∀ (row xs ms : List Int), Mean true xs ms → Mean true (xs ++ row) (row.foldl aft ms)
  | [], xs, ms, m => by rw [List.append_nil]; exact m
  | p :: row, xs, ms, m => by
    have := mean_fold row (xs ++ [p]) (aft ms p) (by rw [aft_updL]; exact m.upd)
    rw [List.append_assoc] at this
    exact this
theorem mean_mem (row : List Int) : Mean true (0 :: row) (memF row) := mean_fold row [0] [0] (Mean.last [] (by simp))
theorem getD_take {ps : List Int} {n i : Nat} (h : i < n) : (ps.take n).getD i 0 = ps.getD i 0 := by
  rw [List.getD_eq_getElem?_getD, List.getD_eq_getElem?_getD, List.getElem?_take_of_lt h]
theorem getD_app {xs ys : List Int} {i : Nat} (h : i < xs.length) : (xs ++ ys).getD i 0 = xs.getD i 0 := by
  rw [List.getD_eq_getElem?_getD, List.getD_eq_getElem?_getD, List.getElem?_append_left h]
theorem runL_btw {p : Int} : ∀ {ps : List Int} {j : Nat}, j < runL p ps → btw p (ps.getD j 0) (ps.getD (j + 1) 0) = true
  | [], j, h => by simp [runL] at h
  | [a], j, h => by simp [runL] at h
  | a :: c :: r, j, h => by
    unfold runL at h
    by_cases e : btw p a c = true
    · rw [if_pos e] at h
      cases j with
      | zero => exact e
      | succ j => exact runL_btw (ps := c :: r) (j := j) (by omega)
    · rw [if_neg e] at h; omega
theorem fitB_pre {ps qs : List Int} {i : Nat} (h : ∀ j, j ≤ i → qs.getD j 0 = ps.getD j 0) : fitB qs i = fitB ps i := by
  unfold fitB
  by_cases h0 : i = 0
  · subst h0; rw [if_pos rfl, if_pos rfl, h 0 (Nat.le_refl _)]
  · by_cases h1 : i = 1
    · subst h1; rw [if_neg h0, if_neg h0, if_pos rfl, if_pos rfl, h 0 (by omega), h 1 (Nat.le_refl _)]
    · rw [if_neg h0, if_neg h0, if_neg h1, if_neg h1, h i (Nat.le_refl _), h (i - 2) (by omega), h (i - 1) (by omega)]
theorem okMem_aft {ps : List Int} {p : Int} (ok : okMem ps) (hp : isPl p = true) (hl : ps.length < 5000) : okMem (aft ps p) := by
  obtain ⟨ne, _, fit⟩ := ok
  have l := aft_len ps p ne
  refine ⟨l.2, by omega, fun i hi => ?_⟩
  have h0 : 0 < ps.length := List.length_pos_iff.mpr ne
  have f0 := fit 0 h0
  unfold aft at hi ⊢
  by_cases c : p ≤ ps.getD 0 0
  · rw [if_pos c] at hi ⊢
    have : i = 0 := by simpa using hi
    subst this
    have q : ps.getD 0 0 ≤ 0 := by
      unfold fitB at f0
      rw [if_pos rfl, Bool.and_eq_true] at f0
      exact of_decide_eq_true f0.2
    unfold fitB
    rw [if_pos rfl]
    show (isPl p && decide (p ≤ 0)) = true
    rw [hp, decide_eq_true (Int.le_trans c q)]; rfl
  · rw [if_neg c] at hi ⊢
    have rl := runL_lt p ps ne
    have lt : (ps.take (runL p ps + 1)).length = runL p ps + 1 := by rw [List.length_take]; omega
    rw [List.length_append, lt, List.length_singleton] at hi
    by_cases hlast : i = runL p ps + 1
    · subst hlast
      have e1 : (ps.take (runL p ps + 1) ++ [p]).getD (runL p ps + 1) 0 = p := by
        rw [List.getD_eq_getElem?_getD, List.getElem?_append_right (by omega), lt, Nat.sub_self]; rfl
      have e2 : ∀ j, j ≤ runL p ps → (ps.take (runL p ps + 1) ++ [p]).getD j 0 = ps.getD j 0 := fun j hj => by
        rw [getD_app (by omega), getD_take (by omega)]
      unfold fitB
      rw [e1, hp, Bool.true_and, if_neg (by omega)]
      by_cases h1 : runL p ps = 0
      · rw [if_pos (by omega), e2 0 (by omega)]
        have : (ps.take (runL p ps + 1) ++ [p]).getD 1 0 = p := by
          have := e1
          rw [h1] at this ⊢
          exact this
        rw [this]
        exact decide_eq_true (by omega)
      · rw [if_neg (by omega), e2 _ (by omega), e2 _ (by omega)]
        have := runL_btw (p := p) (ps := ps) (j := runL p ps - 1) (by omega)
        have a1 : runL p ps + 1 - 2 = runL p ps - 1 := by omega
        have a2 : runL p ps + 1 - 1 = runL p ps - 1 + 1 := by omega
        rw [a1, a2]
        exact this
    · have hi' : i < ps.length := by omega
      rw [fitB_pre (ps := ps) fun j hj => by rw [getD_app (by omega), getD_take (by omega)]]
      exact fit i hi'
theorem okMem_zero : okMem [0] := ⟨by simp, by simp, fun i hi => by
  have : i = 0 := by simpa using hi
  subst this; decide⟩
theorem okMem_fold : ∀ (row ps : List Int), okMem ps → (∀ x ∈ row, isPl x = true) → ps.length + row.length ≤ 5000 → okMem (row.foldl aft ps) ∧ (row.foldl aft ps).length ≤ ps.length + row.length
  | [], ps, ok, _, _ => ⟨ok, by simp⟩
  | p :: row, ps, ok, hp, hl => by
    rw [List.length_cons] at hl
    have l := aft_len ps p ok.1
    have := okMem_fold row (aft ps p) (okMem_aft ok (hp p List.mem_cons_self) (by omega)) (fun x hx => hp x (List.mem_cons_of_mem _ hx)) (by omega)
    refine ⟨this.1, ?_⟩
    have := this.2
    show (row.foldl aft (aft ps p)).length ≤ _
    rw [List.length_cons]
    omega
theorem okMem_memF {row : List Int} (hp : ∀ x ∈ row, isPl x = true) (hl : row.length ≤ 4000) : okMem (memF row) ∧ (memF row).length ≤ row.length + 1 := by
  have := okMem_fold row [0] okMem_zero hp (by simp; omega)
  refine ⟨this.1, ?_⟩
  have := this.2
  show (row.foldl aft [0]).length ≤ _
  simp at this ⊢
  omega
-- from t_mem5.lean
-- from t_mean.lean
theorem Mean.ne {lo : Bool} {xs ms : List Int} (M : Mean lo xs ms) : xs ≠ [] := by cases M <;> simp
-- from t_min.lean
theorem leB_total {lo : Bool} {a b : Int} : leB lo a b ∨ leB lo b a := by
  cases lo <;> simp [leB] <;> omega
theorem Mean.drop1 {lo : Bool} {E : Int} {t ms : List Int} (M : Mean lo (E :: t) ms) (ne : t ≠ []) (h : ∀ y ∈ t, ¬ leB lo E y) : Mean lo t ms := by
  generalize hxs : E :: t = xs at M
  cases M with
  | @last lo F a h' =>
    cases a with
    | nil =>
      cases hxs
      exact absurd rfl ne
    | cons a0 a =>
      have e1 : t = a ++ [F] := (List.cons.inj hxs).2
      subst e1
      exact Mean.last a fun y hy => h' y (List.mem_cons_of_mem _ hy)
  | @more lo F t' ms a h' h2 ne' M =>
    cases a with
    | nil =>
      cases hxs
      obtain ⟨y, hy⟩ := List.exists_mem_of_ne_nil t ne
      rcases leB_total (lo := lo) (a := E) (b := y) with q | q
      · exact absurd q (h y hy)
      · exact absurd q (h2 y hy)
    | cons a0 a =>
      have e1 : t = a ++ F :: t' := (List.cons.inj hxs).2
      subst e1
      exact Mean.more a (fun y hy => h' y (List.mem_cons_of_mem _ hy)) h2 ne' M
theorem Mean.pre {lo : Bool} {x : Int} {xs ms : List Int} (M : Mean lo xs ms) (h : ∀ F r, ms = F :: r → leB lo F x) : Mean lo (x :: xs) ms := by
  cases M with
  | @last lo F a h' =>
    refine Mean.last (x :: a) fun y hy => ?_
    rcases List.mem_cons.mp hy with q | q
    · rw [q]; exact h _ _ rfl
    · exact h' y q
  | @more lo F t' ms a h' h2 ne' M =>
    refine Mean.more (x :: a) (fun y hy => ?_) h2 ne' M
    rcases List.mem_cons.mp hy with q | q
    · rw [q]; exact h _ _ rfl
    · exact h' y q
theorem Mean.next {lo : Bool} {E : Int} {t ms : List Int} (M : Mean (!lo) (E :: t) ms) (ne : t ≠ []) (h2 : ∀ y ∈ t, ¬ leB lo y E) : Mean (!lo) t ms := M.drop1 ne fun y hy => by
  have := h2 y hy
  cases lo <;> simp [leB] at * <;> omega
theorem Mean.sub : ∀ {ms : List Int} {lo : Bool} {xs : List Int}, Mean lo xs ms → ms.Sublist xs
  | [], lo, xs, M => List.nil_sublist _
  | E :: ms, lo, xs, M => by
    cases M with
    | last a h => exact List.sublist_append_right a [E]
    | more a h h2 ne M => exact (((M.next ne h2).sub).cons₂ E).trans (List.sublist_append_right a _)
theorem Mean.self : ∀ {ms : List Int} {lo : Bool} {xs : List Int}, Mean lo xs ms → Mean lo ms ms
  | [], lo, xs, M => by cases M
  | E :: ms, lo, xs, M => by
    cases M with
    | last a h => exact Mean.last [] (by simp)
    | @more _ _ t _ a h h2 ne M =>
      obtain ⟨F, r, rfl, hF⟩ := M.head
      exact Mean.more [] (by simp) (fun y hy => h2 y ((M.next ne h2).sub.subset hy)) (by simp) (M.self.pre fun F' r' e => by
        cases e
        exact hF E List.mem_cons_self)
theorem memF_head (row : List Int) : ∃ F r, memF row = F :: r ∧ F ≤ 0 := by
  obtain ⟨F, r, e, h⟩ := (mean_mem row).head
  refine ⟨F, r, e, ?_⟩
  have := h 0 List.mem_cons_self
  simpa [leB] using this
-- from t_rig1.lean
def okA (arms : List (Int × Int)) : Prop := arms.length ≤ 60 ∧ ∀ a ∈ arms, a.1 ≤ 999 ∧ -1000000 ≤ a.2 ∧ a.2 ≤ 1000000
def rodSt (s e x : Int) : Int := min (max e (x - s)) x
/-- the ends after each place, from end e -/
def rodEs (s : Int) : Int → List Int → List Int
  | _, [] => []
  | e, x :: xs => rodSt s e x :: rodEs s (rodSt s e x) xs
def rodE (s e : Int) (xs : List Int) : Int := xs.foldl (rodSt s) e
theorem rodEs_len (s : Int) : ∀ (e : Int) (xs : List Int), (rodEs s e xs).length = xs.length
  | _, [] => rfl
  | e, x :: xs => by show (rodEs s _ xs).length + 1 = _; rw [rodEs_len s _ xs]; rfl
theorem rodEs_take {s : Int} : ∀ {e : Int} {xs : List Int} {i : Nat} {x : Int}, xs[i]? = some x → rodEs s e (xs.take (i + 1)) = rodEs s e (xs.take i) ++ [rodE s e (xs.take (i + 1))] ∧ rodE s e (xs.take (i + 1)) = rodSt s (rodE s e (xs.take i)) x
  | e, [], i, x, h => by simp at h
  | e, y :: ys, 0, x, h => by
    have : y = x := by simpa using h
    subst this
    exact ⟨rfl, rfl⟩
  | e, y :: ys, i + 1, x, h => by
    have ih := rodEs_take (s := s) (e := rodSt s e y) (xs := ys) (i := i) (x := x) (by simpa using h)
    refine ⟨?_, ih.2⟩
    show rodSt s e y :: rodEs s (rodSt s e y) (ys.take (i + 1)) = rodSt s e y :: rodEs s (rodSt s e y) (ys.take i) ++ [rodE s (rodSt s e y) (ys.take (i + 1))]
    rw [ih.1]; rfl
-- from t_rig2.lean
def addE (arm : Int) : List Int → List Int → List Int
  | e :: es, f :: fs => (e + arm * f) :: addE arm es fs
  | _, _ => []
def armsEs (ps : List Int) (init : List Int) (arms : List (Int × Int)) : List Int := arms.foldl (fun es a => addE a.2 es (rodEs a.1 0 ps)) init
theorem addE_len (arm : Int) : ∀ (es fs : List Int), es.length = fs.length → (addE arm es fs).length = es.length
  | [], [], _ => rfl
  | e :: es, f :: fs, h => by show (addE arm es fs).length + 1 = _; rw [addE_len arm es fs (by simpa using h)]; rfl
  | [], _ :: _, h => by simp at h
  | _ :: _, [], h => by simp at h
theorem armsEs_len {ps : List Int} : ∀ {arms : List (Int × Int)} {init : List Int}, init.length = ps.length → (armsEs ps init arms).length = ps.length
  | [], init, h => h
  | a :: arms, init, h => by
    show (armsEs ps (addE a.2 init (rodEs a.1 0 ps)) arms).length = _
    exact armsEs_len (by rw [addE_len _ _ _ (by rw [h, rodEs_len])]; exact h)
abbrev zEs (ps : List Int) : List Int := ps.map fun _ => 0
-- from t_tell.lean
theorem rodE_cons {s e x : Int} {xs : List Int} : rodE s e (x :: xs) = rodE s (rodSt s e x) xs := rfl
theorem rodSt_0 {e x : Int} : rodSt 0 e x = x := by unfold rodSt; omega
theorem rodE_0 : ∀ {xs : List Int} {e : Int} (h : xs ≠ []), rodE 0 e xs = xs.getLast h
  | [x], e, _ => rodSt_0
  | x :: y :: xs, e, _ => by
    rw [rodE_cons, rodE_0 (xs := y :: xs) (by simp)]
    simp
/-- the end stays -/
theorem stay_low : ∀ {xs : List Int} {s a : Int}, (∀ x ∈ xs, a ≤ x ∧ x - s ≤ a) → rodE s a xs = a
  | [], _, _, _ => rfl
  | x :: xs, s, a, h => by
    have h1 := h x List.mem_cons_self
    have e : rodSt s a x = a := by unfold rodSt; omega
    rw [rodE_cons, e]
    exact stay_low fun y hy => h y (List.mem_cons_of_mem _ hy)
theorem stay_high : ∀ {xs : List Int} {s a : Int}, (∀ x ∈ xs, x ≤ a ∧ a - s ≤ x) → rodE s (a - s) xs = a - s
  | [], _, _, _ => rfl
  | x :: xs, s, a, h => by
    have h1 := h x List.mem_cons_self
    have e : rodSt s (a - s) x = a - s := by unfold rodSt; omega
    rw [rodE_cons, e]
    exact stay_high fun y hy => h y (List.mem_cons_of_mem _ hy)
/-- places that lie one within the two before -/
inductive NB : Int → Int → List Int → Prop
  | nil {c a : Int} : NB c a []
  | cons {c a b : Int} {r : List Int} : min c a < b ∧ b < max c a → NB a b r → NB c a (b :: r)
theorem NB.mem : ∀ {r : List Int} {c a : Int}, NB c a r → ∀ x ∈ r, min c a < x ∧ x < max c a
  | b :: r, c, a, .cons h n, x, hx => by
    rcases List.mem_cons.mp hx with q | q
    · rw [q]; exact h
    · have := n.mem x q
      omega
theorem low_far {a b s : Int} {r : List Int} (h : a < b) (n : NB a b r) (hs : b - a ≤ s) : rodE s a (b :: r) = a := by
  refine stay_low fun x hx => ?_
  rcases List.mem_cons.mp hx with q | q
  · rw [q]; omega
  · have := n.mem x q; omega
theorem low_near {a b s : Int} {r : List Int} (h : a < b) (h0 : 0 ≤ s) (hs : s < b - a) : rodE s a (b :: r) = rodE s (b - s) r := by
  have e : rodSt s a b = b - s := by unfold rodSt; omega
  rw [rodE_cons, e]
theorem high_far {a b s : Int} {r : List Int} (h : b < a) (n : NB a b r) (hs : a - b ≤ s) : rodE s (a - s) (b :: r) = a - s := by
  refine stay_high fun x hx => ?_
  rcases List.mem_cons.mp hx with q | q
  · rw [q]; omega
  · have := n.mem x q; omega
theorem high_near {a b s : Int} {r : List Int} (h : b < a) (h0 : 0 ≤ s) (hs : s < a - b) : rodE s (a - s) (b :: r) = rodE s b r := by
  have e : rodSt s (a - s) b = b := by unfold rodSt; omega
  rw [rodE_cons, e]
/-- right behind the greatest swing the end stands still -/
theorem low_at {a b : Int} {r : List Int} (h : a < b) (n : NB a b r) : rodE (b - a - 1) a (b :: r) = a + 1 := by
  rw [low_near h (by omega) (by omega)]
  have : rodE (b - a - 1) (b - (b - a - 1)) r = b - (b - a - 1) := stay_high fun x hx => by
    have := n.mem x hx
    omega
  rw [this]; omega
theorem high_at {a b : Int} {r : List Int} (h : b < a) (n : NB a b r) : rodE (a - b - 1) (a - (a - b - 1)) (b :: r) = b := by
  rw [high_near h (by omega) (by omega)]
  exact stay_low fun x hx => by
    have := n.mem x hx
    omega
theorem tell : ∀ {r1 r2 : List Int} {c a : Int}, NB c a r1 → NB c a r2 →
    (a < c → (∀ s, 0 ≤ s → s < c - a → rodE s a r1 = rodE s a r2) → r1 = r2) ∧ (c < a → (∀ s, 0 ≤ s → s < a - c → rodE s (a - s) r1 = rodE s (a - s) r2) → r1 = r2)
  | [], [], c, a, _, _ => ⟨fun _ _ => rfl, fun _ _ => rfl⟩
  | [], b :: r, c, a, _, .cons h n => by
    refine ⟨fun hc hs => ?_, fun hc hs => ?_⟩
    · have := hs (b - a - 1) (by omega) (by omega)
      rw [low_at (by omega) n] at this
      have e : rodE (b - a - 1) a [] = a := rfl
      rw [e] at this; omega
    · have := hs (a - b - 1) (by omega) (by omega)
      rw [high_at (by omega) n] at this
      have e : rodE (a - b - 1) (a - (a - b - 1)) [] = a - (a - b - 1) := rfl
      rw [e] at this; omega
  | b :: r, [], c, a, .cons h n, _ => by
    refine ⟨fun hc hs => ?_, fun hc hs => ?_⟩
    · have := hs (b - a - 1) (by omega) (by omega)
      rw [low_at (by omega) n] at this
      have e : rodE (b - a - 1) a [] = a := rfl
      rw [e] at this; omega
    · have := hs (a - b - 1) (by omega) (by omega)
      rw [high_at (by omega) n] at this
      have e : rodE (a - b - 1) (a - (a - b - 1)) [] = a - (a - b - 1) := rfl
      rw [e] at this; omega
  | b :: r, d :: q, c, a, .cons h n, .cons h' n' => by
    have ih := fun e : b = d => tell (r1 := r) (r2 := q) (c := a) (a := b) n (e ▸ n')
    refine ⟨fun hc hs => ?_, fun hc hs => ?_⟩
    · have e : b = d := by
        rcases Int.lt_trichotomy b d with z | z | z
        · have := hs (d - a - 1) (by omega) (by omega)
          rw [low_at (by omega) n', low_far (by omega) n (by omega)] at this
          omega
        · exact z
        · have := hs (b - a - 1) (by omega) (by omega)
          rw [low_at (by omega) n, low_far (by omega) n' (by omega)] at this
          omega
      subst e
      rw [(ih rfl).2 (by omega) fun s s0 s1 => by
        have := hs s s0 (by omega)
        rw [low_near (by omega) s0 (by omega), low_near (by omega) s0 (by omega)] at this
        exact this]
    · have e : b = d := by
        rcases Int.lt_trichotomy b d with z | z | z
        · have := hs (a - b - 1) (by omega) (by omega)
          rw [high_at (by omega) n, high_far (by omega) n' (by omega)] at this
          omega
        · exact z
        · have := hs (a - d - 1) (by omega) (by omega)
          rw [high_at (by omega) n', high_far (by omega) n (by omega)] at this
          omega
      subst e
      rw [(ih rfl).1 (by omega) fun s s0 s1 => by
        have := hs s s0 (by omega)
        rw [high_near (by omega) s0 (by omega), high_near (by omega) s0 (by omega)] at this
        exact this]
/-- a memory's places are so -/
theorem okMem_nb {ps : List Int} (ok : okMem ps) : ∀ {n i : Nat} {c : Int}, ps.length - i ≤ n → 1 ≤ i → i ≤ ps.length → (i = 1 → ∀ x ∈ ps, x < c ∧ ps.getD 0 0 ≤ c) → (2 ≤ i → c = ps.getD (i - 2) 0) → NB c (ps.getD (i - 1) 0) (ps.drop i)
  | 0, i, c, h, h1, h2, _, _ => by
    rw [List.drop_eq_nil_of_le (by omega)]
    exact .nil
  | n + 1, i, c, h, h1, h2, ha, hb => by
    by_cases hi : i < ps.length
    · have f := ok.2.2 i hi
      have e : ps.drop i = ps.getD i 0 :: ps.drop (i + 1) := by
        rw [List.drop_eq_getElem_cons hi, List.getD_eq_getElem?_getD, List.getElem?_eq_getElem hi]; rfl
      rw [e]
      refine .cons ?_ (okMem_nb ok (n := n) (i := i + 1) (c := ps.getD (i - 1) 0) (by omega) (by omega) (by omega) (fun q => by omega) fun _ => rfl)
      unfold fitB at f
      by_cases c1 : i = 1
      · subst c1
        rw [if_neg (by omega), if_pos rfl, Bool.and_eq_true] at f
        have f2 : ps.getD 0 0 < ps.getD 1 0 := of_decide_eq_true f.2
        have := ha rfl (ps.getD 1 0) (getD_mem hi)
        have e0 : ps.getD (1 - 1) 0 = ps.getD 0 0 := rfl
        rw [e0]
        omega
      · rw [if_neg (by omega), if_neg c1, Bool.and_eq_true] at f
        have f2 := f.2
        unfold btw at f2
        rw [hb (by omega)]
        simp only [Bool.and_eq_true, decide_eq_true_eq] at f2
        omega
    · rw [List.drop_eq_nil_of_le (by omega)]
      exact .nil
theorem okMem_head {ps : List Int} (ok : okMem ps) : ∃ a r, ps = a :: r ∧ a ≤ 0 ∧ ∀ x ∈ r, a < x := by
  obtain ⟨a, r, rfl⟩ := List.exists_cons_of_ne_nil ok.1
  have f := ok.2.2 0 (by simp)
  unfold fitB at f
  rw [if_pos rfl, Bool.and_eq_true] at f
  refine ⟨a, r, rfl, of_decide_eq_true f.2, fun x hx => ?_⟩
  have hm : ∃ M, ∀ x ∈ a :: r, x < M ∧ a ≤ M := by
    have : ∀ l : List Int, ∃ M, ∀ x ∈ l, x < M := by
      intro l
      induction l with
      | nil => exact ⟨0, by simp⟩
      | cons y l ih =>
        obtain ⟨M, hM⟩ := ih
        refine ⟨max M (y + 1), fun x hx => ?_⟩
        rcases List.mem_cons.mp hx with q | q
        · rw [q]; omega
        · have := hM x q; omega
    obtain ⟨M, hM⟩ := this (a :: r)
    exact ⟨M, fun x hx => ⟨hM x hx, by have := hM a List.mem_cons_self; omega⟩⟩
  obtain ⟨M, hM⟩ := hm
  have n := okMem_nb ok (n := (a :: r).length) (i := 1) (c := M) (by omega) (Nat.le_refl _) (by simp) (fun _ => hM) (fun q => by omega)
  have := n.mem x (by simpa using hx)
  have e : (a :: r).getD (1 - 1) 0 = a := rfl
  rw [e] at this
  have := (hM a List.mem_cons_self).1
  omega
-- from t_rig3.lean
theorem cf_cons {p : Int × Int} {al : List (Int × Int)} {k : Int} : cf (p :: al) k = if p.1 = k then p.2 else cf al k := by
  unfold cf
  rw [getI_cons]
  by_cases e : p.1 = k
  · rw [if_pos e, if_pos e]; rfl
  · rw [if_neg e, if_neg e]
theorem cf_out {al : List (Int × Int)} {k : Int} (h : k ∉ al.map (·.1)) : cf al k = 0 := by
  unfold cf; rw [getI_none.mpr h]; rfl
/-- arms as the program keeps them: slacks ascending, no arm 0 -/
def Nrm (arms : List (Int × Int)) : Prop := (arms.map (·.1)).Pairwise (· < ·) ∧ ∀ a ∈ arms, a.2 ≠ 0
theorem Nrm.nd {arms : List (Int × Int)} (n : Nrm arms) : (arms.map (·.1)).Nodup := n.1.imp fun h => Int.ne_of_lt h
theorem getI_of_nd : ∀ {al : List (Int × Int)} {p : Int × Int}, (al.map (·.1)).Nodup → p ∈ al → getI al p.1 = some p.2
  | q :: al, p, nd, h => by
    rw [List.map_cons, List.nodup_cons] at nd
    rw [getI_cons]
    rcases List.mem_cons.mp h with e | h
    · rw [e, if_pos rfl]
    · have : ¬ q.1 = p.1 := fun e => nd.1 (e ▸ List.mem_map.mpr ⟨p, h, rfl⟩)
      rw [if_neg this]
      exact getI_of_nd nd.2 h
/-- arms are the same if all their numbers are -/
theorem nrm_ext : ∀ {al bl : List (Int × Int)}, Nrm al → Nrm bl → (∀ k, cf al k = cf bl k) → al = bl
  | [], [], _, _, _ => rfl
  | [], p :: bl, _, n, h => by
    have := h p.1
    rw [cf_cons, if_pos rfl] at this
    exact absurd this.symm (n.2 p List.mem_cons_self)
  | p :: al, [], n, _, h => by
    have := h p.1
    rw [cf_cons, if_pos rfl] at this
    exact absurd this (n.2 p List.mem_cons_self)
  | p :: al, q :: bl, n, m, h => by
    have n1 := n.1
    have m1 := m.1
    rw [List.map_cons, List.pairwise_cons] at n1 m1
    have e1 : p.1 = q.1 := by
      rcases Int.lt_trichotomy p.1 q.1 with z | z | z
      · have := h p.1
        rw [cf_cons, if_pos rfl, cf_cons, if_neg (by omega), cf_out fun w => by have := m1.1 _ w; omega] at this
        exact absurd this (n.2 p List.mem_cons_self)
      · exact z
      · have := h q.1
        rw [cf_cons, if_neg (by omega), cf_cons, if_pos rfl, cf_out fun w => by have := n1.1 _ w; omega] at this
        exact absurd this.symm (m.2 q List.mem_cons_self)
    have e2 : p.2 = q.2 := by
      have := h p.1
      rw [cf_cons, if_pos rfl, cf_cons, if_pos e1.symm] at this
      exact this
    have e : p = q := Prod.ext e1 e2
    subst e
    rw [nrm_ext (al := al) (bl := bl) ⟨n1.2, fun a ha => n.2 a (List.mem_cons_of_mem _ ha)⟩ ⟨m1.2, fun a ha => m.2 a (List.mem_cons_of_mem _ ha)⟩ fun k => by
      by_cases c : p.1 = k
      · rw [cf_out fun w => by have := n1.1 _ w; omega, cf_out fun w => by have := m1.1 _ w; omega]
      · have := h k
        rw [cf_cons, if_neg c, cf_cons, if_neg c] at this
        exact this]
-- from t_rig4.lean
def pullA (arms : List (Int × Int)) : Int := (arms.map (·.2)).sum
-- from t_rig5.lean
def slopeA (arms : List (Int × Int)) : Nat → Int
  | 0 => 0
  | h + 1 => slopeA arms h + cf arms (h : Int)
/-- the place of the end at the height h, going up from rest -/
def fA (arms : List (Int × Int)) : Nat → Int
  | 0 => 0
  | h + 1 => fA arms h + slopeA arms (h + 1)
def hgtA (arms : List (Int × Int)) (h : Int) : Int := (arms.map fun a => a.2 * max 0 (h - a.1)).sum
def pullE (e : Nat → Int) (k : Nat) : Int := if k = 0 then 0 else e k - e (k - 1)
/-- the arms of a list of ends -/
def arcA (e : Nat → Int) : Nat → List (Int × Int)
  | 0 => []
  | k + 1 =>
    if e (k + 1) - e k = pullE e k then arcA e k else arcA e k ++ [((k : Int), e (k + 1) - e k - pullE e k)]
theorem arcA_keys {e : Nat → Int} : ∀ {n : Nat} {x : Int}, x ∈ (arcA e n).map (·.1) → 0 ≤ x ∧ x < n
  | 0, x, h => by simp [arcA] at h
  | n + 1, x, h => by
    unfold arcA at h
    split at h
    · have := arcA_keys h; omega
    · rw [List.map_append] at h
      rcases List.mem_append.mp h with q | q
      · have := arcA_keys q; omega
      · have : x = (n : Int) := by simpa using q
        omega
theorem arcA_nrm (e : Nat → Int) : ∀ n, Nrm (arcA e n)
  | 0 => ⟨List.Pairwise.nil, by simp [arcA]⟩
  | n + 1 => by
    have ih := arcA_nrm e n
    unfold arcA
    split
    · exact ih
    · rename_i h
      refine ⟨?_, fun a ha => ?_⟩
      · rw [List.map_append, List.pairwise_append]
        refine ⟨ih.1, List.pairwise_singleton _ _, fun a ha c hc => ?_⟩
        have := arcA_keys ha
        have : c = (n : Int) := by simpa using hc
        omega
      · rcases List.mem_append.mp ha with q | q
        · exact ih.2 a q
        · rw [List.mem_singleton.mp q]
          show e (n + 1) - e n - _ ≠ 0
          omega
theorem cf_app_out {al bl : List (Int × Int)} {k : Int} (h : k ∉ bl.map (·.1)) : cf (al ++ bl) k = cf al k := by
  unfold cf
  rw [getI_app, getI_none.mpr h]
  cases getI al k <;> rfl
theorem cf_app_in {al bl : List (Int × Int)} {k : Int} (h : k ∉ al.map (·.1)) : cf (al ++ bl) k = cf bl k := by
  unfold cf
  rw [getI_app, getI_none.mpr h]; rfl
theorem arcA_cf (e : Nat → Int) : ∀ {n k : Nat}, cf (arcA e n) (k : Int) = if k < n then e (k + 1) - e k - pullE e k else 0
  | 0, k => by rw [if_neg (by omega)]; rfl
  | n + 1, k => by
    have ih := arcA_cf e (n := n) (k := k)
    have out : ((n : Nat) : Int) ∉ (arcA e n).map (·.1) := fun m => by have := arcA_keys m; omega
    unfold arcA
    split
    · rename_i h
      rw [ih]
      by_cases c : k < n
      · rw [if_pos c, if_pos (by omega)]
      · rw [if_neg c]
        by_cases d : k = n
        · subst d
          rw [if_pos (by omega)]; omega
        · rw [if_neg (by omega)]
    · rename_i h
      by_cases d : k = n
      · subst d
        rw [cf_app_in out, cf_cons, if_pos rfl, if_pos (by omega)]
      · rw [cf_app_out (by simp; omega), ih]
        by_cases c : k < n
        · rw [if_pos c, if_pos (by omega)]
        · rw [if_neg c, if_neg (by omega)]
-- from t_rig6.lean
-- from t_alg.lean
/-- slacks are 0 or more -/
def Pos0 (arms : List (Int × Int)) : Prop := ∀ k ∈ arms.map (·.1), 0 ≤ k
theorem cf_cons_nd {p : Int × Int} {al : List (Int × Int)} {k : Int} (h : p.1 ∉ al.map (·.1)) : cf (p :: al) k = (if p.1 = k then p.2 else 0) + cf al k := by
  rw [cf_cons]
  by_cases c : p.1 = k
  · rw [if_pos c, if_pos c, ← c, cf_out h]; omega
  · rw [if_neg c, if_neg c]; omega
theorem slopeA_cons {p : Int × Int} {al : List (Int × Int)} (h : p.1 ∉ al.map (·.1)) (h0 : 0 ≤ p.1) : ∀ n : Nat, slopeA (p :: al) n = (if p.1 < (n : Int) then p.2 else 0) + slopeA al n
  | 0 => by
    rw [if_neg (by omega)]
    show (0 : Int) = 0 + 0
    rfl
  | n + 1 => by
    show slopeA (p :: al) n + cf (p :: al) (n : Int) = _ + (slopeA al n + cf al (n : Int))
    rw [slopeA_cons h h0 n, cf_cons_nd h]
    by_cases c : p.1 = (n : Int)
    · rw [if_pos c, if_neg (by omega), if_pos (by omega)]; omega
    · rw [if_neg c]
      by_cases d : p.1 < (n : Int)
      · rw [if_pos d, if_pos (by omega)]; omega
      · rw [if_neg d, if_neg (by omega)]; omega
theorem fA_cons {p : Int × Int} {al : List (Int × Int)} (h : p.1 ∉ al.map (·.1)) (h0 : 0 ≤ p.1) : ∀ n : Nat, fA (p :: al) n = p.2 * max 0 ((n : Int) - p.1) + fA al n
  | 0 => by
    have : max 0 (((0 : Nat) : Int) - p.1) = 0 := by omega
    rw [this, Int.mul_zero]; rfl
  | n + 1 => by
    show fA (p :: al) n + slopeA (p :: al) (n + 1) = _ + (fA al n + slopeA al (n + 1))
    rw [fA_cons h h0 n, slopeA_cons h h0]
    by_cases c : p.1 < ((n + 1 : Nat) : Int)
    · rw [if_pos c]
      have : max 0 (((n + 1 : Nat) : Int) - p.1) = max 0 ((n : Int) - p.1) + 1 := by omega
      rw [this, Int.mul_add, Int.mul_one]; omega
    · rw [if_neg c]
      have : max 0 (((n + 1 : Nat) : Int) - p.1) = max 0 ((n : Int) - p.1) := by omega
      rw [this]; omega
theorem fA_nil : ∀ n : Nat, fA [] n = 0 ∧ slopeA [] n = 0
  | 0 => ⟨rfl, rfl⟩
  | n + 1 => by
    have h := fA_nil n
    have s : slopeA [] (n + 1) = 0 := by
      show slopeA [] n + 0 = 0
      rw [h.2]; rfl
    refine ⟨?_, s⟩
    show fA [] n + slopeA [] (n + 1) = 0
    rw [h.1, s]; rfl
theorem hgtA_fA : ∀ {al : List (Int × Int)}, (al.map (·.1)).Nodup → Pos0 al → ∀ n : Nat, hgtA al (n : Int) = fA al n
  | [], _, _, n => (fA_nil n).1.symm
  | p :: al, nd, h0, n => by
    rw [List.map_cons, List.nodup_cons] at nd
    rw [fA_cons nd.1 (h0 p.1 List.mem_cons_self), ← hgtA_fA nd.2 (fun k hk => h0 k (List.mem_cons_of_mem _ hk)) n]
    show (p.2 * max 0 ((n : Int) - p.1) + _) = _
    rfl
/-- the curve tells the arms -/
theorem fA_ext {a b : List (Int × Int)} (na : Nrm a) (nb : Nrm b) (pa : Pos0 a) (pb : Pos0 b) (h : ∀ n, fA a n = fA b n) : a = b := by
  have hs : ∀ n, slopeA a n = slopeA b n := fun n => by
    cases n with
    | zero => rfl
    | succ n =>
      have h1 := h (n + 1)
      have h0 := h n
      have e1 : fA a (n + 1) = fA a n + slopeA a (n + 1) := rfl
      have e2 : fA b (n + 1) = fA b n + slopeA b (n + 1) := rfl
      omega
  refine nrm_ext na nb fun k => ?_
  by_cases c : 0 ≤ k
  · obtain ⟨n, rfl⟩ := Int.eq_ofNat_of_zero_le c
    have h1 := hs (n + 1)
    have h0 := hs n
    have e1 : slopeA a (n + 1) = slopeA a n + cf a (n : Int) := rfl
    have e2 : slopeA b (n + 1) = slopeA b n + cf b (n : Int) := rfl
    omega
  · rw [cf_out fun m => c (pa _ m), cf_out fun m => c (pb _ m)]
/-- arms of a list of ends: the curve goes through them -/
theorem arc_slope {e : Nat → Int} {n : Nat} : ∀ {m : Nat}, m ≤ n → slopeA (arcA e n) m = if m = 0 then 0 else e m - e (m - 1)
  | 0, _ => rfl
  | m + 1, h => by
    have ih := arc_slope (e := e) (n := n) (m := m) (by omega)
    have c0 := arcA_cf e (n := n) (k := m)
    rw [if_pos (show m < n by omega)] at c0
    rw [if_neg (by omega : ¬ m + 1 = 0)]
    show slopeA (arcA e n) m + cf (arcA e n) (m : Int) = e (m + 1) - e m
    rw [c0, ih]
    unfold pullE
    by_cases c : m = 0
    · rw [if_pos c]; omega
    · rw [if_neg c]; omega
theorem arc_fA {e : Nat → Int} {n : Nat} (e0 : e 0 = 0) : ∀ {m : Nat}, m ≤ n → fA (arcA e n) m = e m
  | 0, _ => e0.symm
  | m + 1, h => by
    show fA (arcA e n) m + slopeA (arcA e n) (m + 1) = _
    rw [arc_fA e0 (by omega), arc_slope h, if_neg (by omega : ¬ m + 1 = 0)]
    show e m + (e (m + 1) - e m) = _
    omega
theorem slope_far {al : List (Int × Int)} {n : Nat} (h : ∀ k ∈ al.map (·.1), k < (n : Int)) : ∀ m, slopeA al (n + m) = slopeA al n
  | 0 => rfl
  | m + 1 => by
    show slopeA al (n + m) + cf al ((n + m : Nat) : Int) = _
    rw [slope_far h m, cf_out fun z => by have := h _ z; omega]; omega
theorem fA_far {al : List (Int × Int)} {n : Nat} (h : ∀ k ∈ al.map (·.1), k < (n : Int) + 1) : ∀ m : Nat, fA al (n + m) = fA al n + m * slopeA al (n + 1)
  | 0 => by
    show fA al n = fA al n + 0 * _
    omega
  | m + 1 => by
    show fA al (n + m) + slopeA al (n + m + 1) = _
    have e : slopeA al (n + m + 1) = slopeA al (n + 1) := by
      have := slope_far (n := n + 1) (by simpa using h) m
      rw [← this]
      congr 1
      omega
    have c : ((m + 1 : Nat) : Int) * slopeA al (n + 1) = (m : Int) * slopeA al (n + 1) + slopeA al (n + 1) := by
      rw [Int.natCast_add, Int.add_mul]
      show _ + 1 * _ = _
      rw [Int.one_mul]
    rw [fA_far h m, e, c]; omega
-- from t_tree1.lean
inductive Tr
  | rod (s : Int)
  | mul (a : Tr) (n : Int)
  | neg (a : Tr)
  | add (a b : Tr)
  | sub (a b : Tr)
  | chn (a b : Tr)
def depT : Tr → Nat
  | .rod _ => 0
  | .mul a _ => depT a + 1
  | .neg a => depT a + 1
  | .add a b => max (depT a) (depT b) + 1
  | .sub a b => max (depT a) (depT b) + 1
  | .chn a b => max (depT a) (depT b) + 1
def totT : Tr → Int
  | .rod s => s
  | .mul a _ => totT a
  | .neg a => totT a
  | .add a b => totT a + totT b
  | .sub a b => totT a + totT b
  | .chn a b => totT a + totT b
-- from t_tree2.lean
def valT : Tr → Nat → Int
  | .rod s, h => max 0 ((h : Int) - s)
  | .mul a n, h => valT a h * n
  | .neg a, h => 0 - valT a h
  | .add a b, h => valT a h + valT b h
  | .sub a b, h => valT a h - valT b h
  | .chn a b, h => valT b (valT a h).toNat
/-- slacks are 0 or more -/
def posT : Tr → Prop
  | .rod s => 0 ≤ s
  | .mul a _ => posT a
  | .neg a => posT a
  | .add a b => posT a ∧ posT b
  | .sub a b => posT a ∧ posT b
  | .chn a b => posT a ∧ posT b
theorem valT_0 : ∀ {t : Tr}, posT t → valT t 0 = 0
  | .rod s, h => by
    have h' : 0 ≤ s := h
    show max 0 (((0 : Nat) : Int) - s) = 0
    omega
  | .mul a n, h => by
    show valT a 0 * n = 0
    rw [valT_0 (t := a) h, Int.zero_mul]
  | .neg a, h => by
    show 0 - valT a 0 = 0
    rw [valT_0 (t := a) h]; rfl
  | .add a b, h => by
    show valT a 0 + valT b 0 = 0
    rw [valT_0 (t := a) h.1, valT_0 (t := b) h.2]; rfl
  | .sub a b, h => by
    show valT a 0 - valT b 0 = 0
    rw [valT_0 (t := a) h.1, valT_0 (t := b) h.2]; rfl
  | .chn a b, h => by
    show valT b (valT a 0).toNat = 0
    rw [valT_0 (t := a) h.1]
    exact valT_0 (t := b) h.2
-- from t_tree3.lean
/-- the places between two, the last one with them -/
def stepsI (old new : Int) : List Int := if old < new then (List.range (new - old).toNat).map fun (k : Nat) => old + 1 + (k : Int) else (List.range (old - new).toNat).map fun (k : Nat) => old - 1 - (k : Int)
-- from t_law17.lean
end Pf

namespace Pf
open PySem L2 Z PyProof.Rows
/-! ### swings -/
instance {lo : Bool} {a b : Int} : Decidable (leB lo a b) := by unfold leB; exact inferInstance
/-- a memory after a move, turning place by turning place -/
def upS : Bool → List Int → Int → List Int
  | _, [], x => [x]
  | lo, E :: ms, x => if leB lo x E then [x] else E :: upS (!lo) ms x
/-- up and down along the turning places, by the curve g -/
def Phi (g : Nat → Int) : Bool → List Int → Int
  | lo, E :: F :: r => (if lo = true then g (F - E).natAbs else - g (F - E).natAbs) + Phi g (!lo) (F :: r)
  | _, _ => 0
/-- turning places, each strictly between the two before it; lo: from the first one it goes up -/
inductive Ns : Bool → Int → Int → List Int → Prop
  | nil {lo : Bool} {c a : Int} : Ns lo c a []
  | cons {lo : Bool} {c a b : Int} {r : List Int} : (if lo = true then a < b ∧ b < c else c < b ∧ b < a) → Ns (!lo) a b r → Ns lo c a (b :: r)
def inS (lo : Bool) (c a x : Int) : Prop := if lo = true then a < x ∧ x < c else c < x ∧ x < a
theorem Ns.up {x : Int} : ∀ {r : List Int} {lo : Bool} {c a : Int}, Ns lo c a r → inS lo c a x → ∃ r', upS lo (a :: r) x = a :: r' ∧ Ns lo c a r' := by
  intro r
  induction r with
  | nil =>
    intro lo c a _ hx
    refine ⟨[x], ?_, .cons hx .nil⟩
    show (if leB lo x a then [x] else a :: [x]) = _
    rw [if_neg]
    cases lo <;> simp [leB, inS] at * <;> omega
  | cons b r ih =>
    intro lo c a h hx
    cases h with
    | cons hb h =>
      have n1 : ¬ leB lo x a := by cases lo <;> simp [leB, inS] at * <;> omega
      by_cases c2 : leB (!lo) x b
      · refine ⟨[x], ?_, .cons hx .nil⟩
        show (if leB lo x a then [x] else a :: upS (!lo) (b :: r) x) = _
        rw [if_neg n1]
        show a :: (if leB (!lo) x b then [x] else _) = _
        rw [if_pos c2]
      · obtain ⟨r', e, n⟩ := ih h (show inS (!lo) a b x by cases lo <;> simp [leB, inS] at * <;> omega)
        refine ⟨b :: r', ?_, .cons hb n⟩
        show (if leB lo x a then [x] else a :: upS (!lo) (b :: r) x) = _
        rw [if_neg n1, e]
theorem up_upd {x : Int} : ∀ {r : List Int} {lo : Bool} {c a : Int}, Ns lo c a r → updL lo (a :: r) x = upS lo (a :: r) x := by
  intro r
  induction r with
  | nil =>
    intro lo c a _
    show _ = (if leB lo x a then [x] else a :: [x])
    by_cases h : leB lo x a
    · rw [if_pos h, updL_yes h]
    · rw [if_neg h, updL_no h]; rfl
  | cons b r ih =>
    intro lo c a h
    cases h with
    | cons hb h =>
      show _ = (if leB lo x a then [x] else a :: upS (!lo) (b :: r) x)
      by_cases h1 : leB lo x a
      · rw [if_pos h1, updL_yes h1]
      · rw [if_neg h1, ← ih h, updL_no h1]
        by_cases c2 : leB (!lo) x b
        · rw [updL_yes c2]
          have : btw x a b = false := by
            unfold btw
            cases lo <;> simp [leB] at * <;> omega
          have r0 : runL x (a :: b :: r) = 0 := by
            show (if btw x a b = true then _ else 0) = 0
            rw [this]; simp
          rw [r0]; rfl
        · rw [updL_no c2]
          have : btw x a b = true := by
            unfold btw
            cases lo <;> simp [leB] at * <;> omega
          have r1 : runL x (a :: b :: r) = runL x (b :: r) + 1 := by
            show (if btw x a b = true then _ else 0) = _
            rw [if_pos this]
          rw [r1]; rfl
def rsB (s : Int) (y : Int) : Int := max 0 (y - s)
/-- what drives (at BM) and what follows (at BZ) at a turning place, a swing of at most H to come -/
def CoS (lo : Bool) (BM BZ fH s : Int) : Prop := if lo = true then BZ ≤ BM ∧ BM - s ≤ BZ ∧ (BZ = BM ∨ BM + fH - s ≤ BZ) else BZ ≤ BM ∧ BM - s ≤ BZ ∧ (BZ = BM - s ∨ BZ ≤ BM - fH)
section
variable {f : Nat → Int} {s : Int}
theorem f_le (fm : ∀ h, f h ≤ f (h + 1)) : ∀ {a b : Nat}, a ≤ b → f a ≤ f b := by
  intro a b h
  induction b with
  | zero => have : a = 0 := by omega
            rw [this]; exact Int.le_refl _
  | succ b ih =>
    by_cases e : a = b + 1
    · rw [e]; exact Int.le_refl _
    · exact Int.le_trans (ih (by omega)) (fm b)
/-- inner swings lie within the first one -/
theorem Phi_in (g0 : f 0 = 0) (fm : ∀ h, f h ≤ f (h + 1)) : ∀ {r : List Int} {lo : Bool} {c a : Int}, Ns lo c a r → (if lo = true then 0 ≤ Phi f lo (a :: r) ∧ Phi f lo (a :: r) ≤ f (c - a).natAbs else Phi f lo (a :: r) ≤ 0 ∧ - f (c - a).natAbs ≤ Phi f lo (a :: r)) := by
  intro r
  induction r with
  | nil =>
    intro lo c a _
    have := f_le fm (Nat.zero_le (c - a).natAbs)
    have z : Phi f lo [a] = 0 := by cases lo <;> rfl
    rw [z]
    cases lo <;> simp <;> omega
  | cons b r ih =>
    intro lo c a h
    cases h with
    | cons hb h =>
      have i := ih h
      have e : (b - a).natAbs = (a - b).natAbs := by omega
      have le : f (b - a).natAbs ≤ f (c - a).natAbs := f_le fm (by cases lo <;> simp at hb <;> omega)
      have le0 := f_le fm (Nat.zero_le (b - a).natAbs)
      show (if lo = true then 0 ≤ (if lo = true then f (b - a).natAbs else - f (b - a).natAbs) + Phi f (!lo) (b :: r) ∧ _ else _)
      have u : Phi f lo (a :: b :: r) = (if lo = true then f (b - a).natAbs else - f (b - a).natAbs) + Phi f (!lo) (b :: r) := rfl
      cases lo <;> simp at i hb ⊢ <;> rw [u] <;> simp <;> rw [e] at * <;> omega
theorem step_in (f0 : f 0 = 0) (fm : ∀ h, f h ≤ f (h + 1)) (s0 : 0 ≤ s) {x : Int} : ∀ {r : List Int} {lo : Bool} {c a BM BZ : Int}, Ns lo c a r → inS lo c a x → CoS lo BM BZ (f (c - a).natAbs) s →
    rodSt s (BZ + Phi (fun h => rsB s (f h)) lo (a :: r)) (BM + Phi f lo (upS lo (a :: r) x)) = BZ + Phi (fun h => rsB s (f h)) lo (upS lo (a :: r) x) := by
  have g0 : (fun h => rsB s (f h)) 0 = 0 := by show rsB s (f 0) = 0; unfold rsB; rw [f0]; omega
  have gm : ∀ h, (fun h => rsB s (f h)) h ≤ (fun h => rsB s (f h)) (h + 1) := fun h => by show rsB s (f h) ≤ rsB s (f (h + 1)); unfold rsB; have := fm h; omega
  intro r
  induction r with
  | nil =>
    intro lo c a BM BZ _ hx co
    have n1 : ¬ leB lo x a := by cases lo <;> simp [leB, inS] at * <;> omega
    have e1 : upS lo [a] x = [a, x] := by show (if leB lo x a then [x] else a :: [x]) = _; rw [if_neg n1]
    rw [e1]
    have le : f (x - a).natAbs ≤ f (c - a).natAbs := f_le fm (by cases lo <;> simp [inS] at hx <;> omega)
    have le0 := f_le fm (Nat.zero_le (x - a).natAbs)
    rw [f0] at le0
    have u1 : Phi f lo [a, x] = (if lo = true then f (x - a).natAbs else - f (x - a).natAbs) + 0 := by cases lo <;> rfl
    have u2 : Phi (fun h => rsB s (f h)) lo [a, x] = (if lo = true then rsB s (f (x - a).natAbs) else - rsB s (f (x - a).natAbs)) + 0 := by cases lo <;> rfl
    have u3 : Phi (fun h => rsB s (f h)) lo [a] = 0 := by cases lo <;> rfl
    rw [u1, u2, u3]
    unfold rodSt rsB
    unfold CoS at co
    cases lo <;> simp at co ⊢ <;> omega
  | cons b r ih =>
    intro lo c a BM BZ h hx co
    have n1 : ¬ leB lo x a := by cases lo <;> simp [leB, inS] at * <;> omega
    have e1 : upS lo (a :: b :: r) x = a :: upS (!lo) (b :: r) x := by show (if leB lo x a then [x] else _) = _; rw [if_neg n1]
    rw [e1]
    cases h with
    | cons hb h =>
      have leb : f (b - a).natAbs ≤ f (c - a).natAbs := f_le fm (by cases lo <;> simp at hb <;> omega)
      have leb0 := f_le fm (Nat.zero_le (b - a).natAbs)
      rw [f0] at leb0
      have eb : (b - a).natAbs = (a - b).natAbs := by omega
      by_cases c2 : leB (!lo) x b
      · have e2 : upS (!lo) (b :: r) x = [x] := by show (if leB (!lo) x b then [x] else _) = _; rw [if_pos c2]
        rw [e2]
        have le : f (x - a).natAbs ≤ f (c - a).natAbs := f_le fm (by cases lo <;> simp [inS] at hx <;> omega)
        have lx : f (b - a).natAbs ≤ f (x - a).natAbs := f_le fm (by cases lo <;> simp [leB, inS] at * <;> omega)
        have pin := Phi_in g0 gm h
        have u1 : Phi f lo [a, x] = (if lo = true then f (x - a).natAbs else - f (x - a).natAbs) + 0 := by cases lo <;> rfl
        have u2 : Phi (fun h => rsB s (f h)) lo [a, x] = (if lo = true then rsB s (f (x - a).natAbs) else - rsB s (f (x - a).natAbs)) + 0 := by cases lo <;> rfl
        have u3 : Phi (fun h => rsB s (f h)) lo (a :: b :: r) = (if lo = true then rsB s (f (b - a).natAbs) else - rsB s (f (b - a).natAbs)) + Phi (fun h => rsB s (f h)) (!lo) (b :: r) := rfl
        rw [u1, u2, u3]
        generalize Phi (fun h => rsB s (f h)) (!lo) (b :: r) = Z at *
        rw [← eb] at pin
        generalize f (x - a).natAbs = fx at *
        generalize f (b - a).natAbs = fb at *
        generalize f (c - a).natAbs = fc at *
        unfold rodSt rsB at *
        unfold CoS at co
        cases lo <;> simp at co pin ⊢ <;> omega
      · have hx2 : inS (!lo) a b x := by cases lo <;> simp [leB, inS] at * <;> omega
        have z := ih (BM := BM + (if lo = true then f (b - a).natAbs else - f (b - a).natAbs)) (BZ := BZ + (if lo = true then rsB s (f (b - a).natAbs) else - rsB s (f (b - a).natAbs))) h hx2 (by
          rw [← eb]
          generalize f (b - a).natAbs = fb at *
          generalize f (c - a).natAbs = fc at *
          unfold CoS rsB at *
          cases lo <;> simp at co ⊢ <;> omega)
        obtain ⟨r', er, _⟩ := h.up hx2
        rw [er] at z ⊢
        have u1 : Phi f lo (a :: b :: r') = (if lo = true then f (b - a).natAbs else - f (b - a).natAbs) + Phi f (!lo) (b :: r') := rfl
        have u2 : Phi (fun h => rsB s (f h)) lo (a :: b :: r') = (if lo = true then rsB s (f (b - a).natAbs) else - rsB s (f (b - a).natAbs)) + Phi (fun h => rsB s (f h)) (!lo) (b :: r') := rfl
        have u3 : Phi (fun h => rsB s (f h)) lo (a :: b :: r) = (if lo = true then rsB s (f (b - a).natAbs) else - rsB s (f (b - a).natAbs)) + Phi (fun h => rsB s (f h)) (!lo) (b :: r) := rfl
        rw [u1, u2, u3, ← Int.add_assoc, ← Int.add_assoc, ← Int.add_assoc]
        exact z
end
/-! ### memories of rows -/
def Nst (ms : List Int) : Prop := ∃ a r c, ms = a :: r ∧ a < c ∧ Ns true c a r
theorem Ns.wide {c c' a : Int} {r : List Int} (h : Ns true c a r) (k : c ≤ c') : Ns true c' a r := by
  cases h with
  | nil => exact .nil
  | cons hb h => exact .cons (by simp at hb ⊢; omega) h
theorem aft_up {a c x : Int} {r : List Int} (h : Ns true c a r) : aft (a :: r) x = upS true (a :: r) x := by rw [aft_updL, up_upd h]
theorem Nst.aft {ms : List Int} (h : Nst ms) (x : Int) : Nst (aft ms x) := by
  obtain ⟨a, r, c, rfl, hc, h⟩ := h
  rw [aft_up h]
  by_cases hx : x ≤ a
  · refine ⟨x, [], x + 1, ?_, by omega, .nil⟩
    show (if leB true x a then [x] else _) = _
    rw [if_pos (by simp [leB]; exact hx)]
  · obtain ⟨r', e, n⟩ := (h.wide (c' := max c (x + 1)) (by omega)).up (x := x) (by show a < x ∧ x < max c (x + 1); omega)
    exact ⟨a, r', _, e, by omega, n⟩
theorem memF_snoc (xs : List Int) (x : Int) : memF (xs ++ [x]) = aft (memF xs) x := by unfold memF; rw [List.foldl_append]; rfl
theorem memF_nst : ∀ (n : Nat) (xs : List Int), xs.length = n → Nst (memF xs) := by
  intro n
  induction n with
  | zero =>
    intro xs h
    have : xs = [] := List.length_eq_zero_iff.mp h
    rw [this]
    exact ⟨0, [], 1, rfl, by omega, .nil⟩
  | succ n ih =>
    intro xs h
    have hne : xs ≠ [] := fun e => by rw [e] at h; simp at h
    rw [← List.dropLast_concat_getLast hne, memF_snoc]
    exact (ih _ (by rw [List.length_dropLast]; omega)).aft _
theorem snoc_ind {P : List Int → Prop} (h0 : P []) (hs : ∀ xs x, P xs → P (xs ++ [x])) : ∀ xs, P xs := by
  have : ∀ n (xs : List Int), xs.length = n → P xs := by
    intro n
    induction n with
    | zero => intro xs h; rw [List.length_eq_zero_iff.mp h]; exact h0
    | succ n ih =>
      intro xs h
      have hne : xs ≠ [] := fun e => by rw [e] at h; simp at h
      rw [← List.dropLast_concat_getLast hne]
      exact hs _ _ (ih _ (by rw [List.length_dropLast]; omega))
  exact fun xs => this _ xs rfl
/-- where the end is by the curve f (and the pull p below 0), from the turning places -/
def ZM (f : Nat → Int) (p : Int) (ms : List Int) : Int := p * ms.headD 0 + Phi f true ms
theorem step_mem {f : Nat → Int} {p s : Int} (f0 : f 0 = 0) (fm : ∀ h, f h ≤ f (h + 1)) (p0 : 0 ≤ p) (s0 : 0 ≤ s) {ms : List Int} (h : Nst ms) (x : Int) : rodSt s (ZM (fun h => rsB s (f h)) p ms) (ZM f p (aft ms x)) = ZM (fun h => rsB s (f h)) p (aft ms x) := by
  obtain ⟨a, r, c, rfl, hc, h⟩ := h
  rw [aft_up h]
  have g0 : (fun h => rsB s (f h)) 0 = 0 := by show rsB s (f 0) = 0; unfold rsB; rw [f0]; omega
  have gm : ∀ h, (fun h => rsB s (f h)) h ≤ (fun h => rsB s (f h)) (h + 1) := fun h => by show rsB s (f h) ≤ rsB s (f (h + 1)); unfold rsB; have := fm h; omega
  by_cases hx : x ≤ a
  · have e : upS true (a :: r) x = [x] := by
      show (if leB true x a then [x] else _) = _
      rw [if_pos (by simp [leB]; exact hx)]
    rw [e]
    have pin := Phi_in g0 gm h
    simp at pin
    have le : p * x ≤ p * a := Int.mul_le_mul_of_nonneg_left hx p0
    show rodSt s (p * a + Phi _ true (a :: r)) (p * x + 0) = p * x + 0
    unfold rodSt
    omega
  · have hw := h.wide (c' := max c (x + 1)) (by omega)
    have hin : inS true (max c (x + 1)) a x := by show a < x ∧ x < max c (x + 1); omega
    obtain ⟨r', e, n⟩ := hw.up hin
    have z := step_in (s := s) f0 fm s0 (BM := p * a) (BZ := p * a) hw hin (by unfold CoS; simp; omega)
    rw [e] at z ⊢
    exact z
/-- a row of places, each told from the memory -/
def preM (g : List Int → Int) (xs : List Int) : List Int := (List.range xs.length).map fun k => g (xs.take (k + 1))
theorem preM_snoc (g : List Int → Int) (xs : List Int) (x : Int) : preM g (xs ++ [x]) = preM g xs ++ [g (xs ++ [x])] := by
  unfold preM
  rw [List.length_append]
  show (List.range (xs.length + 1)).map _ = _
  rw [List.range_succ, List.map_append]
  congr 1
  · refine List.map_congr_left fun k hk => ?_
    rw [List.take_append_of_le_length (by have := List.mem_range.mp hk; omega)]
  · show [g ((xs ++ [x]).take (xs.length + 1))] = _
    rw [List.take_of_length_le (by simp)]
theorem rodE_snoc (s e : Int) (xs : List Int) (x : Int) : rodE s e (xs ++ [x]) = rodSt s (rodE s e xs) x := by unfold rodE; rw [List.foldl_append]; rfl
theorem rodE_app (s e : Int) (xs ys : List Int) : rodE s e (xs ++ ys) = rodE s (rodE s e xs) ys := by unfold rodE; rw [List.foldl_append]
theorem play_mem {f : Nat → Int} {p s : Int} (f0 : f 0 = 0) (fm : ∀ h, f h ≤ f (h + 1)) (p0 : 0 ≤ p) (s0 : 0 ≤ s) : ∀ xs : List Int, rodE s 0 (preM (fun ys => ZM f p (memF ys)) xs) = ZM (fun h => rsB s (f h)) p (memF xs) := by
  refine snoc_ind ?_ fun xs x ih => ?_
  · show (0 : Int) = p * 0 + 0
    omega
  · rw [preM_snoc, rodE_snoc, ih, memF_snoc]
    exact step_mem f0 fm p0 s0 (memF_nst _ xs rfl) x
theorem Phi_id : ∀ {r : List Int} {lo : Bool} {c a : Int}, Ns lo c a r → a + Phi (fun h => (h : Int)) lo (a :: r) = (a :: r).getLastD 0 := by
  intro r
  induction r with
  | nil =>
    intro lo c a _
    have : Phi (fun h => (h : Int)) lo [a] = 0 := by cases lo <;> rfl
    rw [this]; simp
  | cons b r ih =>
    intro lo c a h
    cases h with
    | cons hb h =>
      have u : Phi (fun h => (h : Int)) lo (a :: b :: r) = (if lo = true then (((b - a).natAbs : Nat) : Int) else - (((b - a).natAbs : Nat) : Int)) + Phi (fun h => (h : Int)) (!lo) (b :: r) := rfl
      have i := ih h
      have e : (a :: b :: r).getLastD 0 = (b :: r).getLastD 0 := by simp [List.getLastD]
      rw [u, e, ← i]
      cases lo <;> simp at hb ⊢ <;> omega
theorem aft_last (ms : List Int) (x : Int) : (aft ms x).getLastD 0 = x := by
  unfold aft
  split <;> simp
theorem ZM_id (xs : List Int) : ZM (fun h => (h : Int)) 1 (memF xs) = xs.getLastD 0 := by
  obtain ⟨a, r, c, e, hc, h⟩ := memF_nst _ xs rfl
  have z := Phi_id h
  have el : (memF xs).getLastD 0 = xs.getLastD 0 := by
    by_cases hne : xs = []
    · rw [hne]; rfl
    · have e1 := List.dropLast_concat_getLast hne
      rw [← e1, memF_snoc, aft_last]; simp
  rw [e] at el ⊢
  show 1 * a + _ = _
  rw [← el, ← z]
  omega
theorem preM_id (xs : List Int) : preM (fun ys => ZM (fun h => (h : Int)) 1 (memF ys)) xs = xs := by
  revert xs
  refine snoc_ind rfl fun xs x ih => ?_
  rw [preM_snoc, ih, ZM_id]
  simp
/-- a rod, by the memory -/
theorem rod_mem {s : Int} (s0 : 0 ≤ s) (xs : List Int) : rodE s 0 xs = ZM (fun h => max 0 ((h : Int) - s)) 1 (memF xs) := by
  have z := play_mem (f := fun h => (h : Int)) (p := 1) rfl (fun h => by omega) (by omega) s0 xs
  rw [preM_id] at z
  exact z
theorem Phi_lin (f g : Nat → Int) (k : Int) : ∀ (ms : List Int) (lo : Bool), Phi (fun h => f h + k * g h) lo ms = Phi f lo ms + k * Phi g lo ms := by
  intro ms
  induction ms with
  | nil => intro lo; have e : ∀ f : Nat → Int, Phi f lo [] = 0 := fun f => by cases lo <;> rfl
           rw [e, e, e]; omega
  | cons a ms ih =>
    intro lo
    cases ms with
    | nil => have e : ∀ f : Nat → Int, Phi f lo [a] = 0 := fun f => by cases lo <;> rfl
             rw [e, e, e]; omega
    | cons b ms =>
      have u : ∀ f : Nat → Int, Phi f lo (a :: b :: ms) = (if lo = true then f (b - a).natAbs else - f (b - a).natAbs) + Phi f (!lo) (b :: ms) := fun f => rfl
      rw [u, u, u, ih]
      cases lo
      · simp only [Bool.false_eq_true, if_false, Int.mul_add, Int.mul_neg]; omega
      · simp only [if_true, Int.mul_add]; omega
theorem Phi_cong {f g : Nat → Int} (h : ∀ n, f n = g n) (ms : List Int) (lo : Bool) : Phi f lo ms = Phi g lo ms := by
  have : f = g := funext h
  rw [this]
theorem ZM_cong {f g : Nat → Int} {p q : Int} (h : ∀ n, f n = g n) (hp : p = q) (ms : List Int) : ZM f p ms = ZM g q ms := by
  have : f = g := funext h
  rw [this, hp]
/-- the end of a sum of rods -/
def FA (al : List (Int × Int)) (xs : List Int) : Int := (al.map fun a => a.2 * rodE a.1 0 xs).sum
theorem FA_play {f : Nat → Int} {p : Int} (f0 : f 0 = 0) (fm : ∀ h, f h ≤ f (h + 1)) (p0 : 0 ≤ p) (xs : List Int) : ∀ {al : List (Int × Int)}, Pos0 al → FA al (preM (fun ys => ZM f p (memF ys)) xs) = ZM (fun h => hgtA al (f h)) (pullA al * p) (memF xs)
  | [], _ => by
    have e : ∀ (ms : List Int) (lo : Bool), Phi (fun _ => (0 : Int)) lo ms = 0 := by
      intro ms
      induction ms with
      | nil => intro lo; cases lo <;> rfl
      | cons a ms ih =>
        intro lo
        cases ms with
        | nil => cases lo <;> rfl
        | cons b ms =>
          show (if lo = true then (0 : Int) else -0) + Phi (fun _ => (0 : Int)) (!lo) (b :: ms) = 0
          rw [ih]; cases lo <;> rfl
    show (0 : Int) = (0 * p) * (memF xs).headD 0 + Phi (fun _ => (0 : Int)) true (memF xs)
    rw [e]
    simp
  | a :: al, h0 => by
    have ih := FA_play f0 fm p0 xs (al := al) fun k hk => h0 k (List.mem_cons_of_mem _ hk)
    have s0 : 0 ≤ a.1 := h0 a.1 List.mem_cons_self
    show a.2 * rodE a.1 0 _ + FA al _ = _
    rw [play_mem f0 fm p0 s0, ih]
    have e : ZM (fun h => hgtA (a :: al) (f h)) (pullA (a :: al) * p) (memF xs) = (pullA (a :: al) * p) * (memF xs).headD 0 + (Phi (fun h => hgtA al (f h)) true (memF xs) + a.2 * Phi (fun h => rsB a.1 (f h)) true (memF xs)) := by
      unfold ZM
      rw [← Phi_lin]
      congr 1
      refine Phi_cong (fun n => ?_) _ _
      show a.2 * max 0 (f n - a.1) + hgtA al (f n) = hgtA al (f n) + a.2 * max 0 (f n - a.1)
      omega
    rw [e]
    unfold ZM
    have pe : pullA (a :: al) = a.2 + pullA al := rfl
    rw [pe]
    simp only [Int.mul_add, Int.add_mul, Int.mul_assoc]
    omega
theorem FA_mem {al : List (Int × Int)} (h0 : Pos0 al) (xs : List Int) : FA al xs = ZM (fun h => hgtA al (h : Int)) (pullA al) (memF xs) := by
  have z := FA_play (f := fun h => (h : Int)) (p := 1) rfl (fun h => by omega) (by omega) xs h0
  rw [preM_id, Int.mul_one] at z
  exact z
/-! ### steps between places -/
theorem rod_run_up {s e u : Int} (s0 : 0 ≤ s) (h1 : e ≤ u) (h2 : u - s ≤ e) : ∀ n : Nat, rodE s e ((List.range n).map fun (k : Nat) => u + 1 + (k : Int)) = rodSt s e (u + n)
  | 0 => by
    show e = rodSt s e (u + 0)
    unfold rodSt; omega
  | n + 1 => by
    rw [List.range_succ, List.map_append, rodE_app, rod_run_up s0 h1 h2 n]
    show rodSt s (rodSt s e (u + n)) (u + 1 + n) = _
    unfold rodSt
    omega
theorem rod_run_dn {s e u : Int} (s0 : 0 ≤ s) (h1 : e ≤ u) (h2 : u - s ≤ e) : ∀ n : Nat, rodE s e ((List.range n).map fun (k : Nat) => u - 1 - (k : Int)) = rodSt s e (u - n)
  | 0 => by
    show e = rodSt s e (u - 0)
    unfold rodSt; omega
  | n + 1 => by
    rw [List.range_succ, List.map_append, rodE_app, rod_run_dn s0 h1 h2 n]
    show rodSt s (rodSt s e (u - n)) (u - 1 - n) = _
    unfold rodSt
    omega
theorem rod_steps {s e u v : Int} (s0 : 0 ≤ s) (h1 : e ≤ u) (h2 : u - s ≤ e) : rodE s e (stepsI u v) = rodSt s e v := by
  unfold stepsI
  by_cases c : u < v
  · rw [if_pos c, rod_run_up s0 h1 h2]
    congr 1; omega
  · rw [if_neg c, rod_run_dn s0 h1 h2]
    congr 1; omega
/-- the path of what is driven: where it stood, then step by step -/
def midW (g : List Int → Int) : Nat → List Int → List Int
  | 0, _ => []
  | k + 1, xs => midW g k xs ++ (g (xs.take k) :: stepsI (g (xs.take k)) (g (xs.take (k + 1))))
theorem midW_pre (g : List Int → Int) (ys : List Int) : ∀ {k : Nat} {xs : List Int}, k ≤ xs.length → midW g k (xs ++ ys) = midW g k xs
  | 0, xs, _ => rfl
  | k + 1, xs, h => by
    show midW g k (xs ++ ys) ++ _ = midW g k xs ++ _
    rw [midW_pre g ys (by omega), List.take_append_of_le_length (by omega), List.take_append_of_le_length h]
abbrev midP (g : List Int → Int) (xs : List Int) : List Int := midW g xs.length xs
theorem midP_snoc (g : List Int → Int) (xs : List Int) (x : Int) : midP g (xs ++ [x]) = midP g xs ++ (g xs :: stepsI (g xs) (g (xs ++ [x]))) := by
  show midW g (xs ++ [x]).length (xs ++ [x]) = _
  have e : (xs ++ [x]).length = xs.length + 1 := by simp
  rw [e]
  show midW g xs.length (xs ++ [x]) ++ _ = _
  rw [midW_pre g [x] (Nat.le_refl _), List.take_append_of_le_length (Nat.le_refl _), List.take_length, List.take_of_length_le (by simp : (xs ++ [x]).length ≤ xs.length + 1)]
theorem rod_mid {g : List Int → Int} {s : Int} (g0 : g [] = 0) (s0 : 0 ≤ s) : ∀ xs : List Int, rodE s 0 (midP g xs) = rodE s 0 (preM g xs) ∧ rodE s 0 (preM g xs) ≤ g xs ∧ g xs - s ≤ rodE s 0 (preM g xs) := by
  refine snoc_ind ?_ fun xs x ih => ?_
  · rw [g0]
    refine ⟨rfl, ?_⟩
    show (0 : Int) ≤ 0 ∧ 0 - s ≤ (0 : Int)
    omega
  · obtain ⟨i1, i2, i3⟩ := ih
    rw [midP_snoc, preM_snoc, rodE_app, rodE_snoc, i1]
    have e1 : rodE s (rodE s 0 (preM g xs)) (g xs :: stepsI (g xs) (g (xs ++ [x]))) = rodSt s (rodE s 0 (preM g xs)) (g (xs ++ [x])) := by
      show rodE s (rodSt s (rodE s 0 (preM g xs)) (g xs)) (stepsI _ _) = _
      have e2 : rodSt s (rodE s 0 (preM g xs)) (g xs) = rodE s 0 (preM g xs) := by unfold rodSt; omega
      rw [e2]
      exact rod_steps s0 i2 i3
    refine ⟨e1, ?_⟩
    unfold rodSt; omega
theorem FA_mid {g : List Int → Int} (g0 : g [] = 0) (xs : List Int) : ∀ {al : List (Int × Int)}, Pos0 al → FA al (midP g xs) = FA al (preM g xs)
  | [], _ => rfl
  | a :: al, h0 => by
    show a.2 * _ + FA al _ = a.2 * _ + FA al _
    rw [(rod_mid g0 (h0 a.1 List.mem_cons_self) xs).1, FA_mid g0 xs fun k hk => h0 k (List.mem_cons_of_mem _ hk)]
end Pf

namespace Pf
open PySem L2 Z PyProof.Rows
/-! ### trees on rows -/
def pullT : Tr → Int
  | .rod _ => 1
  | .mul a n => pullT a * n
  | .neg a => 0 - pullT a
  | .add a b => pullT a + pullT b
  | .sub a b => pullT a - pullT b
  | .chn a b => pullT b * pullT a
def endT : Tr → List Int → Int
  | .rod s, xs => rodE s 0 xs
  | .mul a n, xs => endT a xs * n
  | .neg a, xs => 0 - endT a xs
  | .add a b, xs => endT a xs + endT b xs
  | .sub a b, xs => endT a xs - endT b xs
  | .chn a b, xs => endT b (midP (endT a) xs)
def upT (a : Tr) : Prop := ∀ h, valT a h ≤ valT a (h + 1)
/-- slacks are 0 or more, what drives goes forward -/
def goodT : Tr → Prop
  | .rod s => 0 ≤ s
  | .mul a _ => goodT a
  | .neg a => goodT a
  | .add a b => goodT a ∧ goodT b
  | .sub a b => goodT a ∧ goodT b
  | .chn a b => goodT a ∧ goodT b ∧ upT a
theorem good_pos : ∀ {t : Tr}, goodT t → posT t
  | .rod _, h => h
  | .mul a _, h => good_pos (t := a) h
  | .neg a, h => good_pos (t := a) h
  | .add a b, h => ⟨good_pos h.1, good_pos h.2⟩
  | .sub a b, h => ⟨good_pos h.1, good_pos h.2⟩
  | .chn a b, h => ⟨good_pos h.1, good_pos h.2.1⟩
theorem tot_pos : ∀ {t : Tr}, posT t → 0 ≤ totT t
  | .rod _, h => h
  | .mul a _, h => tot_pos (t := a) h
  | .neg a, h => tot_pos (t := a) h
  | .add a b, h => Int.add_nonneg (tot_pos h.1) (tot_pos h.2)
  | .sub a b, h => Int.add_nonneg (tot_pos h.1) (tot_pos h.2)
  | .chn a b, h => Int.add_nonneg (tot_pos h.1) (tot_pos h.2)
theorem up_le {a : Tr} {N : Nat} (h : ∀ h, h < N → valT a h ≤ valT a (h + 1)) : ∀ {k M : Nat}, M + k = N → valT a M ≤ valT a N
  | 0, M, e => by subst e; exact Int.le_refl _
  | k + 1, M, e => Int.le_trans (h M (by omega)) (up_le h (k := k) (M := M + 1) (by omega))
theorem up_pos {a : Tr} (hp : posT a) (u : upT a) (h : Nat) : 0 ≤ valT a h := by
  have := up_le (a := a) (N := h) (fun j _ => u j) (k := h) (M := 0) (by omega)
  rw [valT_0 hp] at this
  exact this
theorem end_nil : ∀ {t : Tr}, goodT t → endT t [] = 0
  | .rod _, _ => rfl
  | .mul a n, h => by show endT a [] * n = 0; rw [end_nil (t := a) h]; omega
  | .neg a, h => by show 0 - endT a [] = 0; rw [end_nil (t := a) h]; rfl
  | .add a b, h => by show endT a [] + endT b [] = 0; rw [end_nil h.1, end_nil h.2]; rfl
  | .sub a b, h => by show endT a [] - endT b [] = 0; rw [end_nil h.1, end_nil h.2]; rfl
  | .chn a b, h => by show endT b [] = 0; exact end_nil h.2.1
/-- behind all slacks together the curve goes on evenly -/
theorem lin_tot : ∀ {t : Tr}, goodT t → ∀ h : Nat, totT t ≤ h → valT t (h + 1) - valT t h = pullT t
  | .rod s, g, h, hh => by
    have hh' : s ≤ h := hh
    show max 0 (((h + 1 : Nat) : Int) - s) - max 0 ((h : Int) - s) = 1
    omega
  | .mul a n, g, h, hh => by
    show valT a (h + 1) * n - valT a h * n = pullT a * n
    rw [← Int.sub_mul, lin_tot (t := a) g h hh]
  | .neg a, g, h, hh => by
    have := lin_tot (t := a) g h hh
    show (0 - valT a (h + 1)) - (0 - valT a h) = 0 - pullT a
    omega
  | .add a b, g, h, hh => by
    have pa := tot_pos (good_pos g.1)
    have pb := tot_pos (good_pos g.2)
    have hh' : totT a + totT b ≤ h := hh
    have h1 := lin_tot g.1 h (by omega)
    have h2 := lin_tot g.2 h (by omega)
    show (valT a (h + 1) + valT b (h + 1)) - (valT a h + valT b h) = pullT a + pullT b
    omega
  | .sub a b, g, h, hh => by
    have pa := tot_pos (good_pos g.1)
    have pb := tot_pos (good_pos g.2)
    have hh' : totT a + totT b ≤ h := hh
    have h1 := lin_tot g.1 h (by omega)
    have h2 := lin_tot g.2 h (by omega)
    show (valT a (h + 1) - valT b (h + 1)) - (valT a h - valT b h) = pullT a - pullT b
    omega
  | .chn a b, g, h, hh => by
    have ppa := good_pos g.1
    have pa := tot_pos ppa
    have pb := tot_pos (good_pos g.2.1)
    have hh' : totT a + totT b ≤ h := hh
    have h1 := lin_tot g.1 h (by omega)
    have up := g.2.2
    have p0 : 0 ≤ pullT a := by have := up h; omega
    have v0 := up_pos ppa up h
    have v1 := up_pos ppa up (h + 1)
    show valT b (valT a (h + 1)).toNat - valT b (valT a h).toNat = pullT b * pullT a
    by_cases c : pullT a = 0
    · have : valT a (h + 1) = valT a h := by omega
      rw [this, c]; omega
    · -- the height of what drives is beyond all slacks of the driven one
      have grow : ∀ k : Nat, (k : Int) ≤ valT a ((totT a).toNat + k) := by
        intro k
        induction k with
        | zero => exact up_pos ppa up _
        | succ k ih =>
          have := lin_tot g.1 ((totT a).toNat + k) (by omega)
          have e : (totT a).toNat + (k + 1) = (totT a).toNat + k + 1 := by omega
          rw [e]
          omega
      have big : totT b ≤ valT a h := by
        have := grow (h - (totT a).toNat)
        have e : (totT a).toNat + (h - (totT a).toNat) = h := by omega
        rw [e] at this
        omega
      have run : ∀ (n m : Nat), totT b ≤ m → valT b (m + n) - valT b m = pullT b * n := by
        intro n
        induction n with
        | zero => intro m _; show valT b m - valT b m = pullT b * 0; omega
        | succ n ih =>
          intro m hm
          have h1 := ih m hm
          have h2 := lin_tot g.2.1 (m + n) (by omega)
          have e : pullT b * ((n + 1 : Nat) : Int) = pullT b * n + pullT b := by
            rw [Int.natCast_add, Int.mul_add]; simp
          rw [e]
          show valT b (m + n + 1) - _ = _
          omega
      have e1 : (valT a (h + 1)).toNat = (valT a h).toNat + (pullT a).toNat := by omega
      rw [e1, run _ _ (by omega)]
      have e2 : (((pullT a).toNat : Nat) : Int) = pullT a := by omega
      rw [e2]
theorem lin_run {t : Tr} (g : goodT t) {N : Nat} (hN : totT t ≤ N) : ∀ n : Nat, valT t (N + n) = valT t N + n * pullT t
  | 0 => by show valT t N = valT t N + 0 * _; omega
  | n + 1 => by
    have h1 := lin_run g hN n
    have h2 := lin_tot g (N + n) (by omega)
    have e : (((n + 1 : Nat) : Int)) * pullT t = n * pullT t + pullT t := by rw [Int.natCast_add, Int.add_mul]; simp
    show valT t (N + n + 1) = _
    rw [e]
    omega
/-- the arms of a tree -/
def topT (t : Tr) : Nat := (totT t).toNat + 1
def armT (t : Tr) : List (Int × Int) := arcA (valT t) (topT t)
theorem armT_nrm (t : Tr) : Nrm (armT t) := arcA_nrm _ _
theorem armT_pos (t : Tr) : Pos0 (armT t) := fun k hk => (arcA_keys hk).1
theorem armT_key {t : Tr} (k : Int) (hk : k ∈ (armT t).map (·.1)) : k < topT t := (arcA_keys hk).2
theorem armT_slope {t : Tr} (g : goodT t) (m : Nat) : slopeA (armT t) (topT t + m) = pullT t := by
  rw [slope_far (fun k hk => armT_key k hk)]
  have z := arc_slope (e := valT t) (n := topT t) (m := topT t) (Nat.le_refl _)
  rw [if_neg (by unfold topT; omega)] at z
  have hp := tot_pos (good_pos g)
  have l := lin_tot g (totT t).toNat (by omega)
  show slopeA (arcA (valT t) (topT t)) (topT t) = _
  rw [z]
  exact l
theorem armT_fA {t : Tr} (g : goodT t) (n : Nat) : fA (armT t) n = valT t n := by
  have v0 := valT_0 (good_pos g)
  by_cases h : n ≤ topT t
  · exact arc_fA v0 h
  · obtain ⟨m, rfl⟩ : ∃ m, n = topT t + m := ⟨n - topT t, by omega⟩
    rw [fA_far (fun k hk => by have := armT_key k hk; omega) m]
    have e1 : fA (armT t) (topT t) = valT t (topT t) := arc_fA v0 (Nat.le_refl _)
    rw [e1, armT_slope g 1, lin_run g (by have := tot_pos (good_pos g); unfold topT; omega)]
theorem armT_hgt {t : Tr} (g : goodT t) (n : Nat) : hgtA (armT t) (n : Int) = valT t n := by
  rw [hgtA_fA (armT_nrm t).nd (armT_pos t), armT_fA g]
theorem slope_sum : ∀ {al : List (Int × Int)} {N : Nat}, (al.map (·.1)).Nodup → Pos0 al → (∀ k ∈ al.map (·.1), k < (N : Int)) → slopeA al N = pullA al
  | [], N, _, _, _ => (fA_nil N).2
  | a :: al, N, nd, p0, hk => by
    rw [List.map_cons, List.nodup_cons] at nd
    rw [slopeA_cons nd.1 (p0 a.1 List.mem_cons_self), if_pos (hk a.1 List.mem_cons_self), slope_sum nd.2 (fun k h => p0 k (List.mem_cons_of_mem _ h)) fun k h => hk k (List.mem_cons_of_mem _ h)]
    rfl
theorem armT_pull {t : Tr} (g : goodT t) : pullA (armT t) = pullT t := by
  rw [← slope_sum (armT_nrm t).nd (armT_pos t) (fun k hk => armT_key k hk)]
  exact armT_slope g 0
/-- the end of a tree, by the memory; by its arms -/
theorem endT_mem : ∀ {t : Tr}, goodT t → ∀ xs : List Int, endT t xs = ZM (valT t) (pullT t) (memF xs)
  | .rod s, g, xs => rod_mem g xs
  | .mul a n, g, xs => by
    show endT a xs * n = _
    rw [endT_mem (t := a) g]
    have e := Phi_lin (fun _ => 0) (valT a) n (memF xs) true
    have z : ∀ ms : List Int, Phi (fun _ => (0 : Int)) true ms = 0 := fun ms => by
      have := Phi_lin (fun _ => 0) (fun _ => 0) 1 ms true
      simp at this
      omega
    unfold ZM
    have e2 : Phi (valT (.mul a n)) true (memF xs) = n * Phi (valT a) true (memF xs) := by
      rw [← Phi_cong (f := fun h => 0 + n * valT a h) (fun h => by show 0 + n * valT a h = valT a h * n; rw [Int.mul_comm]; omega), e, z]; omega
    rw [e2]
    show _ = pullT a * n * _ + _
    rw [Int.add_mul, Int.mul_right_comm, Int.mul_comm n]
  | .neg a, g, xs => by
    show 0 - endT a xs = _
    rw [endT_mem (t := a) g]
    have e := Phi_lin (fun _ => 0) (valT a) (-1) (memF xs) true
    have z : ∀ ms : List Int, Phi (fun _ => (0 : Int)) true ms = 0 := fun ms => by
      have := Phi_lin (fun _ => 0) (fun _ => 0) 1 ms true
      simp at this
      omega
    unfold ZM
    have e2 : Phi (valT (.neg a)) true (memF xs) = - Phi (valT a) true (memF xs) := by
      rw [← Phi_cong (f := fun h => 0 + -1 * valT a h) (fun h => by show 0 + -1 * valT a h = 0 - valT a h; omega), e, z]; omega
    rw [e2]
    show _ = (0 - pullT a) * _ + _
    rw [Int.sub_mul]; omega
  | .add a b, g, xs => by
    show endT a xs + endT b xs = _
    rw [endT_mem g.1, endT_mem g.2]
    have e := Phi_lin (valT a) (valT b) 1 (memF xs) true
    unfold ZM
    rw [← Phi_cong (f := fun h => valT a h + 1 * valT b h) (g := valT (.add a b)) (fun h => by show valT a h + 1 * valT b h = valT a h + valT b h; omega), e]
    show _ = (pullT a + pullT b) * _ + _
    rw [Int.add_mul]; omega
  | .sub a b, g, xs => by
    show endT a xs - endT b xs = _
    rw [endT_mem g.1, endT_mem g.2]
    have e := Phi_lin (valT a) (valT b) (-1) (memF xs) true
    unfold ZM
    rw [← Phi_cong (f := fun h => valT a h + -1 * valT b h) (g := valT (.sub a b)) (fun h => by show valT a h + -1 * valT b h = valT a h - valT b h; omega), e]
    show _ = (pullT a - pullT b) * _ + _
    rw [Int.sub_mul]; omega
  | .chn a b, g, xs => by
    show endT b (midP (endT a) xs) = _
    have ppa := good_pos g.1
    have hb : ∀ ys, endT b ys = FA (armT b) ys := fun ys => by
      rw [endT_mem g.2.1, FA_mem (armT_pos b)]
      exact ZM_cong (fun n => (armT_hgt g.2.1 n).symm) (armT_pull g.2.1).symm _
    have p0 : 0 ≤ pullT a := by
      have hp := tot_pos ppa
      have := lin_tot g.1 (totT a).toNat (by omega)
      have := g.2.2 (totT a).toNat
      omega
    rw [hb, FA_mid (end_nil g.1) xs (armT_pos b)]
    have e1 : preM (endT a) xs = preM (fun ys => ZM (valT a) (pullT a) (memF ys)) xs := by
      unfold preM
      exact List.map_congr_left fun k _ => endT_mem g.1 _
    rw [e1, FA_play (valT_0 ppa) g.2.2 p0 xs (armT_pos b)]
    refine ZM_cong (fun n => ?_) (by rw [armT_pull g.2.1]; rfl) _
    show hgtA (armT b) (valT a n) = valT b (valT a n).toNat
    rw [← armT_hgt g.2.1]
    have : (((valT a n).toNat : Nat) : Int) = valT a n := by have := up_pos ppa g.2.2 n; omega
    rw [this]
theorem endT_FA {t : Tr} (g : goodT t) (xs : List Int) : endT t xs = FA (armT t) xs := by
  rw [endT_mem g, FA_mem (armT_pos t)]
  exact ZM_cong (fun n => (armT_hgt g n).symm) (armT_pull g).symm _
/-- what a rig with these arms does on a row -/
theorem armsEs_FA : ∀ (al : List (Int × Int)) (ps init : List Int), init.length = ps.length → armsEs ps init al = (List.range ps.length).map fun k => init.getD k 0 + FA al (ps.take (k + 1)) := by
  have rodEs_eq : ∀ (s : Int) (ps : List Int) (e : Int), rodEs s e ps = (List.range ps.length).map fun k => rodE s e (ps.take (k + 1)) := by
    intro s ps
    induction ps with
    | nil => intro e; rfl
    | cons p ps ih =>
      intro e
      show rodSt s e p :: rodEs s (rodSt s e p) ps = (List.range (ps.length + 1)).map _
      rw [ih, List.range_succ_eq_map, List.map_cons, List.map_map]
      rfl
  have addE_eq : ∀ (c : Int) (es fs : List Int), es.length = fs.length → addE c es fs = (List.range es.length).map fun k => es.getD k 0 + c * fs.getD k 0 := by
    intro c es
    induction es with
    | nil => intro fs h; cases fs <;> first | rfl | (simp at h)
    | cons e es ih =>
      intro fs h
      cases fs with
      | nil => simp at h
      | cons f fs =>
        show (e + c * f) :: addE c es fs = (List.range (es.length + 1)).map _
        rw [ih fs (by simpa using h), List.range_succ_eq_map, List.map_cons, List.map_map]
        rfl
  intro al
  induction al with
  | nil =>
    intro ps init h
    show init = _
    apply List.ext_getElem?
    intro i
    rw [List.getElem?_map]
    by_cases hi : i < ps.length
    · rw [List.getElem?_range hi]
      show _ = some (init.getD i 0 + 0)
      rw [List.getD_eq_getElem?_getD, List.getElem?_eq_getElem (by omega)]
      simp
    · rw [List.getElem?_eq_none (by omega), List.getElem?_eq_none (by rw [List.length_range]; omega)]; rfl
  | cons a al ih =>
    intro ps init h
    show armsEs ps (addE a.2 init (rodEs a.1 0 ps)) al = _
    have hl : (rodEs a.1 0 ps).length = ps.length := rodEs_len _ _ _
    rw [ih ps _ (by rw [addE_len _ _ _ (by rw [hl]; exact h)]; exact h)]
    refine List.map_congr_left fun k hk => ?_
    have hk' := List.mem_range.mp hk
    rw [addE_eq _ _ _ (by rw [hl]; exact h), rodEs_eq]
    have e1 : (List.map (fun k => init.getD k 0 + a.2 * (List.map (fun k => rodE a.1 0 (List.take (k + 1) ps)) (List.range ps.length)).getD k 0) (List.range init.length)).getD k 0 = init.getD k 0 + a.2 * rodE a.1 0 (ps.take (k + 1)) := by
      rw [List.getD_eq_getElem?_getD, List.getElem?_map, List.getElem?_range (by omega)]
      have e2 : (List.map (fun k => rodE a.1 0 (List.take (k + 1) ps)) (List.range ps.length)).getD k 0 = rodE a.1 0 (List.take (k + 1) ps) := by
        rw [List.getD_eq_getElem?_getD, List.getElem?_map, List.getElem?_range hk']; rfl
      show init.getD k 0 + a.2 * (List.map _ (List.range ps.length)).getD k 0 = _
      rw [e2]
    rw [e1]
    show _ = init.getD k 0 + (a.2 * rodE a.1 0 _ + FA al _)
    omega
theorem armsEs_tree {t : Tr} (g : goodT t) (row : List Int) : armsEs row (row.map fun _ => 0) (armT t) = (List.range row.length).map fun k => endT t (row.take (k + 1)) := by
  rw [armsEs_FA _ _ _ (by simp)]
  refine List.map_congr_left fun k hk => ?_
  rw [endT_FA g]
  have : (row.map fun _ => (0 : Int)).getD k 0 = 0 := by
    rw [List.getD_eq_getElem?_getD, List.getElem?_map]
    cases row[k]? <;> rfl
  rw [this]; omega
end Pf

namespace Pf
open PySem L2 Z PyProof.Rows
/-! ### trees and their arms: limits, sums, chains -/
/-! limits -/
/-- how far the end goes at most at one step -/
def lipT : Tr → Nat
  | .rod _ => 1
  | .mul a n => lipT a * n.natAbs
  | .neg a => lipT a
  | .add a b => lipT a + lipT b
  | .sub a b => lipT a + lipT b
  | .chn a b => lipT a * lipT b
theorem lip_run {t : Tr} (h1 : ∀ h, (valT t (h + 1) - valT t h).natAbs ≤ lipT t) (m : Nat) : ∀ n : Nat, (valT t (m + n) - valT t m).natAbs ≤ n * lipT t
  | 0 => by rw [Nat.add_zero, Int.sub_self]; exact Nat.zero_le _
  | n + 1 => by
    have a := lip_run h1 m n
    have b := h1 (m + n)
    have e : valT t (m + (n + 1)) - valT t m = (valT t (m + n + 1) - valT t (m + n)) + (valT t (m + n) - valT t m) := by rw [Nat.add_assoc]; omega
    rw [e]
    have := Int.natAbs_add_le (valT t (m + n + 1) - valT t (m + n)) (valT t (m + n) - valT t m)
    rw [Nat.add_mul]
    omega
theorem lip_val : ∀ {t : Tr}, goodT t → ∀ h, (valT t (h + 1) - valT t h).natAbs ≤ lipT t
  | .rod s, g, h => by
    show (max 0 (((h + 1 : Nat) : Int) - s) - max 0 ((h : Int) - s)).natAbs ≤ 1
    omega
  | .mul a n, g, h => by
    show (valT a (h + 1) * n - valT a h * n).natAbs ≤ lipT a * n.natAbs
    rw [← Int.sub_mul, Int.natAbs_mul]
    exact Nat.mul_le_mul_right _ (lip_val (t := a) g h)
  | .neg a, g, h => by
    have := lip_val (t := a) g h
    show ((0 - valT a (h + 1)) - (0 - valT a h)).natAbs ≤ lipT a
    omega
  | .add a b, g, h => by
    have h1 := lip_val g.1 h
    have h2 := lip_val g.2 h
    show ((valT a (h + 1) + valT b (h + 1)) - (valT a h + valT b h)).natAbs ≤ lipT a + lipT b
    omega
  | .sub a b, g, h => by
    have h1 := lip_val g.1 h
    have h2 := lip_val g.2 h
    show ((valT a (h + 1) - valT b (h + 1)) - (valT a h - valT b h)).natAbs ≤ lipT a + lipT b
    omega
  | .chn a b, g, h => by
    have h1 := lip_val g.1 h
    have p := up_pos (good_pos g.1) g.2.2 h
    have u := g.2.2 h
    obtain ⟨n, hn⟩ : ∃ n : Nat, (valT a (h + 1)).toNat = (valT a h).toNat + n := ⟨(valT a (h + 1)).toNat - (valT a h).toNat, by omega⟩
    show (valT b (valT a (h + 1)).toNat - valT b (valT a h).toNat).natAbs ≤ lipT a * lipT b
    rw [hn]
    refine Nat.le_trans (lip_run (lip_val g.2.1) _ n) (Nat.mul_le_mul_right _ ?_)
    omega
/-- how many arms there are at most -/
def cntT : Tr → Nat
  | .rod _ => 1
  | .mul a _ => cntT a
  | .neg a => cntT a
  | .add a b => cntT a + cntT b
  | .sub a b => cntT a + cntT b
  | .chn a b => cntT a + (if lipT a ≤ 1 then 1 else 2) * cntT b
def bendT (t : Tr) (k : Nat) : Int := valT t (k + 1) - valT t k - pullE (valT t) k
theorem bend_0 (t : Tr) (g : goodT t) : bendT t 0 = valT t 1 := by
  have := valT_0 (good_pos g)
  show valT t 1 - valT t 0 - 0 = valT t 1
  omega
theorem bend_S (t : Tr) (k : Nat) : bendT t (k + 1) = valT t (k + 2) - valT t (k + 1) - (valT t (k + 1) - valT t k) := by
  unfold bendT pullE
  rw [if_neg (by omega)]; rfl
theorem min_nat {P : Nat → Prop} : ∀ {n : Nat}, P n → ∃ m, P m ∧ ∀ j, P j → m ≤ j := by
  intro n
  induction n using Nat.strongRecOn with
  | ind n ih =>
    intro h
    by_cases c : ∃ j, j < n ∧ P j
    · obtain ⟨j, hj, pj⟩ := c
      exact ih j hj pj
    · exact ⟨n, h, fun j pj => Nat.le_of_not_lt fun l => c ⟨j, l, pj⟩⟩
theorem even_run {b : Tr} {x : Nat} : ∀ (n : Nat), (∀ j, x < j → j < x + n → bendT b j = 0) → ∀ i, i < n → valT b (x + i + 1) - valT b (x + i) = valT b (x + 1) - valT b x
  | n, h, 0, hi => rfl
  | n, h, i + 1, hi => by
    have a := even_run n h i (by omega)
    have c := h (x + i + 1) (by omega) (by omega)
    rw [bend_S] at c
    have e : x + (i + 1) = x + i + 1 := rfl
    rw [e]
    have e2 : x + i + 1 + 1 = x + i + 2 := rfl
    rw [e2]
    omega
theorem even_go {b : Tr} {x : Nat} (n : Nat) (h : ∀ j, x < j → j < x + n → bendT b j = 0) : ∀ i, i ≤ n → valT b (x + i) - valT b x = (i : Int) * (valT b (x + 1) - valT b x)
  | 0, _ => by rw [Nat.add_zero]; omega
  | i + 1, hi => by
    have a := even_go n h i (by omega)
    have c := even_run n h i (by omega)
    have e : x + (i + 1) = x + i + 1 := rfl
    rw [e, show ((i + 1 : Nat) : Int) = (i : Int) + 1 by omega, Int.add_mul]
    omega
theorem pts : ∀ {t : Tr}, goodT t → ∃ l : List Nat, l.length ≤ cntT t ∧ ∀ k : Nat, bendT t k ≠ 0 → k ∈ l
  | .rod s, g => ⟨[s.toNat], Nat.le_refl _, fun k h => by
    have g' : 0 ≤ s := g
    rw [List.mem_singleton]
    cases k with
    | zero => rw [bend_0 _ g] at h; have h' : max 0 (((1 : Nat) : Int) - s) ≠ 0 := h; omega
    | succ k =>
      rw [bend_S] at h
      have h' : max 0 (((k + 2 : Nat) : Int) - s) - max 0 (((k + 1 : Nat) : Int) - s) - (max 0 (((k + 1 : Nat) : Int) - s) - max 0 ((k : Int) - s)) ≠ 0 := h
      omega⟩
  | .mul a n, g => by
    obtain ⟨l, hl, hm⟩ := pts (t := a) g
    refine ⟨l, hl, fun k h => hm k fun z => h ?_⟩
    cases k with
    | zero => rw [bend_0 a g] at z; rw [bend_0 (.mul a n) g]; show valT a 1 * n = 0; rw [z, Int.zero_mul]
    | succ k =>
      rw [bend_S] at z ⊢
      show valT a (k + 2) * n - valT a (k + 1) * n - (valT a (k + 1) * n - valT a k * n) = 0
      rw [← Int.sub_mul, ← Int.sub_mul, ← Int.sub_mul, z, Int.zero_mul]
  | .neg a, g => by
    obtain ⟨l, hl, hm⟩ := pts (t := a) g
    refine ⟨l, hl, fun k h => hm k fun z => h ?_⟩
    cases k with
    | zero => rw [bend_0 a g] at z; rw [bend_0 (.neg a) g]; show 0 - valT a 1 = 0; omega
    | succ k =>
      rw [bend_S] at z ⊢
      show (0 - valT a (k + 2)) - (0 - valT a (k + 1)) - ((0 - valT a (k + 1)) - (0 - valT a k)) = 0
      omega
  | .add a b, g => by
    obtain ⟨l, hl, hm⟩ := pts g.1
    obtain ⟨l', hl', hm'⟩ := pts g.2
    refine ⟨l ++ l', by rw [List.length_append]; exact Nat.add_le_add hl hl', fun k h => List.mem_append.mpr ?_⟩
    by_cases z : bendT a k = 0
    · refine .inr (hm' k fun z' => h ?_)
      cases k with
      | zero => rw [bend_0 a g.1] at z; rw [bend_0 b g.2] at z'; rw [bend_0 (.add a b) g]; show valT a 1 + valT b 1 = 0; omega
      | succ k =>
        rw [bend_S] at z z' ⊢
        show (valT a (k + 2) + valT b (k + 2)) - (valT a (k + 1) + valT b (k + 1)) - ((valT a (k + 1) + valT b (k + 1)) - (valT a k + valT b k)) = 0
        omega
    · exact .inl (hm k z)
  | .sub a b, g => by
    obtain ⟨l, hl, hm⟩ := pts g.1
    obtain ⟨l', hl', hm'⟩ := pts g.2
    refine ⟨l ++ l', by rw [List.length_append]; exact Nat.add_le_add hl hl', fun k h => List.mem_append.mpr ?_⟩
    by_cases z : bendT a k = 0
    · refine .inr (hm' k fun z' => h ?_)
      cases k with
      | zero => rw [bend_0 a g.1] at z; rw [bend_0 b g.2] at z'; rw [bend_0 (.sub a b) g]; show valT a 1 - valT b 1 = 0; omega
      | succ k =>
        rw [bend_S] at z z' ⊢
        show (valT a (k + 2) - valT b (k + 2)) - (valT a (k + 1) - valT b (k + 1)) - ((valT a (k + 1) - valT b (k + 1)) - (valT a k - valT b k)) = 0
        omega
    · exact .inl (hm k z)
  | .chn a b, g => by
    obtain ⟨l, hl, hm⟩ := pts g.1
    obtain ⟨l', hl', hm'⟩ := pts g.2.1
    have v0 := valT_0 (good_pos g.1)
    have b0 := valT_0 (good_pos g.2.1)
    have pos := fun h => up_pos (good_pos g.1) g.2.2 h
    have le : ∀ {i j : Nat}, i ≤ j → valT a i ≤ valT a j := fun {i j} hij => up_le (a := a) (N := j) (fun q _ => g.2.2 q) (k := j - i) (M := i) (by omega)
    -- where a bend of b is passed
    have one : ∀ j : Nat, ∃ q : List Nat, q.length ≤ (if lipT a ≤ 1 then 1 else 2) ∧ ∀ k : Nat, valT a k < j → (j : Int) < valT a (k + 2) → k + 1 ∈ q := by
      intro j
      by_cases ex : ∃ k : Nat, valT a k < j ∧ (j : Int) < valT a (k + 2)
      · obtain ⟨k, hk⟩ := ex
        obtain ⟨m, hm, mi⟩ := min_nat (P := fun k : Nat => valT a k < j ∧ (j : Int) < valT a (k + 2)) hk
        by_cases c : lipT a ≤ 1
        · refine ⟨[m + 1], by rw [if_pos c]; exact Nat.le_refl _, fun k h1 h2 => ?_⟩
          have h3 := mi k ⟨h1, h2⟩
          have s1 := lip_val g.1 m
          have s2 := lip_val g.1 (m + 1)
          have e2 : m + 1 + 1 = m + 2 := rfl
          rw [e2] at s2
          by_cases d : k = m
          · subst d; exact List.mem_cons_self
          · have := le (i := m + 1) (j := k) (by omega)
            omega
        · refine ⟨[m + 1, m + 2], by rw [if_neg c]; exact Nat.le_refl _, fun k h1 h2 => ?_⟩
          have h3 := mi k ⟨h1, h2⟩
          by_cases d : k < m + 2
          · have : k = m ∨ k = m + 1 := by omega
            rcases this with rfl | rfl <;> simp
          · have := le (i := m + 2) (j := k) (by omega)
            omega
      · exact ⟨[], Nat.zero_le _, fun k h1 h2 => absurd ⟨k, h1, h2⟩ ex⟩
    have many : ∀ l' : List Nat, ∃ q : List Nat, q.length ≤ (if lipT a ≤ 1 then 1 else 2) * l'.length ∧ ∀ k : Nat, ∀ j ∈ l', valT a k < (j : Int) → (j : Int) < valT a (k + 2) → k + 1 ∈ q := by
      intro l'
      induction l' with
      | nil => exact ⟨[], Nat.zero_le _, fun k j hj => by cases hj⟩
      | cons j l' ih =>
        obtain ⟨q, h1, h2⟩ := ih
        obtain ⟨p, h3, h4⟩ := one j
        refine ⟨p ++ q, by rw [List.length_append, List.length_cons, Nat.mul_add, Nat.mul_one]; omega, fun k i hi c1 c2 => List.mem_append.mpr ?_⟩
        rcases List.mem_cons.mp hi with rfl | hi
        · exact .inl (h4 k c1 c2)
        · exact .inr (h2 k i hi c1 c2)
    obtain ⟨q, hq, hqm⟩ := many l'
    refine ⟨l ++ q, ?_, fun k h => List.mem_append.mpr ?_⟩
    · rw [List.length_append]
      exact Nat.add_le_add hl (Nat.le_trans hq (Nat.mul_le_mul_left _ hl'))
    · by_cases z : bendT a k = 0
      · refine .inr ?_
        cases k with
        | zero =>
          rw [bend_0 a g.1] at z
          refine absurd ?_ h
          rw [bend_0 (.chn a b) g]
          show valT b (valT a 1).toNat = 0
          rw [z]; exact b0
        | succ k =>
          rw [bend_S] at z
          have p0 := pos k
          have u1 := g.2.2 k
          obtain ⟨x, hx⟩ := Int.eq_ofNat_of_zero_le p0
          obtain ⟨d, hd⟩ : ∃ d : Nat, valT a (k + 1) = ((x + d : Nat) : Int) := ⟨(valT a (k + 1) - x).toNat, by omega⟩
          have hd2 : valT a (k + 2) = ((x + (d + d) : Nat) : Int) := by omega
          by_cases ex : ∃ j : Nat, x < j ∧ j < x + (d + d) ∧ bendT b j ≠ 0
          · obtain ⟨j, j1, j2, j3⟩ := ex
            exact hqm k j (hm' j j3) (by omega) (by omega)
          · have ev : ∀ j, x < j → j < x + (d + d) → bendT b j = 0 := fun j j1 j2 => Classical.byContradiction fun j3 => ex ⟨j, j1, j2, j3⟩
            refine absurd ?_ h
            rw [bend_S]
            show valT b (valT a (k + 2)).toNat - valT b (valT a (k + 1)).toNat - (valT b (valT a (k + 1)).toNat - valT b (valT a k).toNat) = 0
            rw [hx, hd, hd2, Int.toNat_natCast, Int.toNat_natCast, Int.toNat_natCast]
            have e1 := even_go (d + d) ev d (by omega)
            have e2 := even_go (d + d) ev (d + d) (Nat.le_refl _)
            rw [show ((d + d : Nat) : Int) = (d : Int) + d by omega, Int.add_mul] at e2
            omega
      · exact .inl (hm k z)
theorem sub_len {α : Type} [BEq α] [LawfulBEq α] : ∀ {l l' : List α}, l.Nodup → (∀ x ∈ l, x ∈ l') → l.length ≤ l'.length
  | [], _, _, _ => Nat.zero_le _
  | x :: l, l', nd, h => by
    rw [List.nodup_cons] at nd
    have hx := h x List.mem_cons_self
    have := sub_len (l := l) (l' := l'.erase x) nd.2 fun y hy => (List.mem_erase_of_ne (fun e => nd.1 (by rw [← e]; exact hy))).mpr (h y (List.mem_cons_of_mem _ hy))
    rw [List.length_erase_of_mem hx] at this
    have : 0 < l'.length := List.length_pos_of_mem hx
    rw [List.length_cons]
    omega
theorem armT_cf {t : Tr} (k : Nat) (h : (k : Int) ∈ (armT t).map (·.1)) : cf (armT t) (k : Int) = bendT t k := by
  have := armT_key _ h
  show cf (arcA (valT t) (topT t)) (k : Int) = _
  rw [arcA_cf, if_pos (by omega)]; rfl
theorem armT_in {t : Tr} {p : Int × Int} (h : p ∈ armT t) : ∃ k : Nat, p.1 = k ∧ p.2 = bendT t k ∧ p.2 ≠ 0 := by
  have hm : p.1 ∈ (armT t).map (·.1) := List.mem_map.mpr ⟨p, h, rfl⟩
  obtain ⟨k, hk⟩ := Int.eq_ofNat_of_zero_le (armT_pos t _ hm)
  refine ⟨k, hk, ?_, (armT_nrm t).2 p h⟩
  rw [← armT_cf k (hk ▸ hm), ← hk]
  unfold cf
  rw [getI_of_nd (armT_nrm t).nd h]; rfl
theorem armT_len {t : Tr} (g : goodT t) : (armT t).length ≤ cntT t := by
  obtain ⟨l, hl, hm⟩ := pts g
  have := sub_len (l := (armT t).map (·.1)) (l' := l.map fun k : Nat => (k : Int)) (armT_nrm t).nd fun x hx => by
    obtain ⟨p, hp, rfl⟩ := List.mem_map.mp hx
    obtain ⟨k, e, e2, n0⟩ := armT_in hp
    exact List.mem_map.mpr ⟨k, hm k (e2 ▸ n0), e.symm⟩
  rw [List.length_map, List.length_map] at this
  omega
/-- within the limits of a rig -/
def okT (t : Tr) : Prop := goodT t ∧ cntT t ≤ 60 ∧ totT t ≤ 900 ∧ lipT t ≤ 400000
theorem okT_arms {t : Tr} (h : okT t) : okA (armT t) := by
  obtain ⟨g, hc, ht, hl⟩ := h
  refine ⟨Nat.le_trans (armT_len g) hc, fun p hp => ?_⟩
  obtain ⟨k, e, e2, n0⟩ := armT_in hp
  have hk := armT_key p.1 (List.mem_map.mpr ⟨p, hp, rfl⟩)
  have tp := tot_pos (good_pos g)
  unfold topT at hk
  have b : (bendT t k).natAbs ≤ 2 * lipT t := by
    cases k with
    | zero =>
      rw [bend_0 t g]
      have := lip_val g 0
      rw [valT_0 (good_pos g)] at this
      have this : (valT t 1 - 0).natAbs ≤ lipT t := this
      omega
    | succ k =>
      rw [bend_S]
      have h1 := lip_val g k
      have h2 := lip_val g (k + 1)
      have e : k + 1 + 1 = k + 2 := rfl
      rw [e] at h2
      omega
  rw [e2]
  omega
end Pf

namespace Pf
open PySem L2 Z PyProof.Rows
/-! ### how far trees go -/
def rngT : Tr → Nat
  | .rod _ => 1
  | .mul a n => rngT a * (n.natAbs + 1)
  | .neg a => rngT a
  | .add a b => rngT a + rngT b
  | .sub a b => rngT a + rngT b
  | .chn a b => rngT a * rngT b
/-- a tree of the laws: small slacks and numbers -/
def limT : Tr → Prop
  | .rod s => 0 ≤ s ∧ s ≤ 6
  | .mul a n => limT a ∧ -3 ≤ n ∧ n ≤ 3
  | .neg a => limT a
  | .add a b => limT a ∧ limT b
  | .sub a b => limT a ∧ limT b
  | .chn a b => limT a ∧ limT b
def capT : Nat → Nat
  | 0 => 1
  | n + 1 => max (4 * capT n) (capT n * capT n)
/-! by depth -/
theorem cap_pos : ∀ n, 1 ≤ capT n
  | 0 => Nat.le_refl _
  | n + 1 => Nat.le_trans (Nat.le_trans (cap_pos n) (by omega : capT n ≤ 4 * capT n)) (Nat.le_max_left _ _)
theorem cap_up (n : Nat) : capT n ≤ capT (n + 1) := Nat.le_trans (by omega : capT n ≤ 4 * capT n) (Nat.le_max_left _ _)
theorem rng_cap : ∀ {t : Tr} {n : Nat}, limT t → depT t ≤ n → rngT t ≤ capT n
  | .rod _, n, _, _ => cap_pos n
  | .mul a m, n + 1, h, d => by
    have := rng_cap (t := a) (n := n) h.1 (by have : depT a + 1 ≤ n + 1 := d; omega)
    have h2 := h.2
    refine Nat.le_trans (Nat.mul_le_mul this (by omega : m.natAbs + 1 ≤ 4)) (Nat.le_trans (by omega : capT n * 4 ≤ 4 * capT n) (Nat.le_max_left _ _))
  | .neg a, n + 1, h, d => Nat.le_trans (rng_cap (t := a) (n := n) h (by have : depT a + 1 ≤ n + 1 := d; omega)) (cap_up n)
  | .add a b, n + 1, h, d => by
    have d' : max (depT a) (depT b) + 1 ≤ n + 1 := d
    have h1 := rng_cap (t := a) (n := n) h.1 (by omega)
    have h2 := rng_cap (t := b) (n := n) h.2 (by omega)
    exact Nat.le_trans (Nat.add_le_add h1 h2) (Nat.le_trans (by omega) (Nat.le_max_left _ _))
  | .sub a b, n + 1, h, d => by
    have d' : max (depT a) (depT b) + 1 ≤ n + 1 := d
    have h1 := rng_cap (t := a) (n := n) h.1 (by omega)
    have h2 := rng_cap (t := b) (n := n) h.2 (by omega)
    exact Nat.le_trans (Nat.add_le_add h1 h2) (Nat.le_trans (by omega) (Nat.le_max_left _ _))
  | .chn a b, n + 1, h, d => by
    have d' : max (depT a) (depT b) + 1 ≤ n + 1 := d
    have h1 := rng_cap (t := a) (n := n) h.1 (by omega)
    have h2 := rng_cap (t := b) (n := n) h.2 (by omega)
    exact Nat.le_trans (Nat.mul_le_mul h1 h2) (Nat.le_max_right _ _)
theorem lip_rng : ∀ t, lipT t ≤ rngT t
  | .rod _ => Nat.le_refl _
  | .mul a n => Nat.mul_le_mul (lip_rng a) (Nat.le_succ _)
  | .neg a => lip_rng a
  | .add a b => Nat.add_le_add (lip_rng a) (lip_rng b)
  | .sub a b => Nat.add_le_add (lip_rng a) (lip_rng b)
  | .chn a b => Nat.mul_le_mul (lip_rng a) (lip_rng b)
def tcapT : Nat → Int
  | 0 => 6
  | n + 1 => 2 * tcapT n
theorem tcap_pos : ∀ n, 6 ≤ tcapT n
  | 0 => Int.le_refl _
  | n + 1 => by have := tcap_pos n; show 6 ≤ 2 * tcapT n; omega
theorem tot_cap : ∀ {t : Tr} {n : Nat}, limT t → depT t ≤ n → totT t ≤ tcapT n
  | .rod s, n, h, _ => Int.le_trans h.2 (tcap_pos n)
  | .mul a m, n + 1, h, d => by
    have := tot_cap (t := a) (n := n) h.1 (by have : depT a + 1 ≤ n + 1 := d; omega)
    have p := tcap_pos n
    show totT a ≤ 2 * tcapT n; omega
  | .neg a, n + 1, h, d => by
    have := tot_cap (t := a) (n := n) h (by have : depT a + 1 ≤ n + 1 := d; omega)
    have p := tcap_pos n
    show totT a ≤ 2 * tcapT n; omega
  | .add a b, n + 1, h, d => by
    have d' : max (depT a) (depT b) + 1 ≤ n + 1 := d
    have h1 := tot_cap (t := a) (n := n) h.1 (by omega)
    have h2 := tot_cap (t := b) (n := n) h.2 (by omega)
    show totT a + totT b ≤ 2 * tcapT n; omega
  | .sub a b, n + 1, h, d => by
    have d' : max (depT a) (depT b) + 1 ≤ n + 1 := d
    have h1 := tot_cap (t := a) (n := n) h.1 (by omega)
    have h2 := tot_cap (t := b) (n := n) h.2 (by omega)
    show totT a + totT b ≤ 2 * tcapT n; omega
  | .chn a b, n + 1, h, d => by
    have d' : max (depT a) (depT b) + 1 ≤ n + 1 := d
    have h1 := tot_cap (t := a) (n := n) h.1 (by omega)
    have h2 := tot_cap (t := b) (n := n) h.2 (by omega)
    show totT a + totT b ≤ 2 * tcapT n; omega
def ccapT : Nat → Nat
  | 0 => 1
  | 1 => 2
  | n + 2 => 3 * ccapT (n + 1)
theorem ccap_pos : ∀ n, 1 ≤ ccapT n
  | 0 => Nat.le_refl _
  | 1 => by decide
  | n + 2 => by have := ccap_pos (n + 1); show 1 ≤ 3 * ccapT (n + 1); omega
theorem ccap_up : ∀ n, 2 * ccapT n ≤ ccapT (n + 1)
  | 0 => by decide
  | n + 1 => by show 2 * ccapT (n + 1) ≤ 3 * ccapT (n + 1); omega
theorem cnt_cap : ∀ {t : Tr} {n : Nat}, depT t ≤ n → cntT t ≤ ccapT n
  | .rod s, n, _ => ccap_pos n
  | .mul a m, n + 1, d => by
    have := cnt_cap (t := a) (n := n) (by have : depT a + 1 ≤ n + 1 := d; omega)
    have := ccap_up n
    show cntT a ≤ _; omega
  | .neg a, n + 1, d => by
    have := cnt_cap (t := a) (n := n) (by have : depT a + 1 ≤ n + 1 := d; omega)
    have := ccap_up n
    show cntT a ≤ _; omega
  | .add a b, n + 1, d => by
    have d' : max (depT a) (depT b) + 1 ≤ n + 1 := d
    have h1 := cnt_cap (t := a) (n := n) (by omega)
    have h2 := cnt_cap (t := b) (n := n) (by omega)
    have := ccap_up n
    show cntT a + cntT b ≤ _; omega
  | .sub a b, n + 1, d => by
    have d' : max (depT a) (depT b) + 1 ≤ n + 1 := d
    have h1 := cnt_cap (t := a) (n := n) (by omega)
    have h2 := cnt_cap (t := b) (n := n) (by omega)
    have := ccap_up n
    show cntT a + cntT b ≤ _; omega
  | .chn a b, 1, d => by
    have d' : max (depT a) (depT b) + 1 ≤ 1 := d
    have h2 := cnt_cap (t := b) (n := 0) (by omega)
    have h1 := cnt_cap (t := a) (n := 0) (by omega)
    have hl : lipT a ≤ 1 := by
      cases a with
      | rod s => exact Nat.le_refl _
      | mul a m => have : max (depT a + 1) (depT b) + 1 ≤ 1 := d; omega
      | neg a => have : max (depT a + 1) (depT b) + 1 ≤ 1 := d; omega
      | add a c => have : max (max (depT a) (depT c) + 1) (depT b) + 1 ≤ 1 := d; omega
      | sub a c => have : max (max (depT a) (depT c) + 1) (depT b) + 1 ≤ 1 := d; omega
      | chn a c => have : max (max (depT a) (depT c) + 1) (depT b) + 1 ≤ 1 := d; omega
    show cntT a + (if lipT a ≤ 1 then 1 else 2) * cntT b ≤ 2
    rw [if_pos hl]
    have e : ccapT 0 = 1 := rfl
    omega
  | .chn a b, n + 2, d => by
    have d' : max (depT a) (depT b) + 1 ≤ n + 2 := d
    have h1 := cnt_cap (t := a) (n := n + 1) (by omega)
    have h2 := cnt_cap (t := b) (n := n + 1) (by omega)
    show cntT a + (if lipT a ≤ 1 then 1 else 2) * cntT b ≤ 3 * ccapT (n + 1)
    split <;> omega
/-- the law's own trees -/
def lawT (n : Nat) (t : Tr) : Prop := goodT t ∧ limT t ∧ depT t ≤ n
theorem lawT.ok {n : Nat} {t : Tr} (h : lawT n t) (hn : n ≤ 3) : okT t := by
  obtain ⟨g, l, d⟩ := h
  have d3 : depT t ≤ 3 := Nat.le_trans d hn
  have h1 := rng_cap l d3
  have h2 := tot_cap l d3
  have h3 := cnt_cap d3
  have h4 := lip_rng t
  have e1 : capT 3 = 256 := by decide
  have e2 : tcapT 3 = 48 := by decide
  have e3 : ccapT 3 = 18 := by decide
  exact ⟨g, by omega, by omega, by omega⟩
end Pf

namespace Pf
open PySem L2 Z PyProof.Rows
/-! ### rows step by step -/
/-- the ends of a tree on a row -/
def pathT (t : Tr) (row : List Int) : List Int := (List.range row.length).map fun k => endT t (row.take (k + 1))
end Pf

namespace Pf
open PySem L2 Z PyProof.Rows
/-! ### trees put together within the limits -/
structure bT (t : Tr) (c : Nat) (T : Int) (l : Nat) : Prop where
  g : goodT t
  hc : cntT t ≤ c
  ht : totT t ≤ T
  hl : lipT t ≤ l
section
variable {a b : Tr} {c c' l l' : Nat} {T T' : Int}
theorem bT.ok (h : bT a c T l) (h1 : c ≤ 60) (h2 : T ≤ 900) (h3 : l ≤ 400000) : okT a := ⟨h.g, Nat.le_trans h.hc h1, Int.le_trans h.ht h2, Nat.le_trans h.hl h3⟩
theorem bT.rod {s : Int} (h : 0 ≤ s) (h' : s ≤ T) : bT (.rod s) 1 T 1 := ⟨h, Nat.le_refl _, h', Nat.le_refl _⟩
theorem bT.add (h : bT a c T l) (h' : bT b c' T' l') : bT (.add a b) (c + c') (T + T') (l + l') := ⟨⟨h.g, h'.g⟩, Nat.add_le_add h.hc h'.hc, Int.add_le_add h.ht h'.ht, Nat.add_le_add h.hl h'.hl⟩
theorem bT.sub (h : bT a c T l) (h' : bT b c' T' l') : bT (.sub a b) (c + c') (T + T') (l + l') := ⟨⟨h.g, h'.g⟩, Nat.add_le_add h.hc h'.hc, Int.add_le_add h.ht h'.ht, Nat.add_le_add h.hl h'.hl⟩
theorem bT.neg (h : bT a c T l) : bT (.neg a) c T l := ⟨h.g, h.hc, h.ht, h.hl⟩
theorem bT.mul {n : Int} (h : bT a c T l) (hn : n.natAbs ≤ l') : bT (.mul a n) c T (l * l') := ⟨h.g, h.hc, h.ht, Nat.mul_le_mul h.hl hn⟩
theorem bT.chn (u : upT a) (h : bT a c T l) (h' : bT b c' T' l') : bT (.chn a b) (c + 2 * c') (T + T') (l * l') :=
  ⟨⟨h.g, h'.g, u⟩, Nat.add_le_add h.hc (Nat.mul_le_mul (by split <;> omega) h'.hc), Int.add_le_add h.ht h'.ht, Nat.mul_le_mul h.hl h'.hl⟩
end
theorem lawT.b {n : Nat} {t : Tr} (h : lawT n t) : bT t (ccapT n) (tcapT n) (capT n) := ⟨h.1, cnt_cap h.2.2, tot_cap h.2.1 h.2.2, Nat.le_trans (lip_rng t) (rng_cap h.2.1 h.2.2)⟩
end Pf

namespace Pf
open PySem L2 Z PyProof.Rows
/-! ### trees whose rigs can be made -/
def okS : Tr → Prop
  | .rod s => 0 ≤ s ∧ s ≤ 99
  | .mul a n => okS a ∧ (-99 ≤ n ∧ n ≤ 99) ∧ okT (.mul a n)
  | .neg a => okS a
  | .add a b => okS a ∧ okS b ∧ okT (.add a b)
  | .sub a b => okS a ∧ okS b ∧ okT (.sub a b)
  | .chn a b => okS a ∧ okS b ∧ upT a ∧ okT (.chn a b)
theorem okS.ok : ∀ {t : Tr}, okS t → okT t
  | .rod s, h => ⟨h.1, by show 1 ≤ 60; decide, Int.le_trans h.2 (by decide), by show 1 ≤ 400000; decide⟩
  | .mul a n, h => h.2.2
  | .neg a, h => okS.ok (t := a) h
  | .add a b, h => h.2.2
  | .sub a b, h => h.2.2
  | .chn a b, h => h.2.2.2
theorem lawT.okS {n : Nat} (h3 : n ≤ 3) : ∀ {t : Tr}, lawT n t → okS t
  | .rod s, h => ⟨h.1, by have : 0 ≤ s ∧ s ≤ 6 := h.2.1; omega⟩
  | .mul a m, h => ⟨lawT.okS h3 (t := a) ⟨h.1, h.2.1.1, by have : depT a + 1 ≤ n := h.2.2; omega⟩, by have : -3 ≤ m ∧ m ≤ 3 := h.2.1.2; omega, h.ok h3⟩
  | .neg a, h => lawT.okS h3 (t := a) ⟨h.1, h.2.1, by have : depT a + 1 ≤ n := h.2.2; omega⟩
  | .add a b, h => ⟨lawT.okS h3 (t := a) ⟨h.1.1, h.2.1.1, by have : max (depT a) (depT b) + 1 ≤ n := h.2.2; omega⟩, lawT.okS h3 (t := b) ⟨h.1.2, h.2.1.2, by have : max (depT a) (depT b) + 1 ≤ n := h.2.2; omega⟩, h.ok h3⟩
  | .sub a b, h => ⟨lawT.okS h3 (t := a) ⟨h.1.1, h.2.1.1, by have : max (depT a) (depT b) + 1 ≤ n := h.2.2; omega⟩, lawT.okS h3 (t := b) ⟨h.1.2, h.2.1.2, by have : max (depT a) (depT b) + 1 ≤ n := h.2.2; omega⟩, h.ok h3⟩
  | .chn a b, h => ⟨lawT.okS h3 (t := a) ⟨h.1.1, h.2.1.1, by have : max (depT a) (depT b) + 1 ≤ n := h.2.2; omega⟩, lawT.okS h3 (t := b) ⟨h.1.2.1, h.2.1.2, by have : max (depT a) (depT b) + 1 ≤ n := h.2.2; omega⟩, h.1.2.2, h.ok h3⟩
/-! ### curves that are equal from the beginning are equal -/
theorem armsEs_path {t : Tr} (g : goodT t) (row : List Int) : armsEs row (zEs row) (armT t) = pathT t row := armsEs_tree g row
/-! ### geared handles -/
/-! ### how long ends stay -/
theorem slope_low {al : List (Int × Int)} {n : Nat} (h : ∀ p ∈ al, (n : Int) ≤ p.1) : hgtA al (n : Int) = 0 := by
  unfold hgtA
  have : al.map (fun a => a.2 * max 0 ((n : Int) - a.1)) = al.map fun _ => 0 := List.map_congr_left fun a ha => by
    have := h a ha
    rw [show max 0 ((n : Int) - a.1) = 0 by omega, Int.mul_zero]
  rw [this]
  induction al with
  | nil => rfl
  | cons a al ih =>
    rw [List.map_cons, List.sum_cons, Int.zero_add]
    exact ih (fun p hp => h p (List.mem_cons_of_mem _ hp)) (List.map_congr_left fun a ha => by
      have := h a (List.mem_cons_of_mem _ ha)
      rw [show max 0 ((n : Int) - a.1) = 0 by omega, Int.mul_zero])
theorem val_low {t : Tr} (g : goodT t) {n : Nat} (h : ∀ p ∈ armT t, (n : Int) ≤ p.1) : valT t n = 0 := by
  rw [← armT_hgt g]; exact slope_low h
theorem still_nil {t : Tr} (g : goodT t) (h : armT t = []) (n : Nat) : valT t n = 0 := val_low g fun p hp => by rw [h] at hp; cases hp
theorem arm_first {t : Tr} {p : Int × Int} {r : List (Int × Int)} (h : armT t = p :: r) : (∀ q ∈ armT t, p.1 ≤ q.1) ∧ (∀ q ∈ r, p.1 + 1 ≤ q.1) ∧ p.2 ≠ 0 ∧ 0 ≤ p.1 := by
  have N := armT_nrm t
  have P := armT_pos t
  rw [h] at N P ⊢
  have pw := List.pairwise_cons.mp N.1
  refine ⟨fun q hq => ?_, fun q hq => ?_, N.2 p List.mem_cons_self, P p.1 (by simp)⟩
  · rcases List.mem_cons.mp hq with rfl | hq
    · exact Int.le_refl _
    · exact Int.le_of_lt (pw.1 q.1 (List.mem_map.mpr ⟨q, hq, rfl⟩))
  · have : p.1 < q.1 := pw.1 q.1 (List.mem_map.mpr ⟨q, hq, rfl⟩)
    omega
theorem still_low {t : Tr} {p : Int × Int} {r : List (Int × Int)} (g : goodT t) (h : armT t = p :: r) {n : Nat} (hn : (n : Int) ≤ p.1) : valT t n = 0 := val_low g fun q hq => Int.le_trans hn ((arm_first h).1 q hq)
theorem still_next {t : Tr} {p : Int × Int} {r : List (Int × Int)} (g : goodT t) (h : armT t = p :: r) : valT t (p.1.toNat + 1) ≠ 0 := by
  obtain ⟨_, h2, h3, h4⟩ := arm_first h
  rw [← armT_hgt g, h]
  have e : ((p.1.toNat + 1 : Nat) : Int) = p.1 + 1 := by omega
  have z : hgtA r ((p.1.toNat + 1 : Nat) : Int) = 0 := slope_low fun q hq => by have := h2 q hq; omega
  have s : hgtA (p :: r) ((p.1.toNat + 1 : Nat) : Int) = p.2 * max 0 (((p.1.toNat + 1 : Nat) : Int) - p.1) + hgtA r ((p.1.toNat + 1 : Nat) : Int) := by
    unfold hgtA
    rw [List.map_cons, List.sum_cons]
  rw [s, z, show max 0 (((p.1.toNat + 1 : Nat) : Int) - p.1) = 1 by omega]
  omega
end Pf

namespace Pf
open PySem L2 Z PyProof.Rows
/-! ### forward rigs go with the handle -/
/-! ### curves that rise -/
/-! the ends and the places step by step, rest ahead of them -/
end Pf

namespace Pf
open PySem L2 Z PyProof.Rows
/-! ### where two rigs are unlike -/
/-! ### plain sums of rods -/
end Pf

namespace Pf
open PySem L2 Z PyProof.Rows
/-! ### ways between memories -/
def kptN (ps : List Int) (p : Int) : Nat := if p ≤ ps.getD 0 0 then 0 else runL p ps + 1
theorem aft_kpt (ps : List Int) (p : Int) : aft ps p = ps.take (kptN ps p) ++ [p] := by
  unfold aft kptN
  by_cases h : p ≤ ps.getD 0 0
  · rw [if_pos h, if_pos h]; rfl
  · rw [if_neg h, if_neg h]
theorem above {w : List Int} (ok : okMem w) {k : Nat} (h : 1 ≤ k) (hk : k < w.length) : w.getD 0 0 < w.getD k 0 := by
  obtain ⟨a, r, rfl, _, hr⟩ := okMem_head ok
  have : (a :: r).getD k 0 ∈ r := by
    obtain ⟨j, rfl⟩ : ∃ j, k = j + 1 := ⟨k - 1, by omega⟩
    exact getD_mem (xs := r) (i := j) (by simpa using hk)
  exact hr _ this
theorem kpt_le {h : List Int} (ne : h ≠ []) (p : Int) : kptN h p ≤ h.length := by
  unfold kptN
  split
  · exact Nat.zero_le _
  · exact runL_lt p h ne
end Pf

namespace Pf
open PySem L2 Z PyProof.Rows
/-! ### areas -/
/-- down from a height to 1, the height left out -/
abbrev dwL (h : Nat) : List Int := (List.range (h - 1)).map fun (k : Nat) => (h : Int) - 1 - (k : Int)
def downT (t : Tr) (h k : Nat) : Int := endT t ((h : Int) :: (dwL h).take (k + 1))
def areaT (t : Tr) (h : Nat) : Int := ((List.range (h - 1)).map fun k => downT t h k).sum - ((List.range (h - 1)).map fun k => valT t (k + 1)).sum
theorem sum_add (f g : Nat → Int) : ∀ l : List Nat, (l.map fun k => f k + g k).sum = (l.map f).sum + (l.map g).sum
  | [] => rfl
  | a :: l => by
    rw [List.map_cons, List.map_cons, List.map_cons, List.sum_cons, List.sum_cons, List.sum_cons, sum_add f g l]; omega
theorem area_add (a b : Tr) (h : Nat) : areaT (.add a b) h = areaT a h + areaT b h := by
  unfold areaT
  rw [show ((List.range (h - 1)).map fun k => downT (.add a b) h k) = (List.range (h - 1)).map fun k => downT a h k + downT b h k from rfl, sum_add (fun k => downT a h k) (fun k => downT b h k),
    show ((List.range (h - 1)).map fun k => valT (.add a b) (k + 1)) = (List.range (h - 1)).map fun k => valT a (k + 1) + valT b (k + 1) from rfl, sum_add (fun k => valT a (k + 1)) (fun k => valT b (k + 1))]
  omega
/-! rods -/
theorem rod_top {s : Int} (s0 : 0 ≤ s) (h : Nat) : rodSt s 0 (h : Int) = max 0 ((h : Int) - s) := by unfold rodSt; omega
theorem dw_take {h k : Nat} (hk : k < h - 1) : (dwL h).take (k + 1) = (List.range (k + 1)).map fun (j : Nat) => (h : Int) - 1 - (j : Int) := by
  unfold dwL
  rw [← List.map_take, List.take_range, show min (k + 1) (h - 1) = k + 1 by omega]
theorem rod_down {s : Int} (s0 : 0 ≤ s) {h k : Nat} (hk : k < h - 1) : downT (.rod s) h k = min (max 0 ((h : Int) - s)) ((h : Int) - 1 - k) := by
  show rodE s 0 ((h : Int) :: (dwL h).take (k + 1)) = _
  rw [rodE_cons, rod_top s0, dw_take hk, rod_run_dn s0 (by omega) (by omega) (k + 1)]
  unfold rodSt
  omega
/-- the sums in closed form, twice -/
theorem sum_min (f : Int) (f0 : 0 ≤ f) : ∀ m : Nat, 2 * ((List.range m).map fun (k : Nat) => min f ((k : Int) + 1)).sum = if (m : Int) ≤ f then (m : Int) * m + m else 2 * (f * m) - f * f + f
  | 0 => by
    rw [if_pos (by omega)]; rfl
  | m + 1 => by
    rw [List.range_succ, List.map_append, List.sum_append, Int.mul_add, sum_min f f0 m]
    show _ + 2 * (min f ((m : Int) + 1) + 0) = _
    have e1 : ((m + 1 : Nat) : Int) * ((m + 1 : Nat) : Int) = (m : Int) * m + m + m + 1 := by
      rw [show ((m + 1 : Nat) : Int) = (m : Int) + 1 by omega, Int.add_mul, Int.mul_add]; omega
    have e2 : f * ((m + 1 : Nat) : Int) = f * m + f := by
      rw [show ((m + 1 : Nat) : Int) = (m : Int) + 1 by omega, Int.mul_add]; omega
    by_cases c : ((m + 1 : Nat) : Int) ≤ f
    · rw [if_pos (by omega), if_pos c, e1, show min f ((m : Int) + 1) = (m : Int) + 1 by omega]; omega
    · rw [if_neg c, e2]
      by_cases c2 : (m : Int) ≤ f
      · have : f = m := by omega
        subst this
        rw [if_pos c2, show min (m : Int) ((m : Int) + 1) = m by omega]; omega
      · rw [if_neg c2, show min f ((m : Int) + 1) = f by omega]; omega
theorem sum_up (s : Int) (s0 : 0 ≤ s) : ∀ m : Nat, 2 * ((List.range m).map fun (k : Nat) => max 0 ((k : Int) + 1 - s)).sum = if (m : Int) ≤ s then 0 else ((m : Int) - s) * ((m : Int) - s) + ((m : Int) - s)
  | 0 => by
    rw [if_pos (by omega)]; rfl
  | m + 1 => by
    rw [List.range_succ, List.map_append, List.sum_append, Int.mul_add, sum_up s s0 m]
    show _ + 2 * (max 0 ((m : Int) + 1 - s) + 0) = _
    by_cases c : ((m + 1 : Nat) : Int) ≤ s
    · rw [if_pos (by omega), if_pos c, show max 0 ((m : Int) + 1 - s) = 0 by omega]; omega
    · rw [if_neg c, show max 0 ((m : Int) + 1 - s) = (m : Int) + 1 - s by omega]
      have e : (((m + 1 : Nat) : Int) - s) * (((m + 1 : Nat) : Int) - s) = ((m : Int) - s) * ((m : Int) - s) + ((m : Int) - s) + ((m : Int) - s) + 1 := by
        rw [show ((m + 1 : Nat) : Int) - s = ((m : Int) - s) + 1 by omega, Int.add_mul, Int.mul_add]; omega
      rw [e]
      by_cases c2 : (m : Int) ≤ s
      · have : (m : Int) - s = 0 := by omega
        rw [if_pos c2, this]; omega
      · rw [if_neg c2]; omega
theorem sum_rev (f : Int → Int) : ∀ m : Nat, ((List.range m).map fun (k : Nat) => f ((m : Int) - k)).sum = ((List.range m).map fun (k : Nat) => f ((k : Int) + 1)).sum
  | 0 => rfl
  | m + 1 => by
    rw [List.range_succ_eq_map, List.map_cons, List.map_map, List.sum_cons]
    have e : ((List.range m).map ((fun (k : Nat) => f (((m + 1 : Nat) : Int) - k)) ∘ Nat.succ)) = (List.range m).map fun (k : Nat) => f ((m : Int) - k) := List.map_congr_left fun k _ => by
      show f (((m + 1 : Nat) : Int) - ((k + 1 : Nat) : Int)) = f ((m : Int) - k)
      congr 1; omega
    rw [e, sum_rev f m, ← List.range_succ_eq_map, List.range_succ, List.map_append, List.sum_append]
    show f (((m + 1 : Nat) : Int) - ((0 : Nat) : Int)) + _ = _ + (f ((m : Int) + 1) + 0)
    rw [show ((m + 1 : Nat) : Int) - ((0 : Nat) : Int) = (m : Int) + 1 by omega]; omega
theorem area_rod {s : Int} (s0 : 0 ≤ s) (h : Nat) : areaT (.rod s) h = max 0 ((h : Int) - s) * max 0 ((h : Int) - 1) - max 0 ((h : Int) - s) * (max 0 ((h : Int) - s) - 1) := by
  cases h with
  | zero =>
    have : max 0 (((0 : Nat) : Int) - s) = 0 := by omega
    rw [this]
    show (0 : Int) - 0 = 0 * _ - 0 * _
    rw [Int.zero_mul, Int.zero_mul]
  | succ m =>
    generalize hf : max 0 (((m + 1 : Nat) : Int) - s) = f
    have f0 : 0 ≤ f := by omega
    unfold areaT
    rw [Nat.add_sub_cancel]
    have e1 : ((List.range m).map fun k => downT (.rod s) (m + 1) k) = (List.range m).map fun (k : Nat) => min f ((m : Int) - k) := List.map_congr_left fun k hk => by
      have := List.mem_range.mp hk
      rw [rod_down s0 (by omega), hf]
      congr 1; omega
    have e2 : ((List.range m).map fun k => valT (.rod s) (k + 1)) = (List.range m).map fun (k : Nat) => max 0 ((k : Int) + 1 - s) := List.map_congr_left fun k _ => by
      show max 0 (((k + 1 : Nat) : Int) - s) = _
      congr 1
    rw [e1, e2, sum_rev (fun y => min f y) m]
    have a := sum_min f f0 m
    have b := sum_up s s0 m
    rw [show max 0 (((m + 1 : Nat) : Int) - 1) = (m : Int) by omega, Int.mul_sub, Int.mul_one]
    generalize ((List.range m).map fun (k : Nat) => min f ((k : Int) + 1)).sum = A at a ⊢
    generalize ((List.range m).map fun (k : Nat) => max 0 ((k : Int) + 1 - s)).sum = B at b ⊢
    by_cases c : (m : Int) ≤ s
    · rw [if_pos c] at b
      by_cases c2 : (m : Int) < s
      · have z : f = 0 := by omega
        subst z
        rw [Int.zero_mul, Int.zero_mul] at *
        by_cases c3 : (m : Int) ≤ 0
        · have : (m : Int) = 0 := by omega
          rw [if_pos c3, this] at a; omega
        · rw [if_neg c3] at a; omega
      · have z : f = 1 := by omega
        subst z
        by_cases c3 : (m : Int) ≤ 1
        · rw [if_pos c3] at a
          have : (m : Int) = 0 ∨ (m : Int) = 1 := by omega
          rcases this with h | h <;> rw [h] at a ⊢ <;> omega
        · rw [if_neg c3] at a; omega
    · rw [if_neg c] at b
      have z : (m : Int) - s = f - 1 := by omega
      rw [z, Int.sub_mul, Int.mul_sub, Int.one_mul, Int.mul_one] at b
      by_cases c3 : (m : Int) ≤ f
      · have : (m : Int) = f ∨ (m : Int) = f - 1 := by omega
        rcases this with h | h
        · rw [if_pos c3, h] at a; rw [h]; omega
        · rw [if_pos c3, h, Int.sub_mul, Int.mul_sub, Int.one_mul, Int.mul_one] at a
          rw [h, Int.mul_sub, Int.mul_one]; omega
      · rw [if_neg c3] at a; omega
/-! the way up and down, step by step -/
end Pf

namespace Pf
open PySem L2 Z PyProof.Rows
/-! ### heights of swings, loops that a move closes -/
def swI : List Int → List Int
  | a :: b :: r => ((b - a).natAbs : Int) :: swI (b :: r)
  | _ => []
theorem swI_len : ∀ ps : List Int, (swI ps).length = ps.length - 1
  | [] => rfl
  | [a] => rfl
  | a :: b :: r => by show (swI (b :: r)).length + 1 = _; rw [swI_len (b :: r)]; simp
def clos (ps : List Int) (x : Int) : List Int := evW ((swI ps).drop (kptN ps x))
def clsL (row : List Int) : List (List Int) := (List.range row.length).map fun i => clos (memF (row.take i)) (row.getD i 0)
def clsF (row : List Int) : List Int := (clsL row).flatten
theorem clsL_snoc (xs : List Int) (x : Int) : clsL (xs ++ [x]) = clsL xs ++ [clos (memF xs) x] := by
  unfold clsL
  rw [List.length_append, List.length_singleton, List.range_succ, List.map_append]
  congr 1
  · apply List.map_congr_left
    intro k hk
    rw [List.mem_range] at hk
    rw [List.take_append_of_le_length (by omega), getD_app hk]
  · show [clos (memF ((xs ++ [x]).take xs.length)) ((xs ++ [x]).getD xs.length 0)] = _
    rw [List.take_append_of_le_length (Nat.le_refl _), List.take_length]
    congr 2
    rw [List.getD_eq_getElem?_getD, List.getElem?_append_right (Nat.le_refl _), Nat.sub_self]; rfl
theorem clsF_snoc (xs : List Int) (x : Int) : clsF (xs ++ [x]) = clsF xs ++ clos (memF xs) x := by
  unfold clsF
  rw [clsL_snoc, List.flatten_append]
  simp
theorem clos_len {ps : List Int} (ne : ps ≠ []) (x : Int) : (clos ps x).length + (aft ps x).length ≤ ps.length + 1 := by
  have a := kpt_le ne x
  have l := congrArg List.length (aft_kpt ps x)
  rw [List.length_append, List.length_take, List.length_singleton] at l
  have b := ev_len ((swI ps).drop (kptN ps x))
  rw [List.length_drop, swI_len] at b
  have h0 := List.length_pos_iff.mpr ne
  unfold clos
  omega
theorem memF_ne (xs : List Int) : memF xs ≠ [] := by
  obtain ⟨F, r, e, h⟩ := memF_head xs
  rw [e]; simp
theorem clsF_len : ∀ row : List Int, (clsF row).length + (memF row).length ≤ row.length + 1 := by
  refine snoc_ind (by simp [clsF, clsL, memF]) fun xs x ih => ?_
  rw [clsF_snoc, memF_snoc, List.length_append, List.length_append, List.length_singleton]
  have := clos_len (memF_ne xs) x
  omega
/-! ### how many of each -/
def CntA (al : List (Int × Int)) (l : List Int) : Prop := Nrm al ∧ ∀ k, cf al k = (l.count k : Int)
theorem one_in {f : Int → Int} {x : Int} : ∀ {ks : List Int}, ks.Nodup → x ∈ ks → (ks.map fun k => if k = x then f k else 0).sum = f x
  | [], _, h => absurd h (by simp)
  | k :: ks, nd, h => by
    rw [List.map_cons, List.sum_cons]
    obtain ⟨n1, n2⟩ := List.nodup_cons.mp nd
    by_cases c : k = x
    · subst c
      rw [if_pos rfl]
      have : (ks.map fun j => if j = k then f j else 0).sum = 0 := by
        rw [show (ks.map fun j => if j = k then f j else 0) = ks.map fun _ => (0 : Int) from List.map_congr_left fun j hj => if_neg fun (e : j = k) => n1 (by rw [← e]; exact hj)]
        clear n1 n2 nd h
        induction ks with
        | nil => rfl
        | cons j ks ih => rw [List.map_cons, List.sum_cons, ih]; rfl
      rw [this]; omega
    · rw [if_neg c, one_in n2 ((List.mem_cons.mp h).resolve_left fun e => c e.symm)]; omega
theorem sum_cnt (f : Int → Int) {ks : List Int} (nd : ks.Nodup) : ∀ {l : List Int}, (∀ x ∈ l, x ∈ ks) → (ks.map fun k => f k * (l.count k : Int)).sum = (l.map f).sum
  | [], _ => by
    rw [show (ks.map fun k => f k * (([] : List Int).count k : Int)) = ks.map fun _ => (0 : Int) from List.map_congr_left fun j hj => by simp]
    clear nd
    induction ks with
    | nil => rfl
    | cons j ks ih => rw [List.map_cons, List.sum_cons, ih (fun x hx => by cases hx)]; rfl
  | x :: l, h => by
    rw [List.map_cons, List.sum_cons, ← sum_cnt f nd fun y hy => h y (List.mem_cons_of_mem _ hy), ← one_in (f := f) nd (h x List.mem_cons_self)]
    have add : ∀ (u v : Int → Int) (zs : List Int), (zs.map fun k => u k + v k).sum = (zs.map u).sum + (zs.map v).sum := fun u v zs => by
      induction zs with
      | nil => rfl
      | cons z zs ih => rw [List.map_cons, List.sum_cons, List.map_cons, List.sum_cons, List.map_cons, List.sum_cons, ih]; omega
    rw [← add]
    congr 1
    apply List.map_congr_left
    intro k _
    rw [List.count_cons]
    by_cases c : k = x
    · subst c
      rw [if_pos rfl, if_pos (by simp)]
      rw [show (((l.count k + 1 : Nat)) : Int) = (l.count k : Int) + 1 by omega, Int.mul_add]; omega
    · rw [if_neg c, if_neg (by simpa using fun e => c e.symm)]; simp
theorem CntA.mem {al : List (Int × Int)} {l : List Int} (h : CntA al l) {k : Int} : k ∈ al.map (·.1) ↔ k ∈ l := by
  refine ⟨fun hk => ?_, fun hk => Classical.byContradiction fun n => ?_⟩
  · obtain ⟨p, hp, rfl⟩ := List.mem_map.mp hk
    have g := getI_of_nd h.1.nd hp
    have c := h.2 p.1
    unfold cf at c
    rw [g] at c
    have := h.1.2 p hp
    exact List.count_pos_iff.mp (by have : (some p.2).getD 0 = p.2 := rfl; omega)
  · have z := cf_out n
    rw [h.2] at z
    have := List.count_pos_iff.mpr hk
    omega
theorem CntA.get {al : List (Int × Int)} {l : List Int} (h : CntA al l) {p : Int × Int} (hp : p ∈ al) : getI al p.1 = some (l.count p.1 : Int) := by
  have g := getI_of_nd h.1.nd hp
  have c := h.2 p.1
  unfold cf at c
  rw [g] at c ⊢
  exact congrArg some c
theorem CntA.val {al : List (Int × Int)} {l : List Int} (h : CntA al l) {p : Int × Int} (hp : p ∈ al) : p.2 = (l.count p.1 : Int) := by
  have a := h.get hp
  rw [getI_of_nd h.1.nd hp] at a
  exact Option.some.inj a
theorem CntA.sum {al : List (Int × Int)} {l : List Int} (h : CntA al l) (f : Int → Int) : (al.map fun p => f p.1 * (l.count p.1 : Int)).sum = (l.map f).sum := by
  rw [← sum_cnt f h.1.nd fun x hx => h.mem.mpr hx, List.map_map]; rfl
end Pf

namespace Pf
open PySem L2 Z PyProof.Rows
/-! ### how far an end goes in a move, from the ways of the rods -/
/-! ### the same, step by step -/
/-- the way of a rod in a move -/
abbrev wayR (s : Int) (xs : List Int) (x : Int) : Int := ((rodE s 0 (xs ++ [x]) - rodE s 0 xs).natAbs : Int)
def waysA (al : List (Int × Int)) (xs : List Int) (x : Int) : List (Int × Int) := al.map fun a => (wayR a.1 xs x, a.2)
/-! ### forward trees: no step goes against the handle -/
end Pf

namespace Pf
open PySem L2 Z PyProof.Rows
/-! ### loops and ways -/
/-! below and above all places -/
theorem CntA.len {al : List (Int × Int)} {l : List Int} (h : CntA al l) : al.length ≤ l.length := by
  have := sub_len (l := al.map (·.1)) (l' := l) h.1.nd fun x hx => h.mem.mp hx
  rwa [List.length_map] at this
theorem end_rod0 (xs : List Int) : endT (.rod 0) xs = xs.getLastD 0 := by
  cases xs with
  | nil => rfl
  | cons x xs =>
    show rodE 0 0 (x :: xs) = _
    rw [rodE_0 (by simp), List.getLast_eq_getLastD]; cases xs <;> rfl
end Pf

namespace Pf
open PySem L2 Z PyProof.Rows
/-! ### a row again and again -/
def SameR (xs ys : List Int) : Prop := ∀ s, 0 ≤ s → rodE s 0 xs = rodE s 0 ys
theorem SameR.app {xs ys : List Int} (h : SameR xs ys) (zs : List Int) : SameR (xs ++ zs) (ys ++ zs) := fun s s0 => by rw [rodE_app, rodE_app, h s s0]
theorem SameR.trans {xs ys zs : List Int} (h : SameR xs ys) (k : SameR ys zs) : SameR xs zs := fun s s0 => (h s s0).trans (k s s0)
theorem SameR.last {xs ys : List Int} (h : SameR xs ys) : xs.getLastD 0 = ys.getLastD 0 := by
  rw [← end_rod0, ← end_rod0]
  exact h 0 (Int.le_refl 0)
theorem SameR.fa {xs ys : List Int} (h : SameR xs ys) : ∀ {al : List (Int × Int)}, Pos0 al → FA al xs = FA al ys
  | [], _ => rfl
  | a :: al, h0 => by
    show a.2 * _ + FA al _ = a.2 * _ + FA al _
    rw [h a.1 (h0 a.1 List.mem_cons_self), h.fa fun k hk => h0 k (List.mem_cons_of_mem _ hk)]
theorem SameR.ways {xs ys : List Int} (h : SameR xs ys) (x : Int) : ∀ {al : List (Int × Int)}, Pos0 al → waysA al xs x = waysA al ys x
  | [], _ => rfl
  | a :: al, h0 => by
    show (wayR a.1 xs x, a.2) :: waysA al xs x = (wayR a.1 ys x, a.2) :: waysA al ys x
    have s0 := h0 a.1 List.mem_cons_self
    rw [h.ways x fun k hk => h0 k (List.mem_cons_of_mem _ hk)]
    unfold wayR
    rw [rodE_snoc, rodE_snoc, h a.1 s0]
theorem clsL_pre (xs : List Int) : ∀ ys : List Int, (clsL (xs ++ ys)).take xs.length = clsL xs := by
  refine snoc_ind (by rw [List.append_nil]; exact List.take_of_length_le (by unfold clsL; rw [List.length_map, List.length_range]; exact Nat.le_refl _)) fun ys y ih => ?_
  rw [← List.append_assoc, clsL_snoc, List.take_append_of_le_length (by unfold clsL; rw [List.length_map, List.length_range, List.length_append]; omega), ih]
/-! ### small loops put in -/
theorem rodE_in {s : Int} (s0 : 0 ≤ s) (xs : List Int) : xs.getLastD 0 - s ≤ rodE s 0 xs ∧ rodE s 0 xs ≤ xs.getLastD 0 := by
  refine snoc_ind (P := fun xs => xs.getLastD 0 - s ≤ rodE s 0 xs ∧ rodE s 0 xs ≤ xs.getLastD 0) ?_ (fun xs x _ => ?_) xs
  · show (0 : Int) - s ≤ 0 ∧ (0 : Int) ≤ 0
    omega
  · rw [rodE_snoc, show (xs ++ [x]).getLastD 0 = x by simp]
    unfold rodSt
    omega
theorem SameR.put {xs : List Int} {a u p : Int} (ha : xs.getLastD 0 = a) (h : (a ≤ u ∧ u ≤ p) ∨ (p ≤ u ∧ u ≤ a)) : SameR (xs ++ [u, a] ++ [p]) (xs ++ [p]) := fun s s0 => by
  have b := rodE_in s0 xs
  rw [ha] at b
  rw [List.append_assoc, rodE_app, rodE_app s 0 xs [p]]
  show rodSt s (rodSt s (rodSt s (rodE s 0 xs) u) a) p = rodSt s (rodE s 0 xs) p
  generalize rodE s 0 xs = e at *
  unfold rodSt
  omega
end Pf

namespace Pf
open PySem L2 Z PyProof.Rows
/-! ### dicts of loops of many passes -/
def lateL (row : List Int) : List Int := ((clsL (row ++ row)).drop row.length).flatten
theorem late_app (row : List Int) : clsF (row ++ row) = clsF row ++ lateL row := by
  unfold clsF lateL
  rw [← clsL_pre row row, ← List.flatten_append, List.take_append_drop]
def LoopsN (row : List Int) (n : Int) (ml : List (Int × Int)) : Prop := Nrm ml ∧ ∀ k, cf ml k = if n = 0 then 0 else ((clsF row).count k : Int) + ((lateL row).count k : Int) * (n - 1)
/-! ### the second pass -/
theorem LoopsN.len {row : List Int} {n : Int} {ml : List (Int × Int)} (h : LoopsN row n ml) : ml.length ≤ 2 * row.length := by
  have e : ml.length ≤ (clsF row ++ lateL row).length := by
    have := sub_len (l := ml.map (·.1)) (l' := clsF row ++ lateL row) h.1.nd fun x hx => Classical.byContradiction fun nx => by
      rw [List.mem_append, not_or] at nx
      have z1 := List.count_eq_zero.mpr nx.1
      have z2 := List.count_eq_zero.mpr nx.2
      obtain ⟨p, hp, rfl⟩ := List.mem_map.mp hx
      have gp := getI_of_nd h.1.nd hp
      have vp := h.2 p.1
      unfold cf at vp
      rw [gp, z1, z2] at vp
      refine h.1.2 p hp ?_
      have vp : p.2 = if n = 0 then (0 : Int) else ((0 : Nat) : Int) + ((0 : Nat) : Int) * (n - 1) := vp
      rw [vp]
      split
      · rfl
      · simp
    rw [List.length_map] at this
    exact this
  rw [← late_app] at e
  have := clsF_len (row ++ row)
  rw [List.length_append] at this
  have : 1 ≤ (memF (row ++ row)).length := List.length_pos_iff.mpr (memF_ne _)
  omega
end Pf

namespace Pf
open PySem L2 Z PyProof.Rows
/-! ### the greatest end -/
theorem Ns.mem {x : Int} : ∀ {r : List Int} {lo : Bool} {c a : Int}, Ns lo c a r → x ∈ r → inS lo c a x
  | [], _, _, _, _, h => by cases h
  | b :: r, lo, c, a, n, h => by
    cases n with
    | cons hb n =>
      rcases List.mem_cons.mp h with rfl | h
      · exact hb
      · have := n.mem h
        cases lo <;> simp [inS] at * <;> omega
theorem Ns.pre : ∀ {r s : List Int} {lo : Bool} {c a : Int}, Ns lo c a (r ++ s) → Ns lo c a r
  | [], _, _, _, _, _ => .nil
  | b :: r, s, lo, c, a, n => by
    cases n with
    | cons hb n => exact .cons hb n.pre
/-- heights that get less, all from 1 to h -/
def Dsc : Nat → List Int → Prop
  | _, [] => True
  | h, x :: r => 1 ≤ x ∧ x ≤ h ∧ Dsc (x.toNat - 1) r
theorem Dsc.up {h h' : Nat} (k : h ≤ h') : ∀ {l : List Int}, Dsc h l → Dsc h' l
  | [], _ => trivial
  | x :: r, ⟨a, b, c⟩ => ⟨a, by omega, c⟩
theorem Dsc.len : ∀ {l : List Int} {h : Nat}, Dsc h l → l.length ≤ h
  | [], _, _ => Nat.zero_le _
  | x :: r, h, ⟨a, b, c⟩ => by
    have := c.len
    rw [List.length_cons]; omega
end Pf

namespace Pf
/-! ### sums of rods with arms above 0 -/
theorem sum_mul (f : Nat → Int) (m : Int) : ∀ l : List Nat, (l.map fun k => f k * m).sum = (l.map f).sum * m
  | [] => by simp
  | a :: l => by
    rw [List.map_cons, List.map_cons, List.sum_cons, List.sum_cons, sum_mul f m l, Int.add_mul]
theorem area_mul (a : Tr) (m : Int) (h : Nat) : areaT (.mul a m) h = areaT a h * m := by
  unfold areaT
  rw [show ((List.range (h - 1)).map fun k => downT (.mul a m) h k) = (List.range (h - 1)).map fun k => downT a h k * m from rfl, sum_mul (fun k => downT a h k),
    show ((List.range (h - 1)).map fun k => valT (.mul a m) (k + 1)) = (List.range (h - 1)).map fun k => valT a (k + 1) * m from rfl, sum_mul (fun k => valT a (k + 1)), Int.sub_mul]
theorem area_rodP {s : Int} (s0 : 0 ≤ s) (h : Nat) : areaT (.rod s) h = max 0 ((h : Int) - s) * s := by
  rw [area_rod s0, ← Int.mul_sub]
  by_cases c : (h : Int) ≤ s
  · rw [show max 0 ((h : Int) - s) = 0 by omega, Int.zero_mul, Int.zero_mul]
  · rw [show max 0 ((h : Int) - 1) - (max 0 ((h : Int) - s) - 1) = s by omega]
structure SumRod (t : Tr) (n : Nat) (M : Int) : Prop where
  ok : okS t
  cnt : cntT t ≤ n + 1
  tot : totT t ≤ 11 * n
  lip : lipT t ≤ 4 * n
  cv : ∀ h, valT t (h + 1) - valT t h ≤ valT t (h + 2) - valT t (h + 1)
  s0 : valT t 0 ≤ valT t 1
  far : ∀ h : Nat, 11 ≤ h → valT t (h + 1) - valT t h = pullT t
  pl : (n : Int) ≤ pullT t
  M0 : 0 ≤ M ∧ M ≤ 11
  ar : ∀ h, 0 ≤ areaT t h ∧ areaT t h ≤ areaT t (h + 1)
  ap : 0 < areaT t 19 ↔ 0 < M
theorem SumRod.zero : okT (.rod 0) ∧ okT (.mul (.rod 0) 0) ∧ SumRod (.mul (.rod 0) 0) 0 0 := by
  have a : okT (.rod 0) := by refine ⟨?_, ?_, ?_, ?_⟩ <;> simp [goodT, cntT, totT, lipT]
  have m : okT (.mul (.rod 0) 0) := by refine ⟨?_, ?_, ?_, ?_⟩ <;> simp [goodT, cntT, totT, lipT]
  have v : ∀ h, valT (.mul (.rod 0) 0) h = 0 := fun h => by show valT (.rod 0) h * 0 = 0; rw [Int.mul_zero]
  have z : ∀ h, areaT (.mul (.rod 0) 0) h = 0 := fun h => by rw [area_mul, Int.mul_zero]
  have p : pullT (.mul (.rod 0) 0) = 0 := by show pullT (.rod 0) * 0 = 0; rw [Int.mul_zero]
  exact ⟨a, m, ⟨⟨by decide, by decide⟩, ⟨by decide, by decide⟩, m⟩, by decide, by decide, by decide, fun h => by rw [v, v, v]; decide, by rw [v, v]; decide, fun h _ => by rw [v, v, p]; decide, by rw [p]; decide, ⟨by decide, by decide⟩, fun h => by rw [z, z]; decide, by rw [z]⟩
theorem SumRod.step {t : Tr} {n : Nat} {M s a : Int} (h : SumRod t n M) (hn : n < 5) (hs : 0 ≤ s ∧ s < 12) (ha : 1 ≤ a ∧ a ≤ 4) : okT (.rod s) ∧ okT (.mul (.rod s) a) ∧ okT (.add t (.mul (.rod s) a)) ∧ SumRod (.add t (.mul (.rod s) a)) (n + 1) (max M s) := by
  have o := h.ok.ok
  obtain ⟨ok, cnt, tot, lip, cv, s0, far, pl, M0, ar, ap⟩ := h
  have r : okT (.rod s) := by refine ⟨?_, ?_, ?_, ?_⟩ <;> simp [goodT, cntT, totT, lipT] <;> omega
  have lm : lipT (.mul (.rod s) a) = a.natAbs := by show 1 * a.natAbs = _; omega
  have m : okT (.mul (.rod s) a) := ⟨r.1, by show 1 ≤ 60; decide, by show s ≤ 900; omega, by rw [lm]; omega⟩
  have c : okT (.add t (.mul (.rod s) a)) := ⟨⟨o.1, r.1⟩, by show cntT t + 1 ≤ 60; omega, by show totT t + s ≤ 900; omega, by show lipT t + lipT (.mul (.rod s) a) ≤ _; rw [lm]; omega⟩
  have v : ∀ h : Nat, valT (.add t (.mul (.rod s) a)) h = valT t h + max 0 ((h : Int) - s) * a := fun h => rfl
  have p : pullT (.add t (.mul (.rod s) a)) = pullT t + a := by show pullT t + 1 * a = _; omega
  have e : ∀ h, areaT (.add t (.mul (.rod s) a)) h = areaT t h + max 0 ((h : Int) - s) * s * a := fun h => by rw [area_add, area_mul, area_rodP hs.1]
  have sm : ∀ x y : Int, x ≤ y → x * a ≤ y * a := fun x y h => Int.mul_le_mul_of_nonneg_right h (by omega)
  refine ⟨r, m, c, ⟨ok, ⟨⟨hs.1, by omega⟩, ⟨by omega, by omega⟩, m⟩, c⟩, by show cntT t + 1 ≤ _; omega, by show totT t + s ≤ _; omega, by show lipT t + lipT (.mul (.rod s) a) ≤ _; rw [lm]; omega, fun h => ?_, ?_, fun h hh => ?_, by rw [p]; omega, by omega, fun h => ?_, ?_⟩
  · have q := sm (max 0 (((h + 1 : Nat) : Int) - s) - max 0 ((h : Int) - s)) (max 0 (((h + 2 : Nat) : Int) - s) - max 0 (((h + 1 : Nat) : Int) - s)) (by omega)
    rw [Int.sub_mul, Int.sub_mul] at q
    have := cv h
    rw [v, v, v]; omega
  · have q := sm (max 0 (((0 : Nat) : Int) - s)) (max 0 (((1 : Nat) : Int) - s)) (by omega)
    rw [v, v]; omega
  · have e1 : max 0 (((h + 1 : Nat) : Int) - s) = max 0 ((h : Int) - s) + 1 := by omega
    have := far h hh
    rw [v, v, p, e1, Int.add_mul]; omega
  · have q1 : 0 ≤ max 0 ((h : Int) - s) * s * a := Int.mul_nonneg (Int.mul_nonneg (by omega) hs.1) (by omega)
    have q2 : max 0 ((h : Int) - s) * s * a ≤ max 0 (((h + 1 : Nat) : Int) - s) * s * a := sm _ _ (Int.mul_le_mul_of_nonneg_right (by omega) hs.1)
    have := ar h
    rw [e, e]; omega
  · have := ar 19
    rw [e]
    have q0 : 0 ≤ max 0 (((19 : Nat) : Int) - s) * s * a := Int.mul_nonneg (Int.mul_nonneg (by omega) hs.1) (by omega)
    by_cases z : 0 < s
    · have q1 : 0 < max 0 (((19 : Nat) : Int) - s) * s * a := Int.mul_pos (Int.mul_pos (by omega) z) (by omega)
      exact ⟨fun _ => by omega, fun _ => by omega⟩
    · have zs : s = 0 := by omega
      have q1 : max 0 (((19 : Nat) : Int) - s) * s * a = 0 := by rw [zs, Int.mul_zero, Int.zero_mul]
      rw [q1, Int.add_zero, ap]
      omega
theorem SumRod.up {t : Tr} {n : Nat} {M : Int} (h : SumRod t n M) : upT t := fun k => by
  induction k with
  | zero => exact h.s0
  | succ k ih =>
    have := h.cv k
    have e : valT t (k + 1 + 1) = valT t (k + 2) := rfl
    omega
theorem SumRod.steps {t : Tr} {n : Nat} {M : Int} (h : SumRod t n M) : ∀ {i j : Nat}, i ≤ j → valT t (i + 1) - valT t i ≤ valT t (j + 1) - valT t j := fun {i j} hij => by
  induction j with
  | zero => obtain rfl : i = 0 := by omega
            exact Int.le_refl _
  | succ j ih =>
    by_cases c : i = j + 1
    · rw [c]; exact Int.le_refl _
    · exact Int.le_trans (ih (by omega)) (h.cv j)
theorem SumRod.areas {t : Tr} {n : Nat} {M : Int} (h : SumRod t n M) : ∀ {i j : Nat}, i ≤ j → areaT t i ≤ areaT t j := fun {i j} hij => by
  induction j with
  | zero => obtain rfl : i = 0 := by omega
            exact Int.le_refl _
  | succ j ih =>
    by_cases c : i = j + 1
    · rw [c]; exact Int.le_refl _
    · exact Int.le_trans (ih (by omega)) (h.ar j).2
/-- what is still -/
theorem SumRod.still {t : Tr} {n : Nat} {M : Int} (h : SumRod t n M) (hn : 1 ≤ n) : ∃ (s : Nat) (a : Int) (r : List (Int × Int)), armT t = ((s : Int), a) :: r ∧ s ≤ 11 ∧ valT t s = 0 ∧ valT t (s + 1) ≠ 0 := by
  have g := h.ok.ok.1
  have p12 : 1 ≤ valT t 12 := by
    have := h.far 11 (by omega)
    have := h.pl
    have := up_pos (good_pos g) h.up 11
    have e : valT t (11 + 1) = valT t 12 := rfl
    omega
  cases ha : armT t with
  | nil => have := still_nil g ha 12; omega
  | cons q r =>
    have q0 : 0 ≤ q.1 := armT_pos t _ (by rw [ha]; exact List.mem_cons_self)
    refine ⟨q.1.toNat, q.2, r, by rw [Int.toNat_of_nonneg q0], ?_, still_low g ha (by omega), still_next g ha⟩
    apply Classical.byContradiction
    intro c
    have := still_low g ha (n := 12) (by omega)
    omega
theorem SumRod.chn {t o : Tr} {n : Nat} {M : Int} (h : SumRod t n M) (hn : n ≤ 5) (l : lawT 2 o) (u : upT o) : okT (.chn o t) ∧ ∀ k, k < 20 → 0 ≤ valT o k ∧ valT o k ≤ 1000000 := by
  obtain ⟨g, li, d⟩ := l
  have h1 := rng_cap li d
  have h2 := tot_cap li d
  have h3 := cnt_cap d
  have h4 := lip_rng o
  have e1 : capT 2 ≤ 256 := by decide
  have e2 : tcapT 2 ≤ 48 := by decide
  have e3 : ccapT 2 ≤ 18 := by decide
  have hc := h.cnt
  have ht := h.tot
  have hl := h.lip
  have lm : lipT o * lipT t ≤ 256 * 20 := Nat.mul_le_mul (by omega) (by omega)
  refine ⟨⟨⟨g, h.ok.ok.1, u⟩, ?_, ?_, ?_⟩, fun k hk => ?_⟩
  · show cntT o + (if lipT o ≤ 1 then 1 else 2) * cntT t ≤ 60
    split <;> omega
  · show totT o + totT t ≤ 900
    omega
  · show lipT o * lipT t ≤ 400000
    omega
  · have q := lip_run (t := o) (lip_val g) 0 k
    rw [valT_0 (good_pos g), Nat.zero_add] at q
    have p := up_pos (good_pos g) u k
    have : k * lipT o ≤ 20 * 256 := Nat.mul_le_mul (by omega) (by omega)
    omega
end Pf

namespace Pf
/-! ### a curve with given ends as a sum of rods -/
/-! ### how far an end can still go -/
/-- rigs of middling size -/
structure MidT (t : Tr) : Prop where
  ok : okS t
  dep : depT t < 15
  rng : rngT t ≤ 445
  cnt : cntT t ≤ 18
  tot : totT t ≤ 144
  lip : lipT t ≤ 445
theorem MidT.law {t : Tr} (h : lawT 2 t) : MidT t := by
  have o := h.okS (by decide)
  obtain ⟨g, li, d⟩ := h
  have h1 := rng_cap li d
  have h2 := tot_cap li d
  have h3 := cnt_cap d
  have h4 := lip_rng t
  have e1 : capT 2 ≤ 256 := by decide
  have e2 : tcapT 2 ≤ 48 := by decide
  have e3 : ccapT 2 ≤ 18 := by decide
  exact ⟨o, by omega, by omega, by omega, by omega, by omega⟩
theorem MidT.two {t : Tr} (h : MidT t) : okS (.mul t 2) := by
  have o := h.ok.ok
  have := h.lip
  have := h.cnt
  have := h.tot
  exact ⟨h.ok, ⟨by decide, by decide⟩, o.1, by show cntT t ≤ 60; omega, by show totT t ≤ 900; omega, by show lipT t * 2 ≤ 400000; omega⟩
theorem MidT.self {t : Tr} (h : MidT t) : okS (.sub t t) := by
  have o := h.ok.ok
  have := h.lip
  have := h.cnt
  have := h.tot
  exact ⟨h.ok, h.ok, ⟨o.1, o.1⟩, by show cntT t + cntT t ≤ 60; omega, by show totT t + totT t ≤ 900; omega, by show lipT t + lipT t ≤ 400000; omega⟩
end Pf

namespace Pf
open PySem L2 Z PyProof.Rows
def top (i : Nat) : Stmt := PySem.Challenge.pw_slackrods_k07_rows_refused.main.body.getD i (.Pass ⟨0, 0, 0, 0⟩)
abbrev s_is_whole_number : Stmt := top 26
abbrev N_is_whole_number : List Str := ["value"]
abbrev P_is_whole_number : List Str := ["value"]
theorem sc_is_whole_number : FnScope N_is_whole_number P_is_whole_number (defScope s_is_whole_number) := ⟨rfl, rfl, rfl, by decide +kernel, rfl, by decide +kernel, by decide +kernel⟩
abbrev s_is_number : Stmt := top 27
abbrev N_is_number : List Str := ["value", "low", "high"]
abbrev P_is_number : List Str := ["value", "low", "high"]
theorem sc_is_number : FnScope N_is_number P_is_number (defScope s_is_number) := ⟨rfl, rfl, rfl, by decide +kernel, rfl, by decide +kernel, by decide +kernel⟩
abbrev s_is_place : Stmt := top 28
abbrev N_is_place : List Str := ["value"]
abbrev P_is_place : List Str := ["value"]
theorem sc_is_place : FnScope N_is_place P_is_place (defScope s_is_place) := ⟨rfl, rfl, rfl, by decide +kernel, rfl, by decide +kernel, by decide +kernel⟩
abbrev s_check_row : Stmt := top 30
abbrev N_check_row : List Str := ["row", "index", "place"]
abbrev P_check_row : List Str := ["row"]
theorem sc_check_row : FnScope N_check_row P_check_row (defScope s_check_row) := ⟨rfl, rfl, rfl, by decide +kernel, rfl, by decide +kernel, by decide +kernel⟩
abbrev s_ends_of_rod : Stmt := top 41
abbrev N_ends_of_rod : List Str := ["slack", "end", "places", "ends", "place"]
abbrev P_ends_of_rod : List Str := ["slack", "end", "places"]
theorem sc_ends_of_rod : FnScope N_ends_of_rod P_ends_of_rod (defScope s_ends_of_rod) := ⟨rfl, rfl, rfl, by decide +kernel, rfl, by decide +kernel, by decide +kernel⟩
abbrev s_ends_of_arms : Stmt := top 42
abbrev N_ends_of_arms : List Str := ["arms", "places", "ends", "slack", "arm", "_", "end", "far"]
abbrev P_ends_of_arms : List Str := ["arms", "places"]
theorem sc_ends_of_arms : FnScope N_ends_of_arms P_ends_of_arms (defScope s_ends_of_arms) := ⟨rfl, rfl, rfl, by decide +kernel, rfl, by decide +kernel, by decide +kernel⟩
abbrev s__check_arms : Stmt := top 63
abbrev N__check_arms : List Str := ["arms", "slack", "arm"]
abbrev P__check_arms : List Str := ["arms"]
theorem sc__check_arms : FnScope N__check_arms P__check_arms (defScope s__check_arms) := ⟨rfl, rfl, rfl, by decide +kernel, rfl, by decide +kernel, by decide +kernel⟩
abbrev s_rod : Stmt := top 71
abbrev N_rod : List Str := ["slack"]
abbrev P_rod : List Str := ["slack"]
theorem sc_rod : FnScope N_rod P_rod (defScope s_rod) := ⟨rfl, rfl, rfl, by decide +kernel, rfl, by decide +kernel, by decide +kernel⟩
abbrev s_Rig__call_ : Stmt := inClass (top 70) 7
abbrev N_Rig__call_ : List Str := ["self", "row"]
abbrev P_Rig__call_ : List Str := ["self", "row"]
theorem sc_Rig__call_ : FnScope N_Rig__call_ P_Rig__call_ (defScope s_Rig__call_) := ⟨rfl, rfl, rfl, by decide +kernel, rfl, by decide +kernel, by decide +kernel⟩
abbrev s_Rig__init_ : Stmt := inClass (top 70) 0
abbrev N_Rig__init_ : List Str := ["self", "arms"]
abbrev P_Rig__init_ : List Str := ["self", "arms"]
theorem sc_Rig__init_ : FnScope N_Rig__init_ P_Rig__init_ (defScope s_Rig__init_) := ⟨rfl, rfl, rfl, by decide +kernel, rfl, by decide +kernel, by decide +kernel⟩
abbrev s__is_between : Stmt := top 33
abbrev N__is_between : List Str := ["place", "one", "other"]
abbrev P__is_between : List Str := ["place", "one", "other"]
theorem sc__is_between : FnScope N__is_between P__is_between (defScope s__is_between) := ⟨rfl, rfl, rfl, by decide +kernel, rfl, by decide +kernel, by decide +kernel⟩
abbrev s__fits : Stmt := top 34
abbrev N__fits : List Str := ["places", "index", "place"]
abbrev P__fits : List Str := ["places", "index"]
theorem sc__fits : FnScope N__fits P__fits (defScope s__fits) := ⟨rfl, rfl, rfl, by decide +kernel, rfl, by decide +kernel, by decide +kernel⟩
abbrev s__check_places : Stmt := top 35
abbrev N__check_places : List Str := ["places", "index"]
abbrev P__check_places : List Str := ["places"]
theorem sc__check_places : FnScope N__check_places P__check_places (defScope s__check_places) := ⟨rfl, rfl, rfl, by decide +kernel, rfl, by decide +kernel, by decide +kernel⟩
abbrev s_count_kept : Stmt := top 36
abbrev N_count_kept : List Str := ["places", "place", "kept"]
abbrev P_count_kept : List Str := ["places", "place"]
theorem sc_count_kept : FnScope N_count_kept P_count_kept (defScope s_count_kept) := ⟨rfl, rfl, rfl, by decide +kernel, rfl, by decide +kernel, by decide +kernel⟩
abbrev s_after_move : Stmt := top 37
abbrev N_after_move : List Str := ["places", "place"]
abbrev P_after_move : List Str := ["places", "place"]
theorem sc_after_move : FnScope N_after_move P_after_move (defScope s_after_move) := ⟨rfl, rfl, rfl, by decide +kernel, rfl, by decide +kernel, by decide +kernel⟩
abbrev s_Memory_places : Stmt := inClass (top 38) 1
abbrev N_Memory_places : List Str := ["self"]
abbrev P_Memory_places : List Str := ["self"]
theorem sc_Memory_places : FnScope N_Memory_places P_Memory_places (defScope s_Memory_places) := ⟨rfl, rfl, rfl, by decide +kernel, rfl, by decide +kernel, by decide +kernel⟩
abbrev s_memory_of : Stmt := top 39
abbrev N_memory_of : List Str := ["row", "places", "place"]
abbrev P_memory_of : List Str := ["row"]
theorem sc_memory_of : FnScope N_memory_of P_memory_of (defScope s_memory_of) := ⟨rfl, rfl, rfl, by decide +kernel, rfl, by decide +kernel, by decide +kernel⟩
abbrev s_Memory__init_ : Stmt := inClass (top 38) 0
abbrev N_Memory__init_ : List Str := ["self", "places"]
abbrev P_Memory__init_ : List Str := ["self", "places"]
theorem sc_Memory__init_ : FnScope N_Memory__init_ P_Memory__init_ (defScope s_Memory__init_) := ⟨rfl, rfl, rfl, by decide +kernel, rfl, by decide +kernel, by decide +kernel⟩
abbrev s__law_below : Stmt := top 74
abbrev N__law_below : List Str := ["_law_d", "_law_limit", "_law_result"]
abbrev P__law_below : List Str := ["_law_d", "_law_limit"]
theorem sc__law_below : FnScope N__law_below P__law_below (defScope s__law_below) := ⟨rfl, rfl, rfl, by decide +kernel, rfl, by decide +kernel, by decide +kernel⟩
abbrev s__law_random : Stmt := top 73
abbrev N__law_random : List Str := ["_law_script", "_law_salt", "_law_seed", "_law_cell"]
abbrev P__law_random : List Str := ["_law_script", "_law_salt"]
theorem sc__law_random : FnScope N__law_random P__law_random (defScope s__law_random) := ⟨rfl, rfl, rfl, by decide +kernel, rfl, by decide +kernel, by decide +kernel⟩
abbrev s__law_row : Stmt := top 75
abbrev N__law_row : List Str := ["_law_d", "_law_most", "_law_far", "_law_low", "_law_k"]
abbrev P__law_row : List Str := ["_law_d", "_law_most", "_law_far"]
theorem sc__law_row : FnScope N__law_row P__law_row (defScope s__law_row) := ⟨rfl, rfl, rfl, by decide +kernel, rfl, by decide +kernel, by decide +kernel⟩
abbrev s__law_error_of : Stmt := top 76
abbrev N__law_error_of : List Str := ["_law_call", "_law_e", "_law_kinds", "_law_names", "_law_name"]
abbrev P__law_error_of : List Str := ["_law_call"]
theorem sc__law_error_of : FnScope N__law_error_of P__law_error_of (defScope s__law_error_of) := ⟨rfl, rfl, rfl, by decide +kernel, rfl, by decide +kernel, by decide +kernel⟩
abbrev s__law_all_raise : Stmt := top 77
abbrev N__law_all_raise : List Str := ["_law_calls", "_law_expected", "_law_call"]
abbrev P__law_all_raise : List Str := ["_law_calls", "_law_expected"]
theorem sc__law_all_raise : FnScope N__law_all_raise P__law_all_raise (defScope s__law_all_raise) := ⟨rfl, rfl, rfl, by decide +kernel, rfl, by decide +kernel, by decide +kernel⟩
abbrev s_InvalidRow__init_ : Stmt := inClass (top 7) 0
abbrev s_loops : Stmt := top 47
abbrev N_loops : List Str := ["row"]
abbrev P_loops : List Str := ["row"]
theorem sc_loops : FnScope N_loops P_loops (defScope s_loops) := ⟨rfl, rfl, rfl, by decide +kernel, rfl, by decide +kernel, by decide +kernel⟩
abbrev s_travel : Stmt := top 50
abbrev N_travel : List Str := ["rig", "row"]
abbrev P_travel : List Str := ["rig", "row"]
theorem sc_travel : FnScope N_travel P_travel (defScope s_travel) := ⟨rfl, rfl, rfl, by decide +kernel, rfl, by decide +kernel, by decide +kernel⟩
abbrev s_recorded : Stmt := top 52
abbrev N_recorded : List Str := ["rig", "row", "ends"]
abbrev P_recorded : List Str := ["rig", "row"]
theorem sc_recorded : FnScope N_recorded P_recorded (defScope s_recorded) := ⟨rfl, rfl, rfl, by decide +kernel, rfl, by decide +kernel, by decide +kernel⟩
abbrev s__check_moves : Stmt := top 55
abbrev N__check_moves : List Str := ["row"]
abbrev P__check_moves : List Str := ["row"]
theorem sc__check_moves : FnScope N__check_moves P__check_moves (defScope s__check_moves) := ⟨rfl, rfl, rfl, by decide +kernel, rfl, by decide +kernel, by decide +kernel⟩
abbrev s_Repeated__init_ : Stmt := inClass (top 56) 0
abbrev N_Repeated__init_ : List Str := ["self", "rig", "row", "many", "closed", "travelled"]
abbrev P_Repeated__init_ : List Str := ["self", "rig", "row"]
theorem sc_Repeated__init_ : FnScope N_Repeated__init_ P_Repeated__init_ (defScope s_Repeated__init_) := ⟨rfl, rfl, rfl, by decide +kernel, rfl, by decide +kernel, by decide +kernel⟩
abbrev s_law : Stmt := top 78
abbrev N_law : List Str := ["_law_script", "_law_d", "_law_row_here", "_law_odd", "_law_at", "_law_index", "_law_calls", "_law_given", "_law_rig"]
abbrev P_law : List Str := ["_law_script"]
theorem sc_law : FnScope N_law P_law (defScope s_law) := ⟨rfl, rfl, rfl, by decide +kernel, rfl, by decide +kernel, by decide +kernel⟩
structure Tx (mg : Str → Option Value) : Prop where
  b_len : mg "len" = none
  b_isinstance : mg "isinstance" = none
  b_min : mg "min" = none
  b_max : mg "max" = none
  b_abs : mg "abs" = none
  b_sum : mg "sum" = none
  b_int : mg "int" = none
  b_bool : mg "bool" = none
  b_list : mg "list" = none
  b_tuple : mg "tuple" = none
  b_dict : mg "dict" = none
  b_range : mg "range" = none
  b_enumerate : mg "enumerate" = none
  b_zip : mg "zip" = none
  b_sorted : mg "sorted" = none
  b_ValueError : mg "ValueError" = none
  g_FARTHEST : Gk mg "FARTHEST" 1000000
  g_LONGEST_ROW : Gk mg "LONGEST_ROW" 1000
  g_GREATEST_ROD : Gk mg "GREATEST_ROD" 99
  g_GREATEST_TIMES : Gk mg "GREATEST_TIMES" 99
  g_GREATEST_SLACK : Gk mg "GREATEST_SLACK" 999
  g_GREATEST_ARM : Gk mg "GREATEST_ARM" 1000000
  g_MOST_ARMS : Gk mg "MOST_ARMS" 60


abbrev memOk (ps : List Int) : Prop := okMem ps
abbrev armsOk (al : List (Int × Int)) : Prop := okA al
abbrev preMem (K : PySem.W.Frag) : Pr → Prop := fun F => ∃ ps, F = D K (dT ps) ∧ okMem ps
abbrev preRig (K : PySem.W.Frag) : Pr → Prop := fun F => ∃ arms, F = DPl K (prI arms) ∧ okA arms
theorem preM_of {K : PySem.W.Frag} : ∀ ps, memOk ps → preMem K (D K (dT ps)) := fun ps h => ⟨ps, rfl, h⟩
theorem preR_of {K : PySem.W.Frag} : ∀ al, armsOk al → preRig K (DPl K (prI al)) := fun ps h => ⟨ps, rfl, h⟩
theorem cutW_to (xs : List W) (k : Nat) : cutD xs none (some (k : Int)) = xs.take k := cutD_to xs k
/-! ### checks -/
def isNum : W → Int → Int → Bool
  | .int i, lo, hi => decide (lo ≤ i) && decide (i ≤ hi)
  | _, _, _ => false
theorem isNum_pl (x : Int) : isNum (.int x) (-1000000) 1000000 = isPl x := rfl
def isWh : W → Bool
  | .int _ => true
  | _ => false
def x_is_whole_number : XS := .ret (.andV (.fn xIsi (.cons (.var 0) (.cons (.lit (.ty "int")) .nil))) (.notV (.fn xIsi (.cons (.var 0) (.cons (.lit (.ty "bool")) .nil)))))
abbrev F_is_whole_number : XF := ⟨W, 1, fun a => [a], fun a => a.tyn.isSome = true, fun a w => w = .bl (isWh a), by intros; rfl⟩
def x_is_number : XS := .ret (.andV (.call F_is_whole_number (.cons (.var 0) (.nil))) (.chain (fun i j => decide (i ≤ j)) (fun i j => decide (i ≤ j)) (.var 1) (.var 0) (.var 2)))
abbrev F_is_number : XF := ⟨W × Int × Int, 3, fun a => [a.1, .int a.2.1, .int a.2.2], fun a => a.1.tyn.isSome = true, fun a w => w = .bl (isNum a.1 a.2.1 a.2.2), by intros; rfl⟩
section
variable {P : Program} {w : World} {K : PySem.W.Frag} {mg : Str → Option Value} {base : Heap} {c : Z.Cl} {f p : Addr}
theorem ok_is_whole (tx : Tx mg) (d : Dn K mg "is_whole_number" s_is_whole_number P_is_whole_number) : Fx P w K mg base 1 "is_whole_number" (F_is_whole_number.sp K c) := by
  refine d.run (N := N_is_whole_number) (s := x_is_whole_number) sc_is_whole_number rfl ?_ fun f cdv A outer s H E hr => ⟨_, pss_one (ps_ret (pe_and (pe_callB call_isi (by rfl) tx.b_isinstance boot_isinstance (pa_cons (pv 0) (pa_cons (pe_bltn (v := .ty "int") (by rfl) tx.b_int boot_int rfl) pa_nil))) (pe_one (pe_not (pe_callB call_isi (by rfl) tx.b_isinstance boot_isinstance (pa_cons (pv 0) (pa_cons (pe_bltn (v := .ty "bool") (by rfl) tx.b_bool boot_bool rfl) pa_nil))))))),
 es_ret (ev_and (ev_fn (ea_cons (ev_var) (ea_cons ev_ty ea_nil)) en_isi0) (ev_not (ev_fn (ea_cons (ev_var) (ea_cons ev_ty ea_nil)) en_isi0)))⟩
  rintro v Q hp k
  have k := k _ rfl
  have hp : v.tyn.isSome = true := hp
  cases v with
  | int i => simp only [XS.whole, ↓runA, ↓runC, ↓runD, ↓runE, ↓runF, ↓runG, ↓runH, ↓runI, ↓runJ, ↓runK, ↓runXL, ↓runXM, ↓runYM, ↓runZM, ↓d_seq0, ↓d_seq1, ↓d2_seq, ↓reduceIte, runB, ite_and, Decidable.not_not, forall_eq, List.map_cons, List.map_nil, List.cons_append, List.nil_append, List.replicate_succ, List.replicate_zero, List.append_nil, List.set_cons_zero, List.set_cons_succ, List.getElem?_cons_zero, List.getElem?_cons_succ, Option.some.injEq, List.cons.injEq, exists_and_left, exists_eq_left', exists_eq_left, exists_false, exists_const, forall_eq', forall_eq, ints_inj, Prod.exists, reduceCtorEq, List.length_cons, List.length_nil, implies_true, forall_const, decide_eq_true_eq, decide_eq_false_iff_not, List.getElem?_nil, List.set_nil, if_true, if_false, ite_true, ite_false, eq_self, Prod.mk.injEq, Co.lst.injEq, Co.dct.injEq, Fr.mk.injEq, exists_eq, exists_eq', exists_eq_right, exists_and_right, Nat.zero_le, Nat.zero_add, Nat.reduceAdd, Nat.reduceLT, Nat.reduceLeDiff, Nat.reduceEqDiff, List.mem_cons, List.not_mem_nil, List.nodup_cons, List.nodup_nil, List.forall_mem_cons, forall_eq_or_imp, List.getD_cons_zero, List.getD_cons_succ, List.mem_singleton, ne_eq, List.append_assoc, runXC, runXD, runXJ, x_is_whole_number]; exact k
  | arm al =>
    simp only [XS.whole, ↓runA, ↓runC, ↓runD, ↓runE, ↓runF, ↓runG, ↓runH, ↓runI, ↓runJ, ↓runK, ↓runXL, ↓runXM, ↓runYM, ↓runZM, ↓d_seq0, ↓d_seq1, ↓d2_seq, ↓reduceIte, runB, ite_and, Decidable.not_not, forall_eq, List.map_cons, List.map_nil, List.cons_append, List.nil_append, List.replicate_succ, List.replicate_zero, List.append_nil, List.set_cons_zero, List.set_cons_succ, List.getElem?_cons_zero, List.getElem?_cons_succ, Option.some.injEq, List.cons.injEq, exists_and_left, exists_eq_left', exists_eq_left, exists_false, exists_const, forall_eq', forall_eq, ints_inj, Prod.exists, reduceCtorEq, List.length_cons, List.length_nil, implies_true, forall_const, decide_eq_true_eq, decide_eq_false_iff_not, List.getElem?_nil, List.set_nil, if_true, if_false, ite_true, ite_false, eq_self, Prod.mk.injEq, Co.lst.injEq, Co.dct.injEq, Fr.mk.injEq, exists_eq, exists_eq', exists_eq_right, exists_and_right, Nat.zero_le, Nat.zero_add, Nat.reduceAdd, Nat.reduceLT, Nat.reduceLeDiff, Nat.reduceEqDiff, List.mem_cons, List.not_mem_nil, List.nodup_cons, List.nodup_nil, List.forall_mem_cons, forall_eq_or_imp, List.getD_cons_zero, List.getD_cons_succ, List.mem_singleton, ne_eq, List.append_assoc, runXC, runXD, runXJ, x_is_whole_number]
    exact ⟨false, (show L2.kitB "tuple" "int" = some false by decide +kernel), by simp, fun _ => k⟩
  | non => simp only [XS.whole, ↓runA, ↓runC, ↓runD, ↓runE, ↓runF, ↓runG, ↓runH, ↓runI, ↓runJ, ↓runK, ↓runXL, ↓runXM, ↓runYM, ↓runZM, ↓d_seq0, ↓d_seq1, ↓d2_seq, ↓reduceIte, runB, ite_and, Decidable.not_not, forall_eq, List.map_cons, List.map_nil, List.cons_append, List.nil_append, List.replicate_succ, List.replicate_zero, List.append_nil, List.set_cons_zero, List.set_cons_succ, List.getElem?_cons_zero, List.getElem?_cons_succ, Option.some.injEq, List.cons.injEq, exists_and_left, exists_eq_left', exists_eq_left, exists_false, exists_const, forall_eq', forall_eq, ints_inj, Prod.exists, reduceCtorEq, List.length_cons, List.length_nil, implies_true, forall_const, decide_eq_true_eq, decide_eq_false_iff_not, List.getElem?_nil, List.set_nil, if_true, if_false, ite_true, ite_false, eq_self, Prod.mk.injEq, Co.lst.injEq, Co.dct.injEq, Fr.mk.injEq, exists_eq, exists_eq', exists_eq_right, exists_and_right, Nat.zero_le, Nat.zero_add, Nat.reduceAdd, Nat.reduceLT, Nat.reduceLeDiff, Nat.reduceEqDiff, List.mem_cons, List.not_mem_nil, List.nodup_cons, List.nodup_nil, List.forall_mem_cons, forall_eq_or_imp, List.getD_cons_zero, List.getD_cons_succ, List.mem_singleton, ne_eq, List.append_assoc, runXC, runXD, runXJ, x_is_whole_number]; exact k
  | bl b => simp only [XS.whole, ↓runA, ↓runC, ↓runD, ↓runE, ↓runF, ↓runG, ↓runH, ↓runI, ↓runJ, ↓runK, ↓runXL, ↓runXM, ↓runYM, ↓runZM, ↓d_seq0, ↓d_seq1, ↓d2_seq, ↓reduceIte, runB, ite_and, Decidable.not_not, forall_eq, List.map_cons, List.map_nil, List.cons_append, List.nil_append, List.replicate_succ, List.replicate_zero, List.append_nil, List.set_cons_zero, List.set_cons_succ, List.getElem?_cons_zero, List.getElem?_cons_succ, Option.some.injEq, List.cons.injEq, exists_and_left, exists_eq_left', exists_eq_left, exists_false, exists_const, forall_eq', forall_eq, ints_inj, Prod.exists, reduceCtorEq, List.length_cons, List.length_nil, implies_true, forall_const, decide_eq_true_eq, decide_eq_false_iff_not, List.getElem?_nil, List.set_nil, if_true, if_false, ite_true, ite_false, eq_self, Prod.mk.injEq, Co.lst.injEq, Co.dct.injEq, Fr.mk.injEq, exists_eq, exists_eq', exists_eq_right, exists_and_right, Nat.zero_le, Nat.zero_add, Nat.reduceAdd, Nat.reduceLT, Nat.reduceLeDiff, Nat.reduceEqDiff, List.mem_cons, List.not_mem_nil, List.nodup_cons, List.nodup_nil, List.forall_mem_cons, forall_eq_or_imp, List.getD_cons_zero, List.getD_cons_succ, List.mem_singleton, ne_eq, List.append_assoc, runXC, runXD, runXJ, x_is_whole_number]; exact k
  | str b => simp only [XS.whole, ↓runA, ↓runC, ↓runD, ↓runE, ↓runF, ↓runG, ↓runH, ↓runI, ↓runJ, ↓runK, ↓runXL, ↓runXM, ↓runYM, ↓runZM, ↓d_seq0, ↓d_seq1, ↓d2_seq, ↓reduceIte, runB, ite_and, Decidable.not_not, forall_eq, List.map_cons, List.map_nil, List.cons_append, List.nil_append, List.replicate_succ, List.replicate_zero, List.append_nil, List.set_cons_zero, List.set_cons_succ, List.getElem?_cons_zero, List.getElem?_cons_succ, Option.some.injEq, List.cons.injEq, exists_and_left, exists_eq_left', exists_eq_left, exists_false, exists_const, forall_eq', forall_eq, ints_inj, Prod.exists, reduceCtorEq, List.length_cons, List.length_nil, implies_true, forall_const, decide_eq_true_eq, decide_eq_false_iff_not, List.getElem?_nil, List.set_nil, if_true, if_false, ite_true, ite_false, eq_self, Prod.mk.injEq, Co.lst.injEq, Co.dct.injEq, Fr.mk.injEq, exists_eq, exists_eq', exists_eq_right, exists_and_right, Nat.zero_le, Nat.zero_add, Nat.reduceAdd, Nat.reduceLT, Nat.reduceLeDiff, Nat.reduceEqDiff, List.mem_cons, List.not_mem_nil, List.nodup_cons, List.nodup_nil, List.forall_mem_cons, forall_eq_or_imp, List.getD_cons_zero, List.getD_cons_succ, List.mem_singleton, ne_eq, List.append_assoc, runXC, runXD, runXJ, x_is_whole_number]; exact k
  | lst b => simp only [XS.whole, ↓runA, ↓runC, ↓runD, ↓runE, ↓runF, ↓runG, ↓runH, ↓runI, ↓runJ, ↓runK, ↓runXL, ↓runXM, ↓runYM, ↓runZM, ↓d_seq0, ↓d_seq1, ↓d2_seq, ↓reduceIte, runB, ite_and, Decidable.not_not, forall_eq, List.map_cons, List.map_nil, List.cons_append, List.nil_append, List.replicate_succ, List.replicate_zero, List.append_nil, List.set_cons_zero, List.set_cons_succ, List.getElem?_cons_zero, List.getElem?_cons_succ, Option.some.injEq, List.cons.injEq, exists_and_left, exists_eq_left', exists_eq_left, exists_false, exists_const, forall_eq', forall_eq, ints_inj, Prod.exists, reduceCtorEq, List.length_cons, List.length_nil, implies_true, forall_const, decide_eq_true_eq, decide_eq_false_iff_not, List.getElem?_nil, List.set_nil, if_true, if_false, ite_true, ite_false, eq_self, Prod.mk.injEq, Co.lst.injEq, Co.dct.injEq, Fr.mk.injEq, exists_eq, exists_eq', exists_eq_right, exists_and_right, Nat.zero_le, Nat.zero_add, Nat.reduceAdd, Nat.reduceLT, Nat.reduceLeDiff, Nat.reduceEqDiff, List.mem_cons, List.not_mem_nil, List.nodup_cons, List.nodup_nil, List.forall_mem_cons, forall_eq_or_imp, List.getD_cons_zero, List.getD_cons_succ, List.mem_singleton, ne_eq, List.append_assoc, runXC, runXD, runXJ, x_is_whole_number]; exact k
  | tup b => simp only [XS.whole, ↓runA, ↓runC, ↓runD, ↓runE, ↓runF, ↓runG, ↓runH, ↓runI, ↓runJ, ↓runK, ↓runXL, ↓runXM, ↓runYM, ↓runZM, ↓d_seq0, ↓d_seq1, ↓d2_seq, ↓reduceIte, runB, ite_and, Decidable.not_not, forall_eq, List.map_cons, List.map_nil, List.cons_append, List.nil_append, List.replicate_succ, List.replicate_zero, List.append_nil, List.set_cons_zero, List.set_cons_succ, List.getElem?_cons_zero, List.getElem?_cons_succ, Option.some.injEq, List.cons.injEq, exists_and_left, exists_eq_left', exists_eq_left, exists_false, exists_const, forall_eq', forall_eq, ints_inj, Prod.exists, reduceCtorEq, List.length_cons, List.length_nil, implies_true, forall_const, decide_eq_true_eq, decide_eq_false_iff_not, List.getElem?_nil, List.set_nil, if_true, if_false, ite_true, ite_false, eq_self, Prod.mk.injEq, Co.lst.injEq, Co.dct.injEq, Fr.mk.injEq, exists_eq, exists_eq', exists_eq_right, exists_and_right, Nat.zero_le, Nat.zero_add, Nat.reduceAdd, Nat.reduceLT, Nat.reduceLeDiff, Nat.reduceEqDiff, List.mem_cons, List.not_mem_nil, List.nodup_cons, List.nodup_nil, List.forall_mem_cons, forall_eq_or_imp, List.getD_cons_zero, List.getD_cons_succ, List.mem_singleton, ne_eq, List.append_assoc, runXC, runXD, runXJ, x_is_whole_number]; exact k
  | _ => cases hp
theorem ok_is_number (tx : Tx mg) (d : Dn K mg "is_number" s_is_number P_is_number) (c_is_whole_number : Fx P w K mg base 1 "is_whole_number" (F_is_whole_number.sp K c)) : Fx P w K mg base 2 "is_number" (F_is_number.sp K c) := by
  refine d.run (N := N_is_number) (s := x_is_number) sc_is_number rfl ?_ fun f cdv A outer s H E hr => ⟨_, pss_one (ps_ret (pe_and (pe_f c_is_whole_number hr (by first | exact Nat.le_refl _ | decide | omega) rfl (pa_cons (pv 0) (pa_nil))) (pe_one (pe_chain op_le op_le (pv 1) (pv 0) (pv 2))))),
 es_ret (ev_and (ev_call (ea_cons (ev_var) (ea_nil))) (ev_chain (ev_var) (ev_var) (ev_var)))⟩
  rintro ⟨v, lo, hi⟩ Q hp k
  have k := k _ rfl
  have hp : v.tyn.isSome = true := hp
  cases v with
  | int i =>
    simp only [XS.whole, ↓runA, ↓runC, ↓runD, ↓runE, ↓runF, ↓runG, ↓runH, ↓runI, ↓runJ, ↓runK, ↓runXL, ↓runXM, ↓runYM, ↓runZM, ↓d_seq0, ↓d_seq1, ↓d2_seq, ↓reduceIte, runB, ite_and, Decidable.not_not, forall_eq, List.map_cons, List.map_nil, List.cons_append, List.nil_append, List.replicate_succ, List.replicate_zero, List.append_nil, List.set_cons_zero, List.set_cons_succ, List.getElem?_cons_zero, List.getElem?_cons_succ, Option.some.injEq, List.cons.injEq, exists_and_left, exists_eq_left', exists_eq_left, exists_false, exists_const, forall_eq', forall_eq, ints_inj, Prod.exists, reduceCtorEq, List.length_cons, List.length_nil, implies_true, forall_const, decide_eq_true_eq, decide_eq_false_iff_not, List.getElem?_nil, List.set_nil, if_true, if_false, ite_true, ite_false, eq_self, Prod.mk.injEq, Co.lst.injEq, Co.dct.injEq, Fr.mk.injEq, exists_eq, exists_eq', exists_eq_right, exists_and_right, Nat.zero_le, Nat.zero_add, Nat.reduceAdd, Nat.reduceLT, Nat.reduceLeDiff, Nat.reduceEqDiff, List.mem_cons, List.not_mem_nil, List.nodup_cons, List.nodup_nil, List.forall_mem_cons, forall_eq_or_imp, List.getD_cons_zero, List.getD_cons_succ, List.mem_singleton, ne_eq, List.append_assoc, runXC, runXD, runXJ, x_is_number]
    refine ⟨rfl, fun _ => ⟨fun h => ?_, fun h => ?_⟩, fun h => by cases h⟩
    · have : isNum (.int i) lo hi = decide (i ≤ hi) := by show (decide (lo ≤ i) && decide (i ≤ hi)) = _; rw [decide_eq_true h]; rfl
      rw [← this]; exact k
    · have : isNum (.int i) lo hi = false := by show (decide (lo ≤ i) && decide (i ≤ hi)) = _; rw [decide_eq_false h]; rfl
      rw [← this]; exact k
  | arm al => simp only [XS.whole, ↓runA, ↓runC, ↓runD, ↓runE, ↓runF, ↓runG, ↓runH, ↓runI, ↓runJ, ↓runK, ↓runXL, ↓runXM, ↓runYM, ↓runZM, ↓d_seq0, ↓d_seq1, ↓d2_seq, ↓reduceIte, runB, ite_and, Decidable.not_not, forall_eq, List.map_cons, List.map_nil, List.cons_append, List.nil_append, List.replicate_succ, List.replicate_zero, List.append_nil, List.set_cons_zero, List.set_cons_succ, List.getElem?_cons_zero, List.getElem?_cons_succ, Option.some.injEq, List.cons.injEq, exists_and_left, exists_eq_left', exists_eq_left, exists_false, exists_const, forall_eq', forall_eq, ints_inj, Prod.exists, reduceCtorEq, List.length_cons, List.length_nil, implies_true, forall_const, decide_eq_true_eq, decide_eq_false_iff_not, List.getElem?_nil, List.set_nil, if_true, if_false, ite_true, ite_false, eq_self, Prod.mk.injEq, Co.lst.injEq, Co.dct.injEq, Fr.mk.injEq, exists_eq, exists_eq', exists_eq_right, exists_and_right, Nat.zero_le, Nat.zero_add, Nat.reduceAdd, Nat.reduceLT, Nat.reduceLeDiff, Nat.reduceEqDiff, List.mem_cons, List.not_mem_nil, List.nodup_cons, List.nodup_nil, List.forall_mem_cons, forall_eq_or_imp, List.getD_cons_zero, List.getD_cons_succ, List.mem_singleton, ne_eq, List.append_assoc, runXC, runXD, runXJ, x_is_number]; exact ⟨rfl, (by intro h; cases h), fun _ => k⟩
  | non => simp only [XS.whole, ↓runA, ↓runC, ↓runD, ↓runE, ↓runF, ↓runG, ↓runH, ↓runI, ↓runJ, ↓runK, ↓runXL, ↓runXM, ↓runYM, ↓runZM, ↓d_seq0, ↓d_seq1, ↓d2_seq, ↓reduceIte, runB, ite_and, Decidable.not_not, forall_eq, List.map_cons, List.map_nil, List.cons_append, List.nil_append, List.replicate_succ, List.replicate_zero, List.append_nil, List.set_cons_zero, List.set_cons_succ, List.getElem?_cons_zero, List.getElem?_cons_succ, Option.some.injEq, List.cons.injEq, exists_and_left, exists_eq_left', exists_eq_left, exists_false, exists_const, forall_eq', forall_eq, ints_inj, Prod.exists, reduceCtorEq, List.length_cons, List.length_nil, implies_true, forall_const, decide_eq_true_eq, decide_eq_false_iff_not, List.getElem?_nil, List.set_nil, if_true, if_false, ite_true, ite_false, eq_self, Prod.mk.injEq, Co.lst.injEq, Co.dct.injEq, Fr.mk.injEq, exists_eq, exists_eq', exists_eq_right, exists_and_right, Nat.zero_le, Nat.zero_add, Nat.reduceAdd, Nat.reduceLT, Nat.reduceLeDiff, Nat.reduceEqDiff, List.mem_cons, List.not_mem_nil, List.nodup_cons, List.nodup_nil, List.forall_mem_cons, forall_eq_or_imp, List.getD_cons_zero, List.getD_cons_succ, List.mem_singleton, ne_eq, List.append_assoc, runXC, runXD, runXJ, x_is_number]; exact ⟨rfl, (by intro h; cases h), fun _ => k⟩
  | bl b => simp only [XS.whole, ↓runA, ↓runC, ↓runD, ↓runE, ↓runF, ↓runG, ↓runH, ↓runI, ↓runJ, ↓runK, ↓runXL, ↓runXM, ↓runYM, ↓runZM, ↓d_seq0, ↓d_seq1, ↓d2_seq, ↓reduceIte, runB, ite_and, Decidable.not_not, forall_eq, List.map_cons, List.map_nil, List.cons_append, List.nil_append, List.replicate_succ, List.replicate_zero, List.append_nil, List.set_cons_zero, List.set_cons_succ, List.getElem?_cons_zero, List.getElem?_cons_succ, Option.some.injEq, List.cons.injEq, exists_and_left, exists_eq_left', exists_eq_left, exists_false, exists_const, forall_eq', forall_eq, ints_inj, Prod.exists, reduceCtorEq, List.length_cons, List.length_nil, implies_true, forall_const, decide_eq_true_eq, decide_eq_false_iff_not, List.getElem?_nil, List.set_nil, if_true, if_false, ite_true, ite_false, eq_self, Prod.mk.injEq, Co.lst.injEq, Co.dct.injEq, Fr.mk.injEq, exists_eq, exists_eq', exists_eq_right, exists_and_right, Nat.zero_le, Nat.zero_add, Nat.reduceAdd, Nat.reduceLT, Nat.reduceLeDiff, Nat.reduceEqDiff, List.mem_cons, List.not_mem_nil, List.nodup_cons, List.nodup_nil, List.forall_mem_cons, forall_eq_or_imp, List.getD_cons_zero, List.getD_cons_succ, List.mem_singleton, ne_eq, List.append_assoc, runXC, runXD, runXJ, x_is_number]; exact ⟨rfl, (by intro h; cases h), fun _ => k⟩
  | str b => simp only [XS.whole, ↓runA, ↓runC, ↓runD, ↓runE, ↓runF, ↓runG, ↓runH, ↓runI, ↓runJ, ↓runK, ↓runXL, ↓runXM, ↓runYM, ↓runZM, ↓d_seq0, ↓d_seq1, ↓d2_seq, ↓reduceIte, runB, ite_and, Decidable.not_not, forall_eq, List.map_cons, List.map_nil, List.cons_append, List.nil_append, List.replicate_succ, List.replicate_zero, List.append_nil, List.set_cons_zero, List.set_cons_succ, List.getElem?_cons_zero, List.getElem?_cons_succ, Option.some.injEq, List.cons.injEq, exists_and_left, exists_eq_left', exists_eq_left, exists_false, exists_const, forall_eq', forall_eq, ints_inj, Prod.exists, reduceCtorEq, List.length_cons, List.length_nil, implies_true, forall_const, decide_eq_true_eq, decide_eq_false_iff_not, List.getElem?_nil, List.set_nil, if_true, if_false, ite_true, ite_false, eq_self, Prod.mk.injEq, Co.lst.injEq, Co.dct.injEq, Fr.mk.injEq, exists_eq, exists_eq', exists_eq_right, exists_and_right, Nat.zero_le, Nat.zero_add, Nat.reduceAdd, Nat.reduceLT, Nat.reduceLeDiff, Nat.reduceEqDiff, List.mem_cons, List.not_mem_nil, List.nodup_cons, List.nodup_nil, List.forall_mem_cons, forall_eq_or_imp, List.getD_cons_zero, List.getD_cons_succ, List.mem_singleton, ne_eq, List.append_assoc, runXC, runXD, runXJ, x_is_number]; exact ⟨rfl, (by intro h; cases h), fun _ => k⟩
  | lst b => simp only [XS.whole, ↓runA, ↓runC, ↓runD, ↓runE, ↓runF, ↓runG, ↓runH, ↓runI, ↓runJ, ↓runK, ↓runXL, ↓runXM, ↓runYM, ↓runZM, ↓d_seq0, ↓d_seq1, ↓d2_seq, ↓reduceIte, runB, ite_and, Decidable.not_not, forall_eq, List.map_cons, List.map_nil, List.cons_append, List.nil_append, List.replicate_succ, List.replicate_zero, List.append_nil, List.set_cons_zero, List.set_cons_succ, List.getElem?_cons_zero, List.getElem?_cons_succ, Option.some.injEq, List.cons.injEq, exists_and_left, exists_eq_left', exists_eq_left, exists_false, exists_const, forall_eq', forall_eq, ints_inj, Prod.exists, reduceCtorEq, List.length_cons, List.length_nil, implies_true, forall_const, decide_eq_true_eq, decide_eq_false_iff_not, List.getElem?_nil, List.set_nil, if_true, if_false, ite_true, ite_false, eq_self, Prod.mk.injEq, Co.lst.injEq, Co.dct.injEq, Fr.mk.injEq, exists_eq, exists_eq', exists_eq_right, exists_and_right, Nat.zero_le, Nat.zero_add, Nat.reduceAdd, Nat.reduceLT, Nat.reduceLeDiff, Nat.reduceEqDiff, List.mem_cons, List.not_mem_nil, List.nodup_cons, List.nodup_nil, List.forall_mem_cons, forall_eq_or_imp, List.getD_cons_zero, List.getD_cons_succ, List.mem_singleton, ne_eq, List.append_assoc, runXC, runXD, runXJ, x_is_number]; exact ⟨hp, (by intro h; cases h), fun _ => k⟩
  | tup b => simp only [XS.whole, ↓runA, ↓runC, ↓runD, ↓runE, ↓runF, ↓runG, ↓runH, ↓runI, ↓runJ, ↓runK, ↓runXL, ↓runXM, ↓runYM, ↓runZM, ↓d_seq0, ↓d_seq1, ↓d2_seq, ↓reduceIte, runB, ite_and, Decidable.not_not, forall_eq, List.map_cons, List.map_nil, List.cons_append, List.nil_append, List.replicate_succ, List.replicate_zero, List.append_nil, List.set_cons_zero, List.set_cons_succ, List.getElem?_cons_zero, List.getElem?_cons_succ, Option.some.injEq, List.cons.injEq, exists_and_left, exists_eq_left', exists_eq_left, exists_false, exists_const, forall_eq', forall_eq, ints_inj, Prod.exists, reduceCtorEq, List.length_cons, List.length_nil, implies_true, forall_const, decide_eq_true_eq, decide_eq_false_iff_not, List.getElem?_nil, List.set_nil, if_true, if_false, ite_true, ite_false, eq_self, Prod.mk.injEq, Co.lst.injEq, Co.dct.injEq, Fr.mk.injEq, exists_eq, exists_eq', exists_eq_right, exists_and_right, Nat.zero_le, Nat.zero_add, Nat.reduceAdd, Nat.reduceLT, Nat.reduceLeDiff, Nat.reduceEqDiff, List.mem_cons, List.not_mem_nil, List.nodup_cons, List.nodup_nil, List.forall_mem_cons, forall_eq_or_imp, List.getD_cons_zero, List.getD_cons_succ, List.mem_singleton, ne_eq, List.append_assoc, runXC, runXD, runXJ, x_is_number]; exact ⟨hp, (by intro h; cases h), fun _ => k⟩
  | _ => cases hp
end
def x_is_place : XS := .ret (.call F_is_number (.cons (.var 0) (.cons (.un .neg (.lit (.int 1000000))) (.cons (.lit (.int 1000000)) (.nil)))))
abbrev F_is_place : XF := ⟨W, 1, fun a => [a], fun a => a.tyn.isSome = true, fun a w => w = .bl (isNum a (-1000000) 1000000), by intros; rfl⟩
def x_check_row : XS := .seq (.ifs (.not (.val (.fn xIsi (.cons (.var 0) (.cons (.lit (.ty "list")) .nil))))) (.never) (.next))
 (.forr (.enum (.cons (.var 0) (.nil))) (.tup (.cons (.name 1) (.cons (.name 2) (.nil)))) (.ifs (.or (.val (.op oGe (.var 1) (.lit (.int 1000)))) (.not (.val (.call F_is_place (.cons (.var 2) (.nil)))))) (.never) (.next)))
abbrev F_check_row : XF := ⟨List Int, 1, fun a => [.lst (a.map .int)], fun a => a.length ≤ 1000 ∧ ∀ x ∈ a, isPl x = true, fun a w => w = .non, by intros; rfl⟩
section
variable {P : Program} {w : World} {K : PySem.W.Frag} {mg : Str → Option Value} {base : Heap} {c : Z.Cl} {f p : Addr}
theorem ok_is_place (tx : Tx mg) (d : Dn K mg "is_place" s_is_place P_is_place) (c_is_number : Fx P w K mg base 2 "is_number" (F_is_number.sp K c)) : Fx P w K mg base 3 "is_place" (F_is_place.sp K c) := by
  refine d.run (N := N_is_place) (s := x_is_place) sc_is_place rfl ?_ fun f cdv A outer s H E hr => ⟨_, pss_one (ps_ret (pe_f c_is_number hr (by first | exact Nat.le_refl _ | decide | omega) rfl (pa_cons (pv 0) (pa_cons (pe_un un_neg (pe_gK rfl tx.g_FARTHEST)) (pa_cons (pe_gK rfl tx.g_FARTHEST) (pa_nil)))))),
 es_ret (ev_call (ea_cons (ev_var) (ea_cons (ev_un (ev_int) eu_neg) (ea_cons (ev_int) (ea_nil)))))⟩
  rintro v Q hp k
  have k := k _ rfl
  simp only [XS.whole, ↓runA, ↓runC, ↓runD, ↓runE, ↓runF, ↓runG, ↓runH, ↓runI, ↓runJ, ↓runK, ↓runXL, ↓runXM, ↓runYM, ↓runZM, ↓d_seq0, ↓d_seq1, ↓d2_seq, ↓reduceIte, runB, ite_and, Decidable.not_not, forall_eq, List.map_cons, List.map_nil, List.cons_append, List.nil_append, List.replicate_succ, List.replicate_zero, List.append_nil, List.set_cons_zero, List.set_cons_succ, List.getElem?_cons_zero, List.getElem?_cons_succ, Option.some.injEq, List.cons.injEq, exists_and_left, exists_eq_left', exists_eq_left, exists_false, exists_const, forall_eq', forall_eq, ints_inj, Prod.exists, reduceCtorEq, List.length_cons, List.length_nil, implies_true, forall_const, decide_eq_true_eq, decide_eq_false_iff_not, List.getElem?_nil, List.set_nil, if_true, if_false, ite_true, ite_false, eq_self, Prod.mk.injEq, Co.lst.injEq, Co.dct.injEq, Fr.mk.injEq, exists_eq, exists_eq', exists_eq_right, exists_and_right, Nat.zero_le, Nat.zero_add, Nat.reduceAdd, Nat.reduceLT, Nat.reduceLeDiff, Nat.reduceEqDiff, List.mem_cons, List.not_mem_nil, List.nodup_cons, List.nodup_nil, List.forall_mem_cons, forall_eq_or_imp, List.getD_cons_zero, List.getD_cons_succ, List.mem_singleton, ne_eq, List.append_assoc, runXC, runXD, runXJ, x_is_place]
  exact ⟨hp, k⟩
theorem ok_check_row (tx : Tx mg) (d : Dn K mg "check_row" s_check_row P_check_row) (c_is_place : Fx P w K mg base 3 "is_place" (F_is_place.sp K c)) : Fx P w K mg base 4 "check_row" (F_check_row.sp K c) := by
  refine d.run (N := N_check_row) (s := x_check_row) sc_check_row rfl ?_ fun f cdv A outer s H E hr => ⟨_, pss_cons (ps_if (pt_not (pt_val (pe_callB call_isi (by rfl) tx.b_isinstance boot_isinstance (pa_cons (pv 0) (pa_cons (pe_bltn (v := .ty "list") (by rfl) tx.b_list boot_list rfl) pa_nil))))) (pss_one (ps_never)) (pss_nil))
 (pss_one (ps_for PassesOwn.never rfl (pi_enum (by rfl) tx.b_enumerate (pa_cons (pv 0) (pa_nil))) (pg_tup rfl (pgs_cons (pg_name (i := 1) sc_check_row.nd rfl (Or.inl rfl)) (pgs_cons (pg_name (i := 2) sc_check_row.nd rfl (Or.inl rfl)) (pgs_nil)))) (pss_one (ps_if ((PW.pt (pw_or (pt_cmpR op_ge (pv 1) (pe_gK rfl tx.g_LONGEST_ROW) (nomark _)) (pw_or1 (pt_not (pt_val (pe_f c_is_place hr (by first | exact Nat.le_refl _ | decide | omega) rfl (pa_cons (pv 2) (pa_nil))))))))) (pss_one (ps_never)) (pss_nil))))),
 es_seq (es_if (et_not (et_b (ev_fn (ea_cons (ev_var) (ea_cons ev_ty ea_nil)) en_isi0))) (es_never) (es_next))
 (es_for (ei_enum (ea_cons (ev_var) (ea_nil))) (eg_tup (egs_cons (eg_name) (egs_cons (eg_name) (egs_nil))) (by rintro ws ρ Q ⟨_, _, rfl, _, _, rfl, rfl, -⟩; rfl)) (es_if (et_or (et_test (ev_op (ev_var) (ev_int) eo_B)) (et_not (et_b (ev_call (ea_cons (ev_var) (ea_nil)))))) (es_never) (es_next)))⟩
  rintro ns Q ⟨hl, hp⟩ k
  have k : Q .non := k _ rfl
  simp only [XS.whole, ↓runA, ↓runC, ↓runD, ↓runE, ↓runF, ↓runG, ↓runH, ↓runI, ↓runJ, ↓runK, ↓runXL, ↓runXM, ↓runYM, ↓runZM, ↓d_seq0, ↓d_seq1, ↓d2_seq, ↓reduceIte, runB, ite_and, Decidable.not_not, forall_eq, List.map_cons, List.map_nil, List.cons_append, List.nil_append, List.replicate_succ, List.replicate_zero, List.append_nil, List.set_cons_zero, List.set_cons_succ, List.getElem?_cons_zero, List.getElem?_cons_succ, Option.some.injEq, List.cons.injEq, exists_and_left, exists_eq_left', exists_eq_left, exists_false, exists_const, forall_eq', forall_eq, ints_inj, Prod.exists, reduceCtorEq, List.length_cons, List.length_nil, implies_true, forall_const, decide_eq_true_eq, decide_eq_false_iff_not, List.getElem?_nil, List.set_nil, if_true, if_false, ite_true, ite_false, eq_self, Prod.mk.injEq, Co.lst.injEq, Co.dct.injEq, Fr.mk.injEq, exists_eq, exists_eq', exists_eq_right, exists_and_right, Nat.zero_le, Nat.zero_add, Nat.reduceAdd, Nat.reduceLT, Nat.reduceLeDiff, Nat.reduceEqDiff, List.mem_cons, List.not_mem_nil, List.nodup_cons, List.nodup_nil, List.forall_mem_cons, forall_eq_or_imp, List.getD_cons_zero, List.getD_cons_succ, List.mem_singleton, ne_eq, List.append_assoc, runXC, runXD, runXJ, x_check_row]
  refine ⟨fun i φ => ∃ a b, φ = ⟨[some (.lst (ns.map .int)), a, b], none⟩, ⟨_, _, rfl⟩, ?_, fun φ _ => k⟩
  rintro i w φ hw ⟨a, b, rfl⟩
  obtain ⟨x, hx, rfl⟩ := enumW_at hw
  obtain ⟨z, hz, rfl⟩ := mapW_at hx
  have hi := (List.getElem?_eq_some_iff.mp hz).1
  have hpl := hp z (List.mem_of_getElem? hz)
  simp only [XS.whole, ↓runA, ↓runC, ↓runD, ↓runE, ↓runF, ↓runG, ↓runH, ↓runI, ↓runJ, ↓runK, ↓runXL, ↓runXM, ↓runYM, ↓runZM, ↓d_seq0, ↓d_seq1, ↓d2_seq, ↓reduceIte, runB, ite_and, Decidable.not_not, forall_eq, List.map_cons, List.map_nil, List.cons_append, List.nil_append, List.replicate_succ, List.replicate_zero, List.append_nil, List.set_cons_zero, List.set_cons_succ, List.getElem?_cons_zero, List.getElem?_cons_succ, Option.some.injEq, List.cons.injEq, exists_and_left, exists_eq_left', exists_eq_left, exists_false, exists_const, forall_eq', forall_eq, ints_inj, Prod.exists, reduceCtorEq, List.length_cons, List.length_nil, implies_true, forall_const, decide_eq_true_eq, decide_eq_false_iff_not, List.getElem?_nil, List.set_nil, if_true, if_false, ite_true, ite_false, eq_self, Prod.mk.injEq, Co.lst.injEq, Co.dct.injEq, Fr.mk.injEq, exists_eq, exists_eq', exists_eq_right, exists_and_right, Nat.zero_le, Nat.zero_add, Nat.reduceAdd, Nat.reduceLT, Nat.reduceLeDiff, Nat.reduceEqDiff, List.mem_cons, List.not_mem_nil, List.nodup_cons, List.nodup_nil, List.forall_mem_cons, forall_eq_or_imp, List.getD_cons_zero, List.getD_cons_succ, List.mem_singleton, ne_eq, List.append_assoc, runXC, runXD, runXJ]
  rw [isNum_pl, hpl]
  exact ⟨by omega, fun _ => ⟨rfl, nofun⟩⟩
end
/-! ### rods and sums of rods -/
def x_ends_of_rod : XS := .seq (.newL 3 (.nil))
 (.seq (.forr (.seq (.var 2)) (.name 4) (.seq (.asg (.name 1) (.fn (.ii fun i j => .int (min i j)) (.cons (.fn (.ii fun i j => .int (max i j)) (.cons (.var 1) (.cons (.op oSub (.var 4) (.var 0)) (.nil)))) (.cons (.var 4) (.nil)))))
 (.app 3 (.var 1))))
 (.ret (.var 3)))
/-- a row is a list or a tuple of places -/
def seqW (t : Bool) (ns : List Int) : W := if t = true then .lst (ns.map .int) else .tup (ns.map .int)
theorem seqW_it {t : Bool} {ns : List Int} {R : List W → Prop} (h : R (ns.map .int)) : (∃ xs, (seqW t ns).itL = some xs ∧ R xs) ∨ ∃ xs, (seqW t ns).itT = some xs ∧ R xs := by
  cases t with
  | true => exact .inl ⟨_, rfl, h⟩
  | false => exact .inr ⟨_, rfl, h⟩
abbrev F_ends_of_rod : XF := ⟨Bool × Int × Int × List Int, 3, fun a => [.int a.2.1, .int a.2.2.1, seqW a.1 a.2.2.2], fun a => a.2.2.2.length ≤ 40000, fun a w => w = .lst ((rodEs a.2.1 a.2.2.1 a.2.2.2).map .int), by intros; rfl⟩
def x_ends_of_arms : XS := .seq (.asg (.name 2) (.comp (.seq (.var 1)) (.name 5) .yes (.lit (.int 0)) [5]))
 (.seq (.forr (.seq (.var 0)) (.tup (.cons (.name 3) (.cons (.name 4) (.nil)))) (.asg (.name 2) (.comp (.zip (.cons (.var 2) (.cons (.call F_ends_of_rod (.cons (.var 3) (.cons (.lit (.int 0)) (.cons (.var 1) (.nil))))) (.nil)))) (.tup (.cons (.name 6) (.cons (.name 7) (.nil)))) .yes (.op oAdd (.var 6) (.op oMul (.var 4) (.var 7))) [6, 7])))
 (.ret (.var 2)))
abbrev F_ends_of_arms : XF := ⟨Bool × List (Int × Int) × List Int, 2, fun a => [.arm a.2.1, seqW a.1 a.2.2], fun a => okA a.2.1 ∧ a.2.2.length ≤ 40000, fun a w => w = .lst ((armsEs a.2.2 (zEs a.2.2) a.2.1).map .int), by intros; rfl⟩
section
variable {P : Program} {w : World} {K : PySem.W.Frag} {mg : Str → Option Value} {base : Heap} {c : Z.Cl} {f p : Addr}
theorem ok_ends_of_rod (tx : Tx mg) (d : Dn K mg "ends_of_rod" s_ends_of_rod P_ends_of_rod) : Fx P w K mg base 1 "ends_of_rod" (F_ends_of_rod.sp K c) := by
  refine d.run (N := N_ends_of_rod) (s := x_ends_of_rod) sc_ends_of_rod rfl ?_ fun f cdv A outer s H E hr => ⟨_, pss_cons (ps_set (i := 3) sc_ends_of_rod.nd rfl (Or.inl rfl) (pe_lst (pa_nil)))
 (pss_cons (ps_for PassesOwn.never rfl (pi_seq (pv 2)) (pg_name (i := 4) sc_ends_of_rod.nd rfl (Or.inl rfl)) (pss_cons (ps_set (i := 1) sc_ends_of_rod.nd rfl (Or.inl rfl) (pe_callB (call_min2 rfl) (by rfl) tx.b_min boot_min (pa_cons (pe_callB (call_max2 rfl) (by rfl) tx.b_max boot_max (pa_cons (pv 1) (pa_cons (pe_op opSub (pv 4) (pv 0)) (pa_nil)))) (pa_cons (pv 4) (pa_nil)))))
 (pss_one (ps_expr (pe_bm PySem.F.plainAttrs_list PySem.F.slot_list_append PySem.F.type_list_append mt_append (pv 3) (pa_cons (pv 1) pa_nil))))))
 (pss_one (ps_ret (pv 3)))),
 es_seq (es_newL (ea_nil))
 (es_seq (es_for (ei_seq (ev_var)) (eg_name) (es_seq (es_asg (ev_fn (ea_cons (ev_fn (ea_cons (ev_var) (ea_cons (ev_op (ev_var) (ev_var) eoSub) (ea_nil))) en_max2) (ea_cons (ev_var) (ea_nil))) en_min2) eg_name)
 (es_app (ev_var))))
 (es_ret (ev_var)))⟩
  rintro ⟨t, s, e, ns⟩ Q hl k
  have hl : ns.length ≤ 40000 := hl
  have k : Q (.lst ((rodEs s e ns).map .int)) := k _ rfl
  simp only [XS.whole, ↓runA, ↓runC, ↓runD, ↓runE, ↓runF, ↓runG, ↓runH, ↓runI, ↓runJ, ↓runK, ↓runXL, ↓runXM, ↓runYM, ↓runZM, ↓d_seq0, ↓d_seq1, ↓d2_seq, ↓reduceIte, runB, ite_and, Decidable.not_not, forall_eq, List.map_cons, List.map_nil, List.cons_append, List.nil_append, List.replicate_succ, List.replicate_zero, List.append_nil, List.set_cons_zero, List.set_cons_succ, List.getElem?_cons_zero, List.getElem?_cons_succ, Option.some.injEq, List.cons.injEq, exists_and_left, exists_eq_left', exists_eq_left, exists_false, exists_const, forall_eq', forall_eq, ints_inj, Prod.exists, reduceCtorEq, List.length_cons, List.length_nil, implies_true, forall_const, decide_eq_true_eq, decide_eq_false_iff_not, List.getElem?_nil, List.set_nil, if_true, if_false, ite_true, ite_false, eq_self, Prod.mk.injEq, Co.lst.injEq, Co.dct.injEq, Fr.mk.injEq, exists_eq, exists_eq', exists_eq_right, exists_and_right, Nat.zero_le, Nat.zero_add, Nat.reduceAdd, Nat.reduceLT, Nat.reduceLeDiff, Nat.reduceEqDiff, List.mem_cons, List.not_mem_nil, List.nodup_cons, List.nodup_nil, List.forall_mem_cons, forall_eq_or_imp, List.getD_cons_zero, List.getD_cons_succ, List.mem_singleton, ne_eq, List.append_assoc, runXC, runXD, runXJ, x_ends_of_rod]
  refine seqW_it ?_
  refine ⟨fun i φ => ∃ a, φ = ⟨[some (.int s), some (.int (rodE s e (ns.take i))), some (seqW t ns), none, a], some (3, .lst ((rodEs s e (ns.take i)).map .int))⟩, ⟨_, rfl⟩, ?_, ?_⟩
  · rintro i w φ hw ⟨a, rfl⟩
    obtain ⟨x, hx, rfl⟩ := mapW_at hw
    have hi := (List.getElem?_eq_some_iff.mp hx).1
    obtain ⟨e1, e2⟩ := rodEs_take (s := s) (e := e) hx
    simp only [XS.whole, ↓runA, ↓runC, ↓runD, ↓runE, ↓runF, ↓runG, ↓runH, ↓runI, ↓runJ, ↓runK, ↓runXL, ↓runXM, ↓runYM, ↓runZM, ↓d_seq0, ↓d_seq1, ↓d2_seq, ↓reduceIte, runB, ite_and, Decidable.not_not, forall_eq, List.map_cons, List.map_nil, List.cons_append, List.nil_append, List.replicate_succ, List.replicate_zero, List.append_nil, List.set_cons_zero, List.set_cons_succ, List.getElem?_cons_zero, List.getElem?_cons_succ, Option.some.injEq, List.cons.injEq, exists_and_left, exists_eq_left', exists_eq_left, exists_false, exists_const, forall_eq', forall_eq, ints_inj, Prod.exists, reduceCtorEq, List.length_cons, List.length_nil, implies_true, forall_const, decide_eq_true_eq, decide_eq_false_iff_not, List.getElem?_nil, List.set_nil, if_true, if_false, ite_true, ite_false, eq_self, Prod.mk.injEq, Co.lst.injEq, Co.dct.injEq, Fr.mk.injEq, exists_eq, exists_eq', exists_eq_right, exists_and_right, Nat.zero_le, Nat.zero_add, Nat.reduceAdd, Nat.reduceLT, Nat.reduceLeDiff, Nat.reduceEqDiff, List.mem_cons, List.not_mem_nil, List.nodup_cons, List.nodup_nil, List.forall_mem_cons, forall_eq_or_imp, List.getD_cons_zero, List.getD_cons_succ, List.mem_singleton, ne_eq, List.append_assoc, runXC, runXD, runXJ]
    refine ⟨by rw [List.length_map, rodEs_len, List.length_take]; omega, ?_, ?_⟩
    · rw [e2]; rfl
    · rw [e1, e2, List.map_append]; rfl
  · rintro φ ⟨a, rfl⟩
    simp only [XS.whole, ↓runA, ↓runC, ↓runD, ↓runE, ↓runF, ↓runG, ↓runH, ↓runI, ↓runJ, ↓runK, ↓runXL, ↓runXM, ↓runYM, ↓runZM, ↓d_seq0, ↓d_seq1, ↓d2_seq, ↓reduceIte, runB, ite_and, Decidable.not_not, forall_eq, List.map_cons, List.map_nil, List.cons_append, List.nil_append, List.replicate_succ, List.replicate_zero, List.append_nil, List.set_cons_zero, List.set_cons_succ, List.getElem?_cons_zero, List.getElem?_cons_succ, Option.some.injEq, List.cons.injEq, exists_and_left, exists_eq_left', exists_eq_left, exists_false, exists_const, forall_eq', forall_eq, ints_inj, Prod.exists, reduceCtorEq, List.length_cons, List.length_nil, implies_true, forall_const, decide_eq_true_eq, decide_eq_false_iff_not, List.getElem?_nil, List.set_nil, if_true, if_false, ite_true, ite_false, eq_self, Prod.mk.injEq, Co.lst.injEq, Co.dct.injEq, Fr.mk.injEq, exists_eq, exists_eq', exists_eq_right, exists_and_right, Nat.zero_le, Nat.zero_add, Nat.reduceAdd, Nat.reduceLT, Nat.reduceLeDiff, Nat.reduceEqDiff, List.mem_cons, List.not_mem_nil, List.nodup_cons, List.nodup_nil, List.forall_mem_cons, forall_eq_or_imp, List.getD_cons_zero, List.getD_cons_succ, List.mem_singleton, ne_eq, List.append_assoc, runXC, runXD, runXJ]
    rw [List.length_map, List.take_length]
    exact k
theorem addE_eq : ∀ (c : Int) (es fs : List Int), es.length = fs.length → addE c es fs = (List.range es.length).map fun k => es.getD k 0 + c * fs.getD k 0 := by
  intro c es
  induction es with
  | nil => intro fs h; cases fs <;> first | rfl | (simp at h)
  | cons e es ih =>
    intro fs h
    cases fs with
    | nil => simp at h
    | cons f fs =>
      show (e + c * f) :: addE c es fs = (List.range (es.length + 1)).map _
      rw [ih fs (by simpa using h), List.range_succ_eq_map, List.map_cons, List.map_map]
      rfl
theorem armsEs_take {ps init : List Int} {al : List (Int × Int)} {i : Nat} {a : Int × Int} (h : al[i]? = some a) : armsEs ps init (al.take (i + 1)) = addE a.2 (armsEs ps init (al.take i)) (rodEs a.1 0 ps) := by
  unfold armsEs
  rw [List.take_add_one, h, List.foldl_append]; rfl
theorem getD_of {ns : List Int} {i : Nat} {x : Int} (h : ns[i]? = some x) : ns.getD i 0 = x := by rw [List.getD_eq_getElem?_getD, h]; rfl
theorem ok_ends_of_arms (tx : Tx mg) (d : Dn K mg "ends_of_arms" s_ends_of_arms P_ends_of_arms) (c_ends_of_rod : Fx P w K mg base 1 "ends_of_rod" (F_ends_of_rod.sp K c)) : Fx P w K mg base 2 "ends_of_arms" (F_ends_of_arms.sp K c) := by
  refine d.run (N := N_ends_of_arms) (s := x_ends_of_arms) sc_ends_of_arms rfl ?_ fun f cdv A outer s H E hr => ⟨_, pss_cons (ps_setLc (i := 2) (own := [("_", 5)]) (g := gName 5) (tt := tYes) rfl sc_ends_of_arms.nd rfl rfl (sw_true rfl rfl rfl (by decide +kernel)) (pi_seq (pv 1)) (blkOk_by (N := N_ends_of_arms) (sc := defScope s_ends_of_arms) (by decide +kernel)) (fun _ _ _ _ _ => pg_name (i := 5) sc_ends_of_arms.nd rfl (by first | exact Or.inl rfl | exact Or.inr rfl)) (fun _ _ _ _ _ => pts_nil) (fun _ _ _ _ _ => (by exact pe_int)))
 (pss_cons (ps_for PassesOwn.never rfl (pi_seq (pv 0)) (pg_tup rfl (pgs_cons (pg_name (i := 3) sc_ends_of_arms.nd rfl (Or.inl rfl)) (pgs_cons (pg_name (i := 4) sc_ends_of_arms.nd rfl (Or.inr rfl)) (pgs_nil)))) (pss_one (ps_setLc (i := 2) (own := [("end", 6), ("far", 7)]) (g := gTup K 2 (gCons (gName 6) (gCons (gName 7) (gNil)))) (tt := tYes) rfl sc_ends_of_arms.nd rfl rfl (sw_true rfl rfl rfl (by decide +kernel)) (pi_zip (by rfl) tx.b_zip (pa_cons (pv 2) (pa_cons (pe_f c_ends_of_rod hr (by first | exact Nat.le_refl _ | decide | omega) rfl (pa_cons (pv 3) (pa_cons (pe_int) (pa_cons (pv 1) (pa_nil))))) (pa_nil)))) (blkOk_by (N := N_ends_of_arms) (sc := defScope s_ends_of_arms) (by decide +kernel)) (fun _ _ _ _ _ => (by exact pg_tup rfl (pgs_cons (pg_name (i := 6) sc_ends_of_arms.nd rfl (by first | exact Or.inl rfl | exact Or.inr rfl)) (pgs_cons (pg_name (i := 7) sc_ends_of_arms.nd rfl (by first | exact Or.inl rfl | exact Or.inr rfl)) (pgs_nil))))) (fun _ _ _ _ _ => pts_nil) (fun _ _ _ _ _ => (by exact pe_op opAdd (pv 6) (pe_op opMul (pv 4) (pv 7)))))))
 (pss_one (ps_ret (pv 2)))),
 es_seq (es_asg (ev_comp (ei_seq (ev_var)) (eg_name) et_yes (ev_int) (by decide)) eg_name)
 (es_seq (es_for (ei_seq (ev_var)) (eg_tup (egs_cons (eg_name) (egs_cons (eg_name) (egs_nil))) (by rintro ws ρ Q ⟨_, _, rfl, _, _, rfl, rfl, -⟩; rfl)) (es_asg (ev_comp (ei_zip (ea_cons (ev_var) (ea_cons (ev_call (ea_cons (ev_var) (ea_cons (ev_int) (ea_cons (ev_var) (ea_nil))))) (ea_nil)))) (eg_tup (egs_cons (eg_name) (egs_cons (eg_name) (egs_nil))) (by rintro ws ρ Q ⟨_, _, rfl, _, _, rfl, rfl, -⟩; rfl)) et_yes (ev_op (ev_var) (ev_op (ev_var) (ev_var) eoMul) eoAdd) (by decide)) eg_name))
 (es_ret (ev_var)))⟩
  rintro ⟨t, al, ns⟩ Q ⟨hA, hl⟩ k
  have hl : ns.length ≤ 40000 := hl
  have k : Q (.lst ((armsEs ns (zEs ns) al).map .int)) := k _ rfl
  have hA' : ∀ a ∈ al, a.1 ≤ 999 ∧ -1000000 ≤ a.2 ∧ a.2 ≤ 1000000 := hA.2
  simp only [XS.whole, ↓runA, ↓runC, ↓runD, ↓runE, ↓runF, ↓runG, ↓runH, ↓runI, ↓runJ, ↓runK, ↓runXL, ↓runXM, ↓runYM, ↓runZM, ↓d_seq0, ↓d_seq1, ↓d2_seq, ↓reduceIte, runB, ite_and, Decidable.not_not, forall_eq, List.map_cons, List.map_nil, List.cons_append, List.nil_append, List.replicate_succ, List.replicate_zero, List.append_nil, List.set_cons_zero, List.set_cons_succ, List.getElem?_cons_zero, List.getElem?_cons_succ, Option.some.injEq, List.cons.injEq, exists_and_left, exists_eq_left', exists_eq_left, exists_false, exists_const, forall_eq', forall_eq, ints_inj, Prod.exists, reduceCtorEq, List.length_cons, List.length_nil, implies_true, forall_const, decide_eq_true_eq, decide_eq_false_iff_not, List.getElem?_nil, List.set_nil, if_true, if_false, ite_true, ite_false, eq_self, Prod.mk.injEq, Co.lst.injEq, Co.dct.injEq, Fr.mk.injEq, exists_eq, exists_eq', exists_eq_right, exists_and_right, Nat.zero_le, Nat.zero_add, Nat.reduceAdd, Nat.reduceLT, Nat.reduceLeDiff, Nat.reduceEqDiff, List.mem_cons, List.not_mem_nil, List.nodup_cons, List.nodup_nil, List.forall_mem_cons, forall_eq_or_imp, List.getD_cons_zero, List.getD_cons_succ, List.mem_singleton, ne_eq, List.append_assoc, runXC, runXD, runXJ, x_ends_of_arms]
  refine seqW_it ?_
  refine ⟨by rw [List.length_map]; omega, ?_⟩
  refine comp_ints (fun _ => 0) (fun i w hw => ?_) ?_
  · simp only [XS.whole, ↓runA, ↓runC, ↓runD, ↓runE, ↓runF, ↓runG, ↓runH, ↓runI, ↓runJ, ↓runK, ↓runXL, ↓runXM, ↓runYM, ↓runZM, ↓d_seq0, ↓d_seq1, ↓d2_seq, ↓reduceIte, runB, ite_and, Decidable.not_not, forall_eq, List.map_cons, List.map_nil, List.cons_append, List.nil_append, List.replicate_succ, List.replicate_zero, List.append_nil, List.set_cons_zero, List.set_cons_succ, List.getElem?_cons_zero, List.getElem?_cons_succ, Option.some.injEq, List.cons.injEq, exists_and_left, exists_eq_left', exists_eq_left, exists_false, exists_const, forall_eq', forall_eq, ints_inj, Prod.exists, reduceCtorEq, List.length_cons, List.length_nil, implies_true, forall_const, decide_eq_true_eq, decide_eq_false_iff_not, List.getElem?_nil, List.set_nil, if_true, if_false, ite_true, ite_false, eq_self, Prod.mk.injEq, Co.lst.injEq, Co.dct.injEq, Fr.mk.injEq, exists_eq, exists_eq', exists_eq_right, exists_and_right, Nat.zero_le, Nat.zero_add, Nat.reduceAdd, Nat.reduceLT, Nat.reduceLeDiff, Nat.reduceEqDiff, List.mem_cons, List.not_mem_nil, List.nodup_cons, List.nodup_nil, List.forall_mem_cons, forall_eq_or_imp, List.getD_cons_zero, List.getD_cons_succ, List.mem_singleton, ne_eq, List.append_assoc, runXC, runXD, runXJ]
  · have e0 : (List.range (ns.map W.int).length).map (fun _ => (0 : Int)) = zEs ns := by
      rw [List.length_map]
      apply List.ext_getElem?
      intro i
      rw [List.getElem?_map, List.getElem?_map]
      by_cases h : i < ns.length
      · rw [List.getElem?_range h, List.getElem?_eq_getElem h]; rfl
      · rw [List.getElem?_eq_none (by rw [List.length_range]; omega), List.getElem?_eq_none (by omega)]; rfl
    rw [e0]
    try simp only [XS.whole, ↓runA, ↓runC, ↓runD, ↓runE, ↓runF, ↓runG, ↓runH, ↓runI, ↓runJ, ↓runK, ↓runXL, ↓runXM, ↓runYM, ↓runZM, ↓d_seq0, ↓d_seq1, ↓d2_seq, ↓reduceIte, runB, ite_and, Decidable.not_not, forall_eq, List.map_cons, List.map_nil, List.cons_append, List.nil_append, List.replicate_succ, List.replicate_zero, List.append_nil, List.set_cons_zero, List.set_cons_succ, List.getElem?_cons_zero, List.getElem?_cons_succ, Option.some.injEq, List.cons.injEq, exists_and_left, exists_eq_left', exists_eq_left, exists_false, exists_const, forall_eq', forall_eq, ints_inj, Prod.exists, reduceCtorEq, List.length_cons, List.length_nil, implies_true, forall_const, decide_eq_true_eq, decide_eq_false_iff_not, List.getElem?_nil, List.set_nil, if_true, if_false, ite_true, ite_false, eq_self, Prod.mk.injEq, Co.lst.injEq, Co.dct.injEq, Fr.mk.injEq, exists_eq, exists_eq', exists_eq_right, exists_and_right, Nat.zero_le, Nat.zero_add, Nat.reduceAdd, Nat.reduceLT, Nat.reduceLeDiff, Nat.reduceEqDiff, List.mem_cons, List.not_mem_nil, List.nodup_cons, List.nodup_nil, List.forall_mem_cons, forall_eq_or_imp, List.getD_cons_zero, List.getD_cons_succ, List.mem_singleton, ne_eq, List.append_assoc, runXC, runXD, runXJ]
    refine ⟨fun i φ => ∃ a b, φ = ⟨[some (.arm al), some (seqW t ns), some (.lst ((armsEs ns (zEs ns) (al.take i)).map .int)), a, b, none, none, none], none⟩, ⟨none, none, rfl⟩, ?_, ?_⟩
    · rintro i w φ hw ⟨x, y, rfl⟩
      obtain ⟨a, ha, rfl⟩ := arW_at hw
      have hb := hA' a (List.mem_of_getElem? ha)
      have l1 : (armsEs ns (zEs ns) (al.take i)).length = ns.length := armsEs_len (by rw [List.length_map])
      have l2 : (rodEs a.1 0 ns).length = ns.length := rodEs_len _ _ _
      simp only [XS.whole, ↓runA, ↓runC, ↓runD, ↓runE, ↓runF, ↓runG, ↓runH, ↓runI, ↓runJ, ↓runK, ↓runXL, ↓runXM, ↓runYM, ↓runZM, ↓d_seq0, ↓d_seq1, ↓d2_seq, ↓reduceIte, runB, ite_and, Decidable.not_not, forall_eq, List.map_cons, List.map_nil, List.cons_append, List.nil_append, List.replicate_succ, List.replicate_zero, List.append_nil, List.set_cons_zero, List.set_cons_succ, List.getElem?_cons_zero, List.getElem?_cons_succ, Option.some.injEq, List.cons.injEq, exists_and_left, exists_eq_left', exists_eq_left, exists_false, exists_const, forall_eq', forall_eq, ints_inj, Prod.exists, reduceCtorEq, List.length_cons, List.length_nil, implies_true, forall_const, decide_eq_true_eq, decide_eq_false_iff_not, List.getElem?_nil, List.set_nil, if_true, if_false, ite_true, ite_false, eq_self, Prod.mk.injEq, Co.lst.injEq, Co.dct.injEq, Fr.mk.injEq, exists_eq, exists_eq', exists_eq_right, exists_and_right, Nat.zero_le, Nat.zero_add, Nat.reduceAdd, Nat.reduceLT, Nat.reduceLeDiff, Nat.reduceEqDiff, List.mem_cons, List.not_mem_nil, List.nodup_cons, List.nodup_nil, List.forall_mem_cons, forall_eq_or_imp, List.getD_cons_zero, List.getD_cons_succ, List.mem_singleton, ne_eq, List.append_assoc, runXC, runXD, runXJ, F_ends_of_rod]
      refine ⟨t, ns, rfl, hl, by rw [zipW_len, List.length_map, List.length_map]; omega, ?_⟩
      refine comp_ints (fun k => (armsEs ns (zEs ns) (al.take i)).getD k 0 + a.2 * (rodEs a.1 0 ns).getD k 0) (fun k w hw => ?_) ?_
      · obtain ⟨u, v, hu, hv, rfl⟩ := zipW_at hw
        obtain ⟨u, hu', rfl⟩ := mapW_at hu
        obtain ⟨v, hv', rfl⟩ := mapW_at hv
        simp only [XS.whole, ↓runA, ↓runC, ↓runD, ↓runE, ↓runF, ↓runG, ↓runH, ↓runI, ↓runJ, ↓runK, ↓runXL, ↓runXM, ↓runYM, ↓runZM, ↓d_seq0, ↓d_seq1, ↓d2_seq, ↓reduceIte, runB, ite_and, Decidable.not_not, forall_eq, List.map_cons, List.map_nil, List.cons_append, List.nil_append, List.replicate_succ, List.replicate_zero, List.append_nil, List.set_cons_zero, List.set_cons_succ, List.getElem?_cons_zero, List.getElem?_cons_succ, Option.some.injEq, List.cons.injEq, exists_and_left, exists_eq_left', exists_eq_left, exists_false, exists_const, forall_eq', forall_eq, ints_inj, Prod.exists, reduceCtorEq, List.length_cons, List.length_nil, implies_true, forall_const, decide_eq_true_eq, decide_eq_false_iff_not, List.getElem?_nil, List.set_nil, if_true, if_false, ite_true, ite_false, eq_self, Prod.mk.injEq, Co.lst.injEq, Co.dct.injEq, Fr.mk.injEq, exists_eq, exists_eq', exists_eq_right, exists_and_right, Nat.zero_le, Nat.zero_add, Nat.reduceAdd, Nat.reduceLT, Nat.reduceLeDiff, Nat.reduceEqDiff, List.mem_cons, List.not_mem_nil, List.nodup_cons, List.nodup_nil, List.forall_mem_cons, forall_eq_or_imp, List.getD_cons_zero, List.getD_cons_succ, List.mem_singleton, ne_eq, List.append_assoc, runXC, runXD, runXJ]
        exact ⟨.inl ⟨by omega, by omega⟩, by rw [getD_of hu', getD_of hv']⟩
      · simp only [XS.whole, ↓runA, ↓runC, ↓runD, ↓runE, ↓runF, ↓runG, ↓runH, ↓runI, ↓runJ, ↓runK, ↓runXL, ↓runXM, ↓runYM, ↓runZM, ↓d_seq0, ↓d_seq1, ↓d2_seq, ↓reduceIte, runB, ite_and, Decidable.not_not, forall_eq, List.map_cons, List.map_nil, List.cons_append, List.nil_append, List.replicate_succ, List.replicate_zero, List.append_nil, List.set_cons_zero, List.set_cons_succ, List.getElem?_cons_zero, List.getElem?_cons_succ, Option.some.injEq, List.cons.injEq, exists_and_left, exists_eq_left', exists_eq_left, exists_false, exists_const, forall_eq', forall_eq, ints_inj, Prod.exists, reduceCtorEq, List.length_cons, List.length_nil, implies_true, forall_const, decide_eq_true_eq, decide_eq_false_iff_not, List.getElem?_nil, List.set_nil, if_true, if_false, ite_true, ite_false, eq_self, Prod.mk.injEq, Co.lst.injEq, Co.dct.injEq, Fr.mk.injEq, exists_eq, exists_eq', exists_eq_right, exists_and_right, Nat.zero_le, Nat.zero_add, Nat.reduceAdd, Nat.reduceLT, Nat.reduceLeDiff, Nat.reduceEqDiff, List.mem_cons, List.not_mem_nil, List.nodup_cons, List.nodup_nil, List.forall_mem_cons, forall_eq_or_imp, List.getD_cons_zero, List.getD_cons_succ, List.mem_singleton, ne_eq, List.append_assoc, runXC, runXD, runXJ]
        rw [armsEs_take ha, addE_eq _ _ _ (by rw [l1, l2]), zipW_len, List.length_map, List.length_map, l1, l2, Nat.min_self]
    · rintro φ ⟨x, y, rfl⟩
      simp only [XS.whole, ↓runA, ↓runC, ↓runD, ↓runE, ↓runF, ↓runG, ↓runH, ↓runI, ↓runJ, ↓runK, ↓runXL, ↓runXM, ↓runYM, ↓runZM, ↓d_seq0, ↓d_seq1, ↓d2_seq, ↓reduceIte, runB, ite_and, Decidable.not_not, forall_eq, List.map_cons, List.map_nil, List.cons_append, List.nil_append, List.replicate_succ, List.replicate_zero, List.append_nil, List.set_cons_zero, List.set_cons_succ, List.getElem?_cons_zero, List.getElem?_cons_succ, Option.some.injEq, List.cons.injEq, exists_and_left, exists_eq_left', exists_eq_left, exists_false, exists_const, forall_eq', forall_eq, ints_inj, Prod.exists, reduceCtorEq, List.length_cons, List.length_nil, implies_true, forall_const, decide_eq_true_eq, decide_eq_false_iff_not, List.getElem?_nil, List.set_nil, if_true, if_false, ite_true, ite_false, eq_self, Prod.mk.injEq, Co.lst.injEq, Co.dct.injEq, Fr.mk.injEq, exists_eq, exists_eq', exists_eq_right, exists_and_right, Nat.zero_le, Nat.zero_add, Nat.reduceAdd, Nat.reduceLT, Nat.reduceLeDiff, Nat.reduceEqDiff, List.mem_cons, List.not_mem_nil, List.nodup_cons, List.nodup_nil, List.forall_mem_cons, forall_eq_or_imp, List.getD_cons_zero, List.getD_cons_succ, List.mem_singleton, ne_eq, List.append_assoc, runXC, runXD, runXJ]
      rw [show (arW al).length = al.length from List.length_map .., List.take_length]
      exact k
end
/-! ### rigs: limits, sums -/
def x__check_arms : XS := .seq (.ifs (.val (.op oGt (.fn .len (.cons (.var 0) (.nil))) (.lit (.int 60)))) (.never) (.next))
 (.forr (.seq (.var 0)) (.tup (.cons (.name 1) (.cons (.name 2) (.nil)))) (.ifs (.or (.val (.op oGt (.var 1) (.lit (.int 999)))) (.not (.val (.chain (fun i j => decide (i ≤ j)) (fun i j => decide (i ≤ j)) (.un .neg (.lit (.int 1000000))) (.var 2) (.lit (.int 1000000)))))) (.never) (.next)))
abbrev F__check_arms : XF := ⟨List (Int × Int), 1, fun a => [.arm a], fun a => okA a, fun a w => w = .non, by intros; rfl⟩
section
variable {P : Program} {w : World} {K : PySem.W.Frag} {mg : Str → Option Value} {base : Heap} {c : Z.Cl} {f p : Addr}
theorem ok_check_arms (tx : Tx mg) (d : Dn K mg "_check_arms" s__check_arms P__check_arms) : Fx P w K mg base 1 "_check_arms" (F__check_arms.sp K c) := by
  refine d.run (N := N__check_arms) (s := x__check_arms) sc__check_arms rfl ?_ fun f cdv A outer s H E hr => ⟨_, pss_cons (ps_if (pt_cmpR op_gt (pe_callB call_len_seq (by rfl) tx.b_len boot_len (pa_cons (pv 0) (pa_nil))) (pe_gK rfl tx.g_MOST_ARMS) (nomark _)) (pss_one (ps_never)) (pss_nil))
 (pss_one (ps_for PassesOwn.never rfl (pi_seq (pv 0)) (pg_tup rfl (pgs_cons (pg_name (i := 1) sc__check_arms.nd rfl (Or.inl rfl)) (pgs_cons (pg_name (i := 2) sc__check_arms.nd rfl (Or.inl rfl)) (pgs_nil)))) (pss_one (ps_if ((PW.pt (pw_or (pt_cmpR op_gt (pv 1) (pe_gK rfl tx.g_GREATEST_SLACK) (nomark _)) (pw_or1 (pt_not (pt_chain op_le op_le (pe_un un_neg (pe_gK rfl tx.g_GREATEST_ARM)) (pv 2) (pe_gK rfl tx.g_GREATEST_ARM))))))) (pss_one (ps_never)) (pss_nil))))),
 es_seq (es_if (et_test (ev_op (ev_fn (ea_cons (ev_var) (ea_nil)) en_len) (ev_int) eo_B)) (es_never) (es_next))
 (es_for (ei_seq (ev_var)) (eg_tup (egs_cons (eg_name) (egs_cons (eg_name) (egs_nil))) (by rintro ws ρ Q ⟨_, _, rfl, _, _, rfl, rfl, -⟩; rfl)) (es_if (et_or (et_test (ev_op (ev_var) (ev_int) eo_B)) (et_not (et_test (ev_chain (ev_un (ev_int) eu_neg) (ev_var) (ev_int))))) (es_never) (es_next)))⟩
  rintro al Q ⟨hl, ha⟩ k
  have k : Q .non := k _ rfl
  have hl : al.length ≤ 60 := hl
  simp only [XS.whole, ↓runA, ↓runC, ↓runD, ↓runE, ↓runF, ↓runG, ↓runH, ↓runI, ↓runJ, ↓runK, ↓runXL, ↓runXM, ↓runYM, ↓runZM, ↓d_seq0, ↓d_seq1, ↓d2_seq, ↓reduceIte, runB, ite_and, Decidable.not_not, forall_eq, List.map_cons, List.map_nil, List.cons_append, List.nil_append, List.replicate_succ, List.replicate_zero, List.append_nil, List.set_cons_zero, List.set_cons_succ, List.getElem?_cons_zero, List.getElem?_cons_succ, Option.some.injEq, List.cons.injEq, exists_and_left, exists_eq_left', exists_eq_left, exists_false, exists_const, forall_eq', forall_eq, ints_inj, Prod.exists, reduceCtorEq, List.length_cons, List.length_nil, implies_true, forall_const, decide_eq_true_eq, decide_eq_false_iff_not, List.getElem?_nil, List.set_nil, if_true, if_false, ite_true, ite_false, eq_self, Prod.mk.injEq, Co.lst.injEq, Co.dct.injEq, Fr.mk.injEq, exists_eq, exists_eq', exists_eq_right, exists_and_right, Nat.zero_le, Nat.zero_add, Nat.reduceAdd, Nat.reduceLT, Nat.reduceLeDiff, Nat.reduceEqDiff, List.mem_cons, List.not_mem_nil, List.nodup_cons, List.nodup_nil, List.forall_mem_cons, forall_eq_or_imp, List.getD_cons_zero, List.getD_cons_succ, List.mem_singleton, ne_eq, List.append_assoc, runXC, runXD, runXJ, x__check_arms]
  refine ⟨fun h => by omega, fun _ => ?_⟩
  refine ⟨fun i φ => ∃ a b, φ = ⟨[some (.arm al), a, b], none⟩, ⟨none, none, rfl⟩, ?_, fun φ _ => k⟩
  rintro i w φ hw ⟨x, y, rfl⟩
  obtain ⟨a, h1, rfl⟩ := arW_at hw
  have hb := ha a (List.mem_of_getElem? h1)
  simp only [XS.whole, ↓runA, ↓runC, ↓runD, ↓runE, ↓runF, ↓runG, ↓runH, ↓runI, ↓runJ, ↓runK, ↓runXL, ↓runXM, ↓runYM, ↓runZM, ↓d_seq0, ↓d_seq1, ↓d2_seq, ↓reduceIte, runB, ite_and, Decidable.not_not, forall_eq, List.map_cons, List.map_nil, List.cons_append, List.nil_append, List.replicate_succ, List.replicate_zero, List.append_nil, List.set_cons_zero, List.set_cons_succ, List.getElem?_cons_zero, List.getElem?_cons_succ, Option.some.injEq, List.cons.injEq, exists_and_left, exists_eq_left', exists_eq_left, exists_false, exists_const, forall_eq', forall_eq, ints_inj, Prod.exists, reduceCtorEq, List.length_cons, List.length_nil, implies_true, forall_const, decide_eq_true_eq, decide_eq_false_iff_not, List.getElem?_nil, List.set_nil, if_true, if_false, ite_true, ite_false, eq_self, Prod.mk.injEq, Co.lst.injEq, Co.dct.injEq, Fr.mk.injEq, exists_eq, exists_eq', exists_eq_right, exists_and_right, Nat.zero_le, Nat.zero_add, Nat.reduceAdd, Nat.reduceLT, Nat.reduceLeDiff, Nat.reduceEqDiff, List.mem_cons, List.not_mem_nil, List.nodup_cons, List.nodup_nil, List.forall_mem_cons, forall_eq_or_imp, List.getD_cons_zero, List.getD_cons_succ, List.mem_singleton, ne_eq, List.append_assoc, runXC, runXD, runXJ]
  exact ⟨fun h => by omega, fun _ => ⟨fun _ h => h hb.2.2, fun h => h hb.2.1⟩⟩
end
/-! ### the class of rigs -/
def x_rod : XS := .seq (.ifs (.not (.val (.call F_is_number (.cons (.var 0) (.cons (.lit (.int 0)) (.cons (.lit (.int 99)) (.nil))))))) (.never) (.next))
 (.ret (.mkRig armsOk (.tupF (.cons (.tup (.cons (.var 0) (.cons (.lit (.int 1)) .nil))) .nil))))
abbrev F_rod : XF := ⟨Int, 1, fun a => [.int a], fun a => 0 ≤ a ∧ a ≤ 99, fun a w => w = .rig [(a, 1)], by intros; rfl⟩
def x_Rig__call_ : XS := .seq (.drop (.call F_check_row (.cons (.var 1) (.nil))))
 (.ret (.call F_ends_of_arms (.cons (.fld true (.var 0)) (.cons (.var 1) (.nil)))))
abbrev F_rcall : XF := ⟨List (Int × Int) × List Int, 2, fun a => [.rig a.1, .lst (a.2.map .int)], fun a => okA a.1 ∧ a.2.length ≤ 1000 ∧ ∀ x ∈ a.2, isPl x = true, fun a w => w = .lst ((armsEs a.2 (zEs a.2) a.1).map .int), by intros; rfl⟩
section
variable {P : Program} {w : World} {K : PySem.W.Frag} {mg : Str → Option Value} {base : Heap} {c : Z.Cl} {f p : Addr}
theorem ok_rig_init (ckR : CK K c.R "_arms") (d : Dm K "__init__" "Rig.__init__" s_Rig__init_ P_Rig__init_ f) (c__check_arms : Fx P w K mg base 1 "_check_arms" (F__check_arms.sp K c)) : ∃ fd, FnOk P w K mg base CX0 2 f fd P_Rig__init_ (spIni K c.R "_arms" (preRig K)) ∧ Binds K fd P_Rig__init_ [] := by
  refine d.ok (N := N_Rig__init_) sc_Rig__init_ (fun vs H Q E h => ?_) (fun cdv A outer s H vs Q E hr h => ⟨_, pss_cons (ps_expr (pe_f c__check_arms hr (by first | exact Nat.le_refl _ | decide | omega) rfl (pa_cons (pv 1) (pa_nil))))
 (pss_one (ps_fld (pv 0) (pv 1) rfl)), ?_⟩)
  · obtain ⟨x, dx, d, v, h, rfl, _⟩ := h
    rfl
  · obtain ⟨x, dx, d, v, h, rfl, ho, e, nh, dq, ⟨ps, rfl, ok⟩, k⟩ := h
    refine ⟨_, rfl, ps, h, e, .cons dq .nil, ok, fun v h1 H1 s1 _ => ?_⟩
    exact ⟨_, rfl, _, rfl, x, c.R, dx, [], rfl, s1.e _ _ ho, ckR.cl, ckR.na, by decide, k h1 H1 s1⟩
theorem ok_rod (tx : Tx mg) (d : Dn K mg "rod" s_rod P_rod) (c_is_number : Fx P w K mg base 2 "is_number" (F_is_number.sp K c)) (m_Rig : Ix P w K mg base 2 "Rig" c.R (spIni K c.R "_arms" (preRig K))) : Fx P w K mg base 4 "rod" (F_rod.sp K c) := by
  refine d.run (N := N_rod) (s := x_rod) sc_rod rfl ?_ fun f cdv A outer s H E hr => ⟨_, pss_cons (ps_if (pt_not (pt_val (pe_f c_is_number hr (by first | exact Nat.le_refl _ | decide | omega) rfl (pa_cons (pv 0) (pa_cons (pe_int) (pa_cons (pe_gK rfl tx.g_GREATEST_ROD) (pa_nil))))))) (pss_one (ps_never)) (pss_nil))
 (pss_one (ps_ret (pe_mkR m_Rig hr (by first | exact Nat.le_refl _ | decide | omega) rfl (pa_cons (pe_tupF (pa_cons (pe_tup (pa_cons (pv 0) (pa_cons pe_int pa_nil))) pa_nil)) pa_nil)))),
 es_seq (es_if (et_not (et_b (ev_call (ea_cons (ev_var) (ea_cons (ev_int) (ea_cons (ev_int) (ea_nil))))))) (es_never) (es_next))
 (es_ret (ev_mkRig preR_of (ev_tupF (ea_cons (ev_tup (ea_cons ev_var (ea_cons ev_int ea_nil))) ea_nil))))⟩
  rintro a Q ⟨a0, a1⟩ k
  have k : Q (.rig [(a, 1)]) := k _ rfl
  simp only [XS.whole, ↓runA, ↓runC, ↓runD, ↓runE, ↓runF, ↓runG, ↓runH, ↓runI, ↓runJ, ↓runK, ↓runXL, ↓runXM, ↓runYM, ↓runZM, ↓d_seq0, ↓d_seq1, ↓d2_seq, ↓reduceIte, runB, ite_and, Decidable.not_not, forall_eq, List.map_cons, List.map_nil, List.cons_append, List.nil_append, List.replicate_succ, List.replicate_zero, List.append_nil, List.set_cons_zero, List.set_cons_succ, List.getElem?_cons_zero, List.getElem?_cons_succ, Option.some.injEq, List.cons.injEq, exists_and_left, exists_eq_left', exists_eq_left, exists_false, exists_const, forall_eq', forall_eq, ints_inj, Prod.exists, reduceCtorEq, List.length_cons, List.length_nil, implies_true, forall_const, decide_eq_true_eq, decide_eq_false_iff_not, List.getElem?_nil, List.set_nil, if_true, if_false, ite_true, ite_false, eq_self, Prod.mk.injEq, Co.lst.injEq, Co.dct.injEq, Fr.mk.injEq, exists_eq, exists_eq', exists_eq_right, exists_and_right, Nat.zero_le, Nat.zero_add, Nat.reduceAdd, Nat.reduceLT, Nat.reduceLeDiff, Nat.reduceEqDiff, List.mem_cons, List.not_mem_nil, List.nodup_cons, List.nodup_nil, List.forall_mem_cons, forall_eq_or_imp, List.getD_cons_zero, List.getD_cons_succ, List.mem_singleton, ne_eq, List.append_assoc, runXC, runXD, runXJ, x_rod]
  have hn : isNum (.int a) 0 99 = true := by simp [isNum]; omega
  refine ⟨rfl, fun h => (by rw [hn] at h; cases h), fun _ => ⟨[(a, 1)], rfl, by simp, ⟨by simp, fun x hx => ?_⟩, k⟩⟩
  rw [List.mem_singleton.mp hx]
  exact ⟨Int.le_trans a1 (by decide), (by decide : (-1000000 : Int) ≤ 1), (by decide : (1 : Int) ≤ 1000000)⟩
theorem ok_rig_call (tx : Tx mg) (ckR : CK K c.R "_arms") (d : Dm K "__call__" "Rig.__call__" s_Rig__call_ P_Rig__call_ f) (c_check_row : Fx P w K mg base 4 "check_row" (F_check_row.sp K c)) (c_ends_of_arms : Fx P w K mg base 2 "ends_of_arms" (F_ends_of_arms.sp K c)) : ∃ fd, FnOk P w K mg base CX0 5 f fd P_Rig__call_ (F_rcall.sp K c) ∧ Binds K fd P_Rig__call_ [] := by
  refine d.run (N := N_Rig__call_) (s := x_Rig__call_) sc_Rig__call_ rfl ?_ fun cdv A outer s H E hr => ⟨_, pss_cons (ps_expr (pe_f c_check_row hr (by first | exact Nat.le_refl _ | decide | omega) rfl (pa_cons (pv 1) (pa_nil))))
 (pss_one (ps_ret (pe_f c_ends_of_arms hr (by first | exact Nat.le_refl _ | decide | omega) rfl (pa_cons (pe_fld (pv 0) rfl) (pa_cons (pv 1) (pa_nil)))))),
 es_seq (es_drop (ev_call (ea_cons (ev_var) (ea_nil))))
 (es_ret (ev_call (ea_cons (ev_fld ckR.cl ckR.na (ev_var)) (ea_cons (ev_var) (ea_nil)))))⟩
  rintro ⟨al, ns⟩ Q ⟨ha, hl, hp⟩ k
  have k : Q (.lst ((armsEs ns (zEs ns) al).map .int)) := k _ rfl
  simp only at ha hl hp
  simp only [XS.whole, ↓runA, ↓runC, ↓runD, ↓runE, ↓runF, ↓runG, ↓runH, ↓runI, ↓runJ, ↓runK, ↓runXL, ↓runXM, ↓runYM, ↓runZM, ↓d_seq0, ↓d_seq1, ↓d2_seq, ↓reduceIte, runB, ite_and, Decidable.not_not, forall_eq, List.map_cons, List.map_nil, List.cons_append, List.nil_append, List.replicate_succ, List.replicate_zero, List.append_nil, List.set_cons_zero, List.set_cons_succ, List.getElem?_cons_zero, List.getElem?_cons_succ, Option.some.injEq, List.cons.injEq, exists_and_left, exists_eq_left', exists_eq_left, exists_false, exists_const, forall_eq', forall_eq, ints_inj, Prod.exists, reduceCtorEq, List.length_cons, List.length_nil, implies_true, forall_const, decide_eq_true_eq, decide_eq_false_iff_not, List.getElem?_nil, List.set_nil, if_true, if_false, ite_true, ite_false, eq_self, Prod.mk.injEq, Co.lst.injEq, Co.dct.injEq, Fr.mk.injEq, exists_eq, exists_eq', exists_eq_right, exists_and_right, Nat.zero_le, Nat.zero_add, Nat.reduceAdd, Nat.reduceLT, Nat.reduceLeDiff, Nat.reduceEqDiff, List.mem_cons, List.not_mem_nil, List.nodup_cons, List.nodup_nil, List.forall_mem_cons, forall_eq_or_imp, List.getD_cons_zero, List.getD_cons_succ, List.mem_singleton, ne_eq, List.append_assoc, runXC, runXD, runXJ, x_Rig__call_]
  exact ⟨hl, hp, true, ns, rfl, ha, by omega, k⟩
end
/-! ### memories -/
def x__is_between : XS := .ret (.chain (fun i j => decide (i < j)) (fun i j => decide (i < j)) (.fn (.ii fun i j => .int (min i j)) (.cons (.var 1) (.cons (.var 2) (.nil)))) (.var 0) (.fn (.ii fun i j => .int (max i j)) (.cons (.var 1) (.cons (.var 2) (.nil)))))
abbrev F__is_between : XF := ⟨Int × Int × Int, 3, fun a => [.int a.1, .int a.2.1, .int a.2.2], fun a => True, fun a w => w = .bl (btw a.1 a.2.1 a.2.2), by intros; rfl⟩
def x__fits : XS := .seq (.asg (.name 2) (.op oIx (.var 0) (.var 1)))
 (.seq (.ifs (.not (.val (.call F_is_place (.cons (.var 2) (.nil))))) (.ret (.lit (.bl false))) (.next))
 (.seq (.ifs (.val (.op oEq (.var 1) (.lit (.int 0)))) (.ret (.op oLe (.var 2) (.lit (.int 0)))) (.next))
 (.seq (.ifs (.val (.op oEq (.var 1) (.lit (.int 1)))) (.ret (.op oGt (.var 2) (.op oIx (.var 0) (.lit (.int 0))))) (.next))
 (.ret (.call F__is_between (.cons (.var 2) (.cons (.op oIx (.var 0) (.op oSub (.var 1) (.lit (.int 2)))) (.cons (.op oIx (.var 0) (.op oSub (.var 1) (.lit (.int 1)))) (.nil)))))))))
abbrev F__fits : XF := ⟨List Int × Nat, 2, fun a => [.tup (a.1.map .int), .int (a.2 : Int)], fun a => a.2 < a.1.length, fun a w => w = .bl (fitB a.1 a.2), by intros; rfl⟩
def x__check_places : XS := .seq (.ifs (.or (.not (.val (.fn xIsi (.cons (.var 0) (.cons (.lit (.ty "tuple")) .nil))))) (.val (.op oEq (.fn .len (.cons (.var 0) (.nil))) (.lit (.int 0))))) (.never) (.next))
 (.forr (.rng1 (.cons (.fn .len (.cons (.var 0) (.nil))) (.nil))) (.name 1) (.ifs (.not (.val (.call F__fits (.cons (.var 0) (.cons (.var 1) (.nil)))))) (.never) (.next)))
abbrev F__check_places : XF := ⟨List Int, 1, fun a => [.tup (a.map .int)], fun a => okMem a, fun a w => w = .non, by intros; rfl⟩
def keptN (ps : List Int) (p : Int) : Nat := if p ≤ ps.getD 0 0 then 0 else runL p ps + 1
theorem aft_kept (ps : List Int) (p : Int) : aft ps p = ps.take (keptN ps p) ++ [p] := by
  unfold aft keptN
  by_cases h : p ≤ ps.getD 0 0
  · rw [if_pos h, if_pos h]; rfl
  · rw [if_neg h, if_neg h]
def x_count_kept : XS := .seq (.ifs (.val (.op oLe (.var 1) (.op oIx (.var 0) (.lit (.int 0))))) (.ret (.lit (.int 0))) (.next))
 (.seq (.asg (.name 2) (.lit (.int 1)))
 (.seq (.whil (.and (.val (.op oLt (.var 2) (.fn .len (.cons (.var 0) (.nil))))) (.val (.call F__is_between (.cons (.var 1) (.cons (.op oIx (.var 0) (.op oSub (.var 2) (.lit (.int 1)))) (.cons (.op oIx (.var 0) (.var 2)) (.nil))))))) (.aug 2 (fun i j => i + j) (.lit (.int 1))))
 (.ret (.var 2))))
abbrev F_count_kept : XF := ⟨Bool × List Int × Int, 2, fun a => [seqW a.1 a.2.1, .int a.2.2], fun a => a.2.1 ≠ [] ∧ a.2.1.length ≤ 5000, fun a w => w = .int (keptN a.2.1 a.2.2 : Int), by intros; rfl⟩
def x_after_move : XS := .ret (.op oAdd (.sl (.var 0) .no (.at (.call F_count_kept (.cons (.var 0) (.cons (.var 1) (.nil)))))) (.tup (.cons (.var 1) (.nil))))
abbrev F_after_move : XF := ⟨List Int × Int, 2, fun a => [.tup (a.1.map .int), .int a.2], fun a => a.1 ≠ [] ∧ a.1.length ≤ 5000, fun a w => w = .tup ((aft a.1 a.2).map .int), by intros; rfl⟩
def x_Memory_places : XS := .ret (.fld false (.var 0))
abbrev F_places : XF := ⟨List Int, 1, fun a => [.mem a], fun _ => True, fun a w => w = .tup (a.map .int), by intros; rfl⟩
def x_memory_of : XS := .seq (.drop (.call F_check_row (.cons (.var 0) (.nil))))
 (.seq (.asg (.name 1) (.tup (.cons (.lit (.int 0)) (.nil))))
 (.seq (.forr (.seq (.var 0)) (.name 2) (.asg (.name 1) (.call F_after_move (.cons (.var 1) (.cons (.var 2) (.nil))))))
 (.ret (.mkMem memOk (.var 1)))))
abbrev F_memory_of : XF := ⟨List Int, 1, fun a => [.lst (a.map .int)], fun a => a.length ≤ 1000 ∧ ∀ x ∈ a, isPl x = true, fun a w => w = .mem (memF a), by intros; rfl⟩
section
variable {P : Program} {w : World} {K : PySem.W.Frag} {mg : Str → Option Value} {base : Heap} {c : Z.Cl} {f p : Addr}
theorem ok_is_between (tx : Tx mg) (d : Dn K mg "_is_between" s__is_between P__is_between) : Fx P w K mg base 1 "_is_between" (F__is_between.sp K c) := by
  refine d.run (N := N__is_between) (s := x__is_between) sc__is_between rfl ?_ fun f cdv A outer s H E hr => ⟨_, pss_one (ps_ret (pe_chain op_lt op_lt (pe_callB (call_min2 rfl) (by rfl) tx.b_min boot_min (pa_cons (pv 1) (pa_cons (pv 2) (pa_nil)))) (pv 0) (pe_callB (call_max2 rfl) (by rfl) tx.b_max boot_max (pa_cons (pv 1) (pa_cons (pv 2) (pa_nil)))))),
 es_ret (ev_chain (ev_fn (ea_cons (ev_var) (ea_cons (ev_var) (ea_nil))) en_min2) (ev_var) (ev_fn (ea_cons (ev_var) (ea_cons (ev_var) (ea_nil))) en_max2))⟩
  rintro ⟨p, i, j⟩ Q hp k
  have k : Q (.bl (btw p i j)) := k _ rfl
  simp only [XS.whole, ↓runA, ↓runC, ↓runD, ↓runE, ↓runF, ↓runG, ↓runH, ↓runI, ↓runJ, ↓runK, ↓runXL, ↓runXM, ↓runYM, ↓runZM, ↓d_seq0, ↓d_seq1, ↓d2_seq, ↓reduceIte, runB, ite_and, Decidable.not_not, forall_eq, List.map_cons, List.map_nil, List.cons_append, List.nil_append, List.replicate_succ, List.replicate_zero, List.append_nil, List.set_cons_zero, List.set_cons_succ, List.getElem?_cons_zero, List.getElem?_cons_succ, Option.some.injEq, List.cons.injEq, exists_and_left, exists_eq_left', exists_eq_left, exists_false, exists_const, forall_eq', forall_eq, ints_inj, Prod.exists, reduceCtorEq, List.length_cons, List.length_nil, implies_true, forall_const, decide_eq_true_eq, decide_eq_false_iff_not, List.getElem?_nil, List.set_nil, if_true, if_false, ite_true, ite_false, eq_self, Prod.mk.injEq, Co.lst.injEq, Co.dct.injEq, Fr.mk.injEq, exists_eq, exists_eq', exists_eq_right, exists_and_right, Nat.zero_le, Nat.zero_add, Nat.reduceAdd, Nat.reduceLT, Nat.reduceLeDiff, Nat.reduceEqDiff, List.mem_cons, List.not_mem_nil, List.nodup_cons, List.nodup_nil, List.forall_mem_cons, forall_eq_or_imp, List.getD_cons_zero, List.getD_cons_succ, List.mem_singleton, ne_eq, List.append_assoc, runXC, runXD, runXJ, x__is_between]
  unfold btw at k
  refine ⟨fun h => ?_, fun h => ?_⟩
  · rw [decide_eq_true h, Bool.true_and] at k; exact k
  · rw [decide_eq_false h, Bool.false_and] at k; exact k
theorem ok_fits (tx : Tx mg) (d : Dn K mg "_fits" s__fits P__fits) (c_is_place : Fx P w K mg base 3 "is_place" (F_is_place.sp K c)) (c__is_between : Fx P w K mg base 1 "_is_between" (F__is_between.sp K c)) : Fx P w K mg base 4 "_fits" (F__fits.sp K c) := by
  refine d.run (N := N__fits) (s := x__fits) sc__fits rfl ?_ fun f cdv A outer s H E hr => ⟨_, pss_cons (ps_set (i := 2) sc__fits.nd rfl (Or.inl rfl) (pe_ix ix_lt (pv 0) (pv 1) (fun _ _ => rfl)))
 (pss_cons (ps_if (pt_not (pt_val (pe_f c_is_place hr (by first | exact Nat.le_refl _ | decide | omega) rfl (pa_cons (pv 2) (pa_nil))))) (pss_one (ps_ret (pe_bl))) (pss_nil))
 (pss_cons (ps_if (pt_cmpR (opEq hr.units) (pv 1) (pe_int) (nomark _)) (pss_one (ps_ret (pe_cmpR op_le (pv 2) (pe_int) (nomark _)))) (pss_nil))
 (pss_cons (ps_if (pt_cmpR (opEq hr.units) (pv 1) (pe_int) (nomark _)) (pss_one (ps_ret (pe_cmpR op_gt (pv 2) (pe_ix ix_lt (pv 0) (pe_int) (fun _ _ => rfl)) (nomark _)))) (pss_nil))
 (pss_one (ps_ret (pe_f c__is_between hr (by first | exact Nat.le_refl _ | decide | omega) rfl (pa_cons (pv 2) (pa_cons (pe_ix ix_lt (pv 0) (pe_op opSub (pv 1) (pe_int)) (fun _ _ => rfl)) (pa_cons (pe_ix ix_lt (pv 0) (pe_op opSub (pv 1) (pe_int)) (fun _ _ => rfl)) (pa_nil)))))))))),
 es_seq (es_asg (ev_op (ev_var) (ev_var) eoIx) eg_name)
 (es_seq (es_if (et_not (et_b (ev_call (ea_cons (ev_var) (ea_nil))))) (es_ret (ev_bl)) (es_next))
 (es_seq (es_if (et_test (ev_op (ev_var) (ev_int) eoEq)) (es_ret (ev_op (ev_var) (ev_int) eo_B)) (es_next))
 (es_seq (es_if (et_test (ev_op (ev_var) (ev_int) eoEq)) (es_ret (ev_op (ev_var) (ev_op (ev_var) (ev_int) eoIx) eo_B)) (es_next))
 (es_ret (ev_call (ea_cons (ev_var) (ea_cons (ev_op (ev_var) (ev_op (ev_var) (ev_int) eoSub) eoIx) (ea_cons (ev_op (ev_var) (ev_op (ev_var) (ev_int) eoSub) eoIx) (ea_nil)))))))))⟩
  rintro ⟨ps, i⟩ Q hp k
  have k : Q (.bl (fitB ps i)) := k _ rfl
  have hp : i < ps.length := hp
  simp only [XS.whole, ↓runA, ↓runC, ↓runD, ↓runE, ↓runF, ↓runG, ↓runH, ↓runI, ↓runJ, ↓runK, ↓runXL, ↓runXM, ↓runYM, ↓runZM, ↓d_seq0, ↓d_seq1, ↓d2_seq, ↓reduceIte, runB, ite_and, Decidable.not_not, forall_eq, List.map_cons, List.map_nil, List.cons_append, List.nil_append, List.replicate_succ, List.replicate_zero, List.append_nil, List.set_cons_zero, List.set_cons_succ, List.getElem?_cons_zero, List.getElem?_cons_succ, Option.some.injEq, List.cons.injEq, exists_and_left, exists_eq_left', exists_eq_left, exists_false, exists_const, forall_eq', forall_eq, ints_inj, Prod.exists, reduceCtorEq, List.length_cons, List.length_nil, implies_true, forall_const, decide_eq_true_eq, decide_eq_false_iff_not, List.getElem?_nil, List.set_nil, if_true, if_false, ite_true, ite_false, eq_self, Prod.mk.injEq, Co.lst.injEq, Co.dct.injEq, Fr.mk.injEq, exists_eq, exists_eq', exists_eq_right, exists_and_right, Nat.zero_le, Nat.zero_add, Nat.reduceAdd, Nat.reduceLT, Nat.reduceLeDiff, Nat.reduceEqDiff, List.mem_cons, List.not_mem_nil, List.nodup_cons, List.nodup_nil, List.forall_mem_cons, forall_eq_or_imp, List.getD_cons_zero, List.getD_cons_succ, List.mem_singleton, ne_eq, List.append_assoc, runXC, runXD, runXJ, x__fits]
  have ei : atI ps (i : Int) = some (ps.getD i 0) := at_getD hp
  have e0 : atI ps 0 = some (ps.getD 0 0) := at_getD (i := 0) (by omega)
  unfold fitB at k
  refine ⟨_, ei, rfl, fun h => ?_, fun h => ?_⟩
  · rw [isNum_pl] at h; rw [h, Bool.false_and] at k; exact k
  · rw [isNum_pl] at h
    rw [h, Bool.true_and] at k
    refine ⟨fun h0 => ?_, fun h0 => ⟨fun h1 => ⟨_, e0, ?_⟩, fun h1 => ?_⟩⟩
    · have : i = 0 := by omega
      subst this
      rw [if_pos rfl] at k; exact k
    · have : i = 1 := by omega
      subst this
      rw [if_neg (by decide), if_pos rfl] at k; exact k
    · rw [if_neg (by omega), if_neg (by omega)] at k
      have a2 : atI ps ((i : Int) - 2) = some (ps.getD (i - 2) 0) := by
        have := at_getD (ps := ps) (i := i - 2) (by omega)
        rwa [show ((i - 2 : Nat) : Int) = (i : Int) - 2 by omega] at this
      have a1 : atI ps ((i : Int) - 1) = some (ps.getD (i - 1) 0) := by
        have := at_getD (ps := ps) (i := i - 1) (by omega)
        rwa [show ((i - 1 : Nat) : Int) = (i : Int) - 1 by omega] at this
      exact ⟨_, a2, _, a1, k⟩
theorem ok_check_places (tx : Tx mg) (d : Dn K mg "_check_places" s__check_places P__check_places) (c__fits : Fx P w K mg base 4 "_fits" (F__fits.sp K c)) : Fx P w K mg base 5 "_check_places" (F__check_places.sp K c) := by
  refine d.run (N := N__check_places) (s := x__check_places) sc__check_places rfl ?_ fun f cdv A outer s H E hr => ⟨_, pss_cons (ps_if ((PW.pt (pw_or (pt_not (pt_val (pe_callB call_isi (by rfl) tx.b_isinstance boot_isinstance (pa_cons (pv 0) (pa_cons (pe_bltn (v := .ty "tuple") (by rfl) tx.b_tuple boot_tuple rfl) pa_nil))))) (pw_or1 (pt_cmpR (opEq hr.units) (pe_callB call_len_seq (by rfl) tx.b_len boot_len (pa_cons (pv 0) (pa_nil))) (pe_int) (nomark _)))))) (pss_one (ps_never)) (pss_nil))
 (pss_one (ps_for PassesOwn.never rfl (pi_range1 rfl tx.b_range (pa_cons (pe_callB call_len_seq (by rfl) tx.b_len boot_len (pa_cons (pv 0) (pa_nil))) (pa_nil))) (pg_name (i := 1) sc__check_places.nd rfl (Or.inl rfl)) (pss_one (ps_if (pt_not (pt_val (pe_f c__fits hr (by first | exact Nat.le_refl _ | decide | omega) rfl (pa_cons (pv 0) (pa_cons (pv 1) (pa_nil)))))) (pss_one (ps_never)) (pss_nil))))),
 es_seq (es_if (et_or (et_not (et_b (ev_fn (ea_cons (ev_var) (ea_cons ev_ty ea_nil)) en_isi0))) (et_test (ev_op (ev_fn (ea_cons (ev_var) (ea_nil)) en_len) (ev_int) eoEq))) (es_never) (es_next))
 (es_for (ei_rng1 (ea_cons (ev_fn (ea_cons (ev_var) (ea_nil)) en_len) (ea_nil))) (eg_name) (es_if (et_not (et_b (ev_call (ea_cons (ev_var) (ea_cons (ev_var) (ea_nil)))))) (es_never) (es_next)))⟩
  rintro ps Q ok k
  have k : Q .non := k _ rfl
  have ok : okMem ps := ok
  simp only [XS.whole, ↓runA, ↓runC, ↓runD, ↓runE, ↓runF, ↓runG, ↓runH, ↓runI, ↓runJ, ↓runK, ↓runXL, ↓runXM, ↓runYM, ↓runZM, ↓d_seq0, ↓d_seq1, ↓d2_seq, ↓reduceIte, runB, ite_and, Decidable.not_not, forall_eq, List.map_cons, List.map_nil, List.cons_append, List.nil_append, List.replicate_succ, List.replicate_zero, List.append_nil, List.set_cons_zero, List.set_cons_succ, List.getElem?_cons_zero, List.getElem?_cons_succ, Option.some.injEq, List.cons.injEq, exists_and_left, exists_eq_left', exists_eq_left, exists_false, exists_const, forall_eq', forall_eq, ints_inj, Prod.exists, reduceCtorEq, List.length_cons, List.length_nil, implies_true, forall_const, decide_eq_true_eq, decide_eq_false_iff_not, List.getElem?_nil, List.set_nil, if_true, if_false, ite_true, ite_false, eq_self, Prod.mk.injEq, Co.lst.injEq, Co.dct.injEq, Fr.mk.injEq, exists_eq, exists_eq', exists_eq_right, exists_and_right, Nat.zero_le, Nat.zero_add, Nat.reduceAdd, Nat.reduceLT, Nat.reduceLeDiff, Nat.reduceEqDiff, List.mem_cons, List.not_mem_nil, List.nodup_cons, List.nodup_nil, List.forall_mem_cons, forall_eq_or_imp, List.getD_cons_zero, List.getD_cons_succ, List.mem_singleton, ne_eq, List.append_assoc, runXC, runXD, runXJ, x__check_places]
  obtain ⟨ne, hl, fit⟩ := ok
  have h0 := List.length_pos_iff.mpr ne
  rw [List.length_map]
  refine ⟨fun h => by omega, fun _ => ⟨by omega, by omega, fun i φ => ∃ a, φ = ⟨[some (.tup (ps.map .int)), a], none⟩, ⟨none, rfl⟩, ?_, fun φ _ => k⟩⟩
  rintro i w φ hw ⟨a, rfl⟩
  obtain ⟨hi, rfl⟩ := rgW_at hw
  simp only [XS.whole, ↓runA, ↓runC, ↓runD, ↓runE, ↓runF, ↓runG, ↓runH, ↓runI, ↓runJ, ↓runK, ↓runXL, ↓runXM, ↓runYM, ↓runZM, ↓d_seq0, ↓d_seq1, ↓d2_seq, ↓reduceIte, runB, ite_and, Decidable.not_not, forall_eq, List.map_cons, List.map_nil, List.cons_append, List.nil_append, List.replicate_succ, List.replicate_zero, List.append_nil, List.set_cons_zero, List.set_cons_succ, List.getElem?_cons_zero, List.getElem?_cons_succ, Option.some.injEq, List.cons.injEq, exists_and_left, exists_eq_left', exists_eq_left, exists_false, exists_const, forall_eq', forall_eq, ints_inj, Prod.exists, reduceCtorEq, List.length_cons, List.length_nil, implies_true, forall_const, decide_eq_true_eq, decide_eq_false_iff_not, List.getElem?_nil, List.set_nil, if_true, if_false, ite_true, ite_false, eq_self, Prod.mk.injEq, Co.lst.injEq, Co.dct.injEq, Fr.mk.injEq, exists_eq, exists_eq', exists_eq_right, exists_and_right, Nat.zero_le, Nat.zero_add, Nat.reduceAdd, Nat.reduceLT, Nat.reduceLeDiff, Nat.reduceEqDiff, List.mem_cons, List.not_mem_nil, List.nodup_cons, List.nodup_nil, List.forall_mem_cons, forall_eq_or_imp, List.getD_cons_zero, List.getD_cons_succ, List.mem_singleton, ne_eq, List.append_assoc, runXC, runXD, runXJ]
  have hi : i < ps.length := by omega
  simp only [Int.zero_add]
  exact ⟨i, rfl, hi, (by rw [fit i hi]; intro h; cases h)⟩
theorem ok_count_kept (tx : Tx mg) (d : Dn K mg "count_kept" s_count_kept P_count_kept) (c__is_between : Fx P w K mg base 1 "_is_between" (F__is_between.sp K c)) : Fx P w K mg base 2 "count_kept" (F_count_kept.sp K c) := by
  refine d.run (N := N_count_kept) (s := x_count_kept) sc_count_kept rfl ?_ fun f cdv A outer s H E hr => ⟨_, pss_cons (ps_if (pt_cmpR op_le (pv 1) (pe_ix ix_lt (pv 0) (pe_int) (fun _ _ => rfl)) (nomark _)) (pss_one (ps_ret (pe_int))) (pss_nil))
 (pss_cons (ps_set (i := 2) sc_count_kept.nd rfl (Or.inl rfl) (pe_int))
 (pss_cons (ps_while PassesOwn.never ((PW.pt (pw_and (pt_cmpR op_lt (pv 2) (pe_callB call_len_seq (by rfl) tx.b_len boot_len (pa_cons (pv 0) (pa_nil))) (nomark _)) (pw_and1 (pt_val (pe_f c__is_between hr (by first | exact Nat.le_refl _ | decide | omega) rfl (pa_cons (pv 1) (pa_cons (pe_ix ix_lt (pv 0) (pe_op opSub (pv 2) (pe_int)) (fun _ _ => rfl)) (pa_cons (pe_ix ix_lt (pv 0) (pv 2) (fun _ _ => rfl)) (pa_nil)))))))))) (pss_one (ps_aug (i := 2) sc_count_kept.nd rfl (Or.inl rfl) (pe_int) ip_add)))
 (pss_one (ps_ret (pv 2))))),
 es_seq (es_if (et_test (ev_op (ev_var) (ev_op (ev_var) (ev_int) eoIx) eo_B)) (es_ret (ev_int)) (es_next))
 (es_seq (es_asg (ev_int) eg_name)
 (es_seq (es_while (et_and (et_test (ev_op (ev_var) (ev_fn (ea_cons (ev_var) (ea_nil)) en_len) eo_B)) (et_b (ev_call (ea_cons (ev_var) (ea_cons (ev_op (ev_var) (ev_op (ev_var) (ev_int) eoSub) eoIx) (ea_cons (ev_op (ev_var) (ev_var) eoIx) (ea_nil))))))) (es_aug (ev_int)))
 (es_ret (ev_var))))⟩
  rintro ⟨t, ps, p⟩ Q ⟨ne, hl⟩ kk
  have k : Q (.int (keptN ps p : Int)) := kk _ rfl
  clear kk
  have ne : ps ≠ [] := ne
  have hl : ps.length ≤ 5000 := hl
  cases t
  all_goals simp only [seqW, if_true, if_false, Bool.false_eq_true]
  · simp only [XS.whole, ↓runA, ↓runC, ↓runD, ↓runE, ↓runF, ↓runG, ↓runH, ↓runI, ↓runJ, ↓runK, ↓runXL, ↓runXM, ↓runYM, ↓runZM, ↓d_seq0, ↓d_seq1, ↓d2_seq, ↓reduceIte, runB, ite_and, Decidable.not_not, forall_eq, List.map_cons, List.map_nil, List.cons_append, List.nil_append, List.replicate_succ, List.replicate_zero, List.append_nil, List.set_cons_zero, List.set_cons_succ, List.getElem?_cons_zero, List.getElem?_cons_succ, Option.some.injEq, List.cons.injEq, exists_and_left, exists_eq_left', exists_eq_left, exists_false, exists_const, forall_eq', forall_eq, ints_inj, Prod.exists, reduceCtorEq, List.length_cons, List.length_nil, implies_true, forall_const, decide_eq_true_eq, decide_eq_false_iff_not, List.getElem?_nil, List.set_nil, if_true, if_false, ite_true, ite_false, eq_self, Prod.mk.injEq, Co.lst.injEq, Co.dct.injEq, Fr.mk.injEq, exists_eq, exists_eq', exists_eq_right, exists_and_right, Nat.zero_le, Nat.zero_add, Nat.reduceAdd, Nat.reduceLT, Nat.reduceLeDiff, Nat.reduceEqDiff, List.mem_cons, List.not_mem_nil, List.nodup_cons, List.nodup_nil, List.forall_mem_cons, forall_eq_or_imp, List.getD_cons_zero, List.getD_cons_succ, List.mem_singleton, ne_eq, List.append_assoc, runXC, runXD, runXJ, x_count_kept]
    have h0 := List.length_pos_iff.mpr ne
    refine ⟨_, at_getD (i := 0) h0, fun h => ?_, fun h => ?_⟩
    · unfold keptN at k
      rw [if_pos h] at k; exact k
    · unfold keptN at k
      rw [if_neg h] at k
      refine ⟨fun m φ => ∃ g : Nat, 1 ≤ g ∧ g ≤ ps.length ∧ m = ps.length - g ∧ runL p ps + 1 = g + runL p (ps.drop (g - 1)) ∧ φ = ⟨[some (.tup (ps.map .int)), some (.int p), some (.int (g : Int))], none⟩, ⟨_, 1, Nat.le_refl _, h0, rfl, by rw [Nat.sub_self, List.drop_zero]; omega, rfl⟩, ?_⟩
      rintro m φ ⟨g, g1, gl, rfl, hr, rfl⟩
      simp only [XS.whole, ↓runA, ↓runC, ↓runD, ↓runE, ↓runF, ↓runG, ↓runH, ↓runI, ↓runJ, ↓runK, ↓runXL, ↓runXM, ↓runYM, ↓runZM, ↓d_seq0, ↓d_seq1, ↓d2_seq, ↓reduceIte, runB, ite_and, Decidable.not_not, forall_eq, List.map_cons, List.map_nil, List.cons_append, List.nil_append, List.replicate_succ, List.replicate_zero, List.append_nil, List.set_cons_zero, List.set_cons_succ, List.getElem?_cons_zero, List.getElem?_cons_succ, Option.some.injEq, List.cons.injEq, exists_and_left, exists_eq_left', exists_eq_left, exists_false, exists_const, forall_eq', forall_eq, ints_inj, Prod.exists, reduceCtorEq, List.length_cons, List.length_nil, implies_true, forall_const, decide_eq_true_eq, decide_eq_false_iff_not, List.getElem?_nil, List.set_nil, if_true, if_false, ite_true, ite_false, eq_self, Prod.mk.injEq, Co.lst.injEq, Co.dct.injEq, Fr.mk.injEq, exists_eq, exists_eq', exists_eq_right, exists_and_right, Nat.zero_le, Nat.zero_add, Nat.reduceAdd, Nat.reduceLT, Nat.reduceLeDiff, Nat.reduceEqDiff, List.mem_cons, List.not_mem_nil, List.nodup_cons, List.nodup_nil, List.forall_mem_cons, forall_eq_or_imp, List.getD_cons_zero, List.getD_cons_succ, List.mem_singleton, ne_eq, List.append_assoc, runXC, runXD, runXJ, Z.Fr.rev]
      have a1 : ∀ h : 1 ≤ g, atI ps ((g : Int) - 1) = some (ps.getD (g - 1) 0) := fun h => by
        have := at_getD (ps := ps) (i := g - 1) (by omega)
        rwa [show ((g - 1 : Nat) : Int) = (g : Int) - 1 by omega] at this
      rw [List.length_map]
      have last : g = ps.length → Q (.int (g : Int)) := fun e => by
        rw [e, show ps.length - 1 = ps.length - 1 from rfl] at hr
        have z : runL p (ps.drop (ps.length - 1)) = 0 := by
          rw [List.drop_eq_getElem_cons (by omega), List.drop_eq_nil_of_le (by omega)]; rfl
        rw [z] at hr
        rw [show ((runL p ps + 1 : Nat) : Int) = (g : Int) by omega] at k
        exact k
      refine ⟨fun h => ?_, fun h => last (by omega)⟩
      have st := runL_step (p := p) (ps := ps) g1 (by omega)
      refine ⟨_, a1 g1, _, at_getD (by omega), fun hb => ?_, fun hb => ?_⟩
      · rw [if_pos hb] at st
        exact ⟨_, by omega, g + 1, by omega, by omega, rfl, by rw [Nat.add_sub_cancel]; omega, by omega⟩
      · rw [if_neg (by rw [hb]; exact Bool.false_ne_true)] at st
        rw [show ((runL p ps + 1 : Nat) : Int) = (g : Int) by omega] at k
        exact k
  · simp only [XS.whole, ↓runA, ↓runC, ↓runD, ↓runE, ↓runF, ↓runG, ↓runH, ↓runI, ↓runJ, ↓runK, ↓runXL, ↓runXM, ↓runYM, ↓runZM, ↓d_seq0, ↓d_seq1, ↓d2_seq, ↓reduceIte, runB, ite_and, Decidable.not_not, forall_eq, List.map_cons, List.map_nil, List.cons_append, List.nil_append, List.replicate_succ, List.replicate_zero, List.append_nil, List.set_cons_zero, List.set_cons_succ, List.getElem?_cons_zero, List.getElem?_cons_succ, Option.some.injEq, List.cons.injEq, exists_and_left, exists_eq_left', exists_eq_left, exists_false, exists_const, forall_eq', forall_eq, ints_inj, Prod.exists, reduceCtorEq, List.length_cons, List.length_nil, implies_true, forall_const, decide_eq_true_eq, decide_eq_false_iff_not, List.getElem?_nil, List.set_nil, if_true, if_false, ite_true, ite_false, eq_self, Prod.mk.injEq, Co.lst.injEq, Co.dct.injEq, Fr.mk.injEq, exists_eq, exists_eq', exists_eq_right, exists_and_right, Nat.zero_le, Nat.zero_add, Nat.reduceAdd, Nat.reduceLT, Nat.reduceLeDiff, Nat.reduceEqDiff, List.mem_cons, List.not_mem_nil, List.nodup_cons, List.nodup_nil, List.forall_mem_cons, forall_eq_or_imp, List.getD_cons_zero, List.getD_cons_succ, List.mem_singleton, ne_eq, List.append_assoc, runXC, runXD, runXJ, x_count_kept]
    have h0 := List.length_pos_iff.mpr ne
    refine ⟨_, at_getD (i := 0) h0, fun h => ?_, fun h => ?_⟩
    · unfold keptN at k
      rw [if_pos h] at k; exact k
    · unfold keptN at k
      rw [if_neg h] at k
      refine ⟨fun m φ => ∃ g : Nat, 1 ≤ g ∧ g ≤ ps.length ∧ m = ps.length - g ∧ runL p ps + 1 = g + runL p (ps.drop (g - 1)) ∧ φ = ⟨[some (.lst (ps.map .int)), some (.int p), some (.int (g : Int))], none⟩, ⟨_, 1, Nat.le_refl _, h0, rfl, by rw [Nat.sub_self, List.drop_zero]; omega, rfl⟩, ?_⟩
      rintro m φ ⟨g, g1, gl, rfl, hr, rfl⟩
      simp only [XS.whole, ↓runA, ↓runC, ↓runD, ↓runE, ↓runF, ↓runG, ↓runH, ↓runI, ↓runJ, ↓runK, ↓runXL, ↓runXM, ↓runYM, ↓runZM, ↓d_seq0, ↓d_seq1, ↓d2_seq, ↓reduceIte, runB, ite_and, Decidable.not_not, forall_eq, List.map_cons, List.map_nil, List.cons_append, List.nil_append, List.replicate_succ, List.replicate_zero, List.append_nil, List.set_cons_zero, List.set_cons_succ, List.getElem?_cons_zero, List.getElem?_cons_succ, Option.some.injEq, List.cons.injEq, exists_and_left, exists_eq_left', exists_eq_left, exists_false, exists_const, forall_eq', forall_eq, ints_inj, Prod.exists, reduceCtorEq, List.length_cons, List.length_nil, implies_true, forall_const, decide_eq_true_eq, decide_eq_false_iff_not, List.getElem?_nil, List.set_nil, if_true, if_false, ite_true, ite_false, eq_self, Prod.mk.injEq, Co.lst.injEq, Co.dct.injEq, Fr.mk.injEq, exists_eq, exists_eq', exists_eq_right, exists_and_right, Nat.zero_le, Nat.zero_add, Nat.reduceAdd, Nat.reduceLT, Nat.reduceLeDiff, Nat.reduceEqDiff, List.mem_cons, List.not_mem_nil, List.nodup_cons, List.nodup_nil, List.forall_mem_cons, forall_eq_or_imp, List.getD_cons_zero, List.getD_cons_succ, List.mem_singleton, ne_eq, List.append_assoc, runXC, runXD, runXJ, Z.Fr.rev]
      have a1 : ∀ h : 1 ≤ g, atI ps ((g : Int) - 1) = some (ps.getD (g - 1) 0) := fun h => by
        have := at_getD (ps := ps) (i := g - 1) (by omega)
        rwa [show ((g - 1 : Nat) : Int) = (g : Int) - 1 by omega] at this
      rw [List.length_map]
      have last : g = ps.length → Q (.int (g : Int)) := fun e => by
        rw [e, show ps.length - 1 = ps.length - 1 from rfl] at hr
        have z : runL p (ps.drop (ps.length - 1)) = 0 := by
          rw [List.drop_eq_getElem_cons (by omega), List.drop_eq_nil_of_le (by omega)]; rfl
        rw [z] at hr
        rw [show ((runL p ps + 1 : Nat) : Int) = (g : Int) by omega] at k
        exact k
      refine ⟨fun h => ?_, fun h => last (by omega)⟩
      have st := runL_step (p := p) (ps := ps) g1 (by omega)
      refine ⟨_, a1 g1, _, at_getD (by omega), fun hb => ?_, fun hb => ?_⟩
      · rw [if_pos hb] at st
        exact ⟨_, by omega, g + 1, by omega, by omega, rfl, by rw [Nat.add_sub_cancel]; omega, by omega⟩
      · rw [if_neg (by rw [hb]; exact Bool.false_ne_true)] at st
        rw [show ((runL p ps + 1 : Nat) : Int) = (g : Int) by omega] at k
        exact k
theorem ok_after_move (tx : Tx mg) (d : Dn K mg "after_move" s_after_move P_after_move) (c_count_kept : Fx P w K mg base 2 "count_kept" (F_count_kept.sp K c)) : Fx P w K mg base 3 "after_move" (F_after_move.sp K c) := by
  refine d.run (N := N_after_move) (s := x_after_move) sc_after_move rfl ?_ fun f cdv A outer s H E hr => ⟨_, pss_one (ps_ret (pe_op opAdd (pe_slice (SlR.or sl_list sl_tupA) (pv 0) po_none (po_some (pe_f c_count_kept hr (by first | exact Nat.le_refl _ | decide | omega) rfl (pa_cons (pv 0) (pa_cons (pv 1) (pa_nil)))))) (pe_tup (pa_cons (pv 1) (pa_nil))))),
 es_ret (ev_op (ev_sl (ev_var) ep_no (ep_at (ev_call (ea_cons (ev_var) (ea_cons (ev_var) (ea_nil)))))) (ev_tup (ea_cons (ev_var) (ea_nil))) eoAdd)⟩
  rintro ⟨ps, p⟩ Q ⟨ne, hl⟩ k
  have k : Q (.tup ((aft ps p).map .int)) := k _ rfl
  simp only at ne hl
  simp only [XS.whole, ↓runA, ↓runC, ↓runD, ↓runE, ↓runF, ↓runG, ↓runH, ↓runI, ↓runJ, ↓runK, ↓runXL, ↓runXM, ↓runYM, ↓runZM, ↓d_seq0, ↓d_seq1, ↓d2_seq, ↓reduceIte, runB, ite_and, Decidable.not_not, forall_eq, List.map_cons, List.map_nil, List.cons_append, List.nil_append, List.replicate_succ, List.replicate_zero, List.append_nil, List.set_cons_zero, List.set_cons_succ, List.getElem?_cons_zero, List.getElem?_cons_succ, Option.some.injEq, List.cons.injEq, exists_and_left, exists_eq_left', exists_eq_left, exists_false, exists_const, forall_eq', forall_eq, ints_inj, Prod.exists, reduceCtorEq, List.length_cons, List.length_nil, implies_true, forall_const, decide_eq_true_eq, decide_eq_false_iff_not, List.getElem?_nil, List.set_nil, if_true, if_false, ite_true, ite_false, eq_self, Prod.mk.injEq, Co.lst.injEq, Co.dct.injEq, Fr.mk.injEq, exists_eq, exists_eq', exists_eq_right, exists_and_right, Nat.zero_le, Nat.zero_add, Nat.reduceAdd, Nat.reduceLT, Nat.reduceLeDiff, Nat.reduceEqDiff, List.mem_cons, List.not_mem_nil, List.nodup_cons, List.nodup_nil, List.forall_mem_cons, forall_eq_or_imp, List.getD_cons_zero, List.getD_cons_succ, List.mem_singleton, ne_eq, List.append_assoc, runXC, runXD, runXJ, x_after_move]
  rw [aft_kept, List.map_append, List.map_take] at k
  refine ⟨false, ps, rfl, ne, hl, ?_, ?_⟩
  · rw [cutW_to, List.length_take, List.length_map]; omega
  · rw [cutW_to]; exact k
theorem ok_mem_init (ckM : CK K c.C "_places") (d : Dm K "__init__" "Memory.__init__" s_Memory__init_ P_Memory__init_ f) (c__check_places : Fx P w K mg base 5 "_check_places" (F__check_places.sp K c)) : ∃ fd, FnOk P w K mg base CX0 6 f fd P_Memory__init_ (spIni K c.C "_places" (preMem K)) ∧ Binds K fd P_Memory__init_ [] := by
  refine d.ok (N := N_Memory__init_) sc_Memory__init_ (fun vs H Q E h => ?_) (fun cdv A outer s H vs Q E hr h => ⟨_, pss_cons (ps_expr (pe_f c__check_places hr (by first | exact Nat.le_refl _ | decide | omega) rfl (pa_cons (pv 1) (pa_nil))))
 (pss_one (ps_fld (pv 0) (pv 1) rfl)), ?_⟩)
  · obtain ⟨x, dx, d, v, h, rfl, _⟩ := h
    rfl
  · obtain ⟨x, dx, d, v, h, rfl, ho, e, nh, dq, ⟨ps, rfl, ok⟩, k⟩ := h
    refine ⟨_, rfl, ps, h, e, .cons (intsT_p dq) .nil, ok, fun v h1 H1 s1 _ => ?_⟩
    exact ⟨_, rfl, _, rfl, x, c.C, dx, [], rfl, s1.e _ _ ho, ckM.cl, ckM.na, by decide, k h1 H1 s1⟩
theorem ok_mem_places (tx : Tx mg) (ckM : CK K c.C "_places") (d : Dm K "places" "Memory.places" s_Memory_places P_Memory_places f) : ∃ fd, FnOk P w K mg base CX0 1 f fd P_Memory_places (F_places.sp K c) ∧ Binds K fd P_Memory_places [] := by
  refine d.run (N := N_Memory_places) (s := x_Memory_places) sc_Memory_places rfl ?_ fun cdv A outer s H E hr => ⟨_, pss_one (ps_ret (pe_fld (pv 0) rfl)),
 es_ret (ev_fld ckM.cl ckM.na (ev_var))⟩
  rintro ps Q _ k
  have k : Q (.tup (ps.map .int)) := k _ rfl
  simp only [XS.whole, ↓runA, ↓runC, ↓runD, ↓runE, ↓runF, ↓runG, ↓runH, ↓runI, ↓runJ, ↓runK, ↓runXL, ↓runXM, ↓runYM, ↓runZM, ↓d_seq0, ↓d_seq1, ↓d2_seq, ↓reduceIte, runB, ite_and, Decidable.not_not, forall_eq, List.map_cons, List.map_nil, List.cons_append, List.nil_append, List.replicate_succ, List.replicate_zero, List.append_nil, List.set_cons_zero, List.set_cons_succ, List.getElem?_cons_zero, List.getElem?_cons_succ, Option.some.injEq, List.cons.injEq, exists_and_left, exists_eq_left', exists_eq_left, exists_false, exists_const, forall_eq', forall_eq, ints_inj, Prod.exists, reduceCtorEq, List.length_cons, List.length_nil, implies_true, forall_const, decide_eq_true_eq, decide_eq_false_iff_not, List.getElem?_nil, List.set_nil, if_true, if_false, ite_true, ite_false, eq_self, Prod.mk.injEq, Co.lst.injEq, Co.dct.injEq, Fr.mk.injEq, exists_eq, exists_eq', exists_eq_right, exists_and_right, Nat.zero_le, Nat.zero_add, Nat.reduceAdd, Nat.reduceLT, Nat.reduceLeDiff, Nat.reduceEqDiff, List.mem_cons, List.not_mem_nil, List.nodup_cons, List.nodup_nil, List.forall_mem_cons, forall_eq_or_imp, List.getD_cons_zero, List.getD_cons_succ, List.mem_singleton, ne_eq, List.append_assoc, runXC, runXD, runXJ, x_Memory_places]
  exact k
theorem ok_memory_of (tx : Tx mg) (d : Dn K mg "memory_of" s_memory_of P_memory_of) (c_check_row : Fx P w K mg base 4 "check_row" (F_check_row.sp K c)) (c_after_move : Fx P w K mg base 3 "after_move" (F_after_move.sp K c)) (m_Memory : Ix P w K mg base 6 "Memory" c.C (spIni K c.C "_places" (preMem K))) : Fx P w K mg base 8 "memory_of" (F_memory_of.sp K c) := by
  refine d.run (N := N_memory_of) (s := x_memory_of) sc_memory_of rfl ?_ fun f cdv A outer s H E hr => ⟨_, pss_cons (ps_expr (pe_f c_check_row hr (by first | exact Nat.le_refl _ | decide | omega) rfl (pa_cons (pv 0) (pa_nil))))
 (pss_cons (ps_set (i := 1) sc_memory_of.nd rfl (Or.inl rfl) (pe_tup (pa_cons (pe_int) (pa_nil))))
 (pss_cons (ps_for PassesOwn.never rfl (pi_seq (pv 0)) (pg_name (i := 2) sc_memory_of.nd rfl (Or.inl rfl)) (pss_one (ps_set (i := 1) sc_memory_of.nd rfl (Or.inl rfl) (pe_f c_after_move hr (by first | exact Nat.le_refl _ | decide | omega) rfl (pa_cons (pv 1) (pa_cons (pv 2) (pa_nil)))))))
 (pss_one (ps_ret (pe_mkR m_Memory hr (by first | exact Nat.le_refl _ | decide | omega) rfl (pa_cons (pv 1) pa_nil)))))),
 es_seq (es_drop (ev_call (ea_cons (ev_var) (ea_nil))))
 (es_seq (es_asg (ev_tup (ea_cons (ev_int) (ea_nil))) eg_name)
 (es_seq (es_for (ei_seq (ev_var)) (eg_name) (es_asg (ev_call (ea_cons (ev_var) (ea_cons (ev_var) (ea_nil)))) eg_name))
 (es_ret (ev_mkMem preM_of (ev_var)))))⟩
  rintro row Q ⟨hl, hp⟩ k
  have k : Q (.mem (memF row)) := k _ rfl
  have hl : row.length ≤ 1000 := hl
  simp only [XS.whole, ↓runA, ↓runC, ↓runD, ↓runE, ↓runF, ↓runG, ↓runH, ↓runI, ↓runJ, ↓runK, ↓runXL, ↓runXM, ↓runYM, ↓runZM, ↓d_seq0, ↓d_seq1, ↓d2_seq, ↓reduceIte, runB, ite_and, Decidable.not_not, forall_eq, List.map_cons, List.map_nil, List.cons_append, List.nil_append, List.replicate_succ, List.replicate_zero, List.append_nil, List.set_cons_zero, List.set_cons_succ, List.getElem?_cons_zero, List.getElem?_cons_succ, Option.some.injEq, List.cons.injEq, exists_and_left, exists_eq_left', exists_eq_left, exists_false, exists_const, forall_eq', forall_eq, ints_inj, Prod.exists, reduceCtorEq, List.length_cons, List.length_nil, implies_true, forall_const, decide_eq_true_eq, decide_eq_false_iff_not, List.getElem?_nil, List.set_nil, if_true, if_false, ite_true, ite_false, eq_self, Prod.mk.injEq, Co.lst.injEq, Co.dct.injEq, Fr.mk.injEq, exists_eq, exists_eq', exists_eq_right, exists_and_right, Nat.zero_le, Nat.zero_add, Nat.reduceAdd, Nat.reduceLT, Nat.reduceLeDiff, Nat.reduceEqDiff, List.mem_cons, List.not_mem_nil, List.nodup_cons, List.nodup_nil, List.forall_mem_cons, forall_eq_or_imp, List.getD_cons_zero, List.getD_cons_succ, List.mem_singleton, ne_eq, List.append_assoc, runXC, runXD, runXJ, x_memory_of]
  refine ⟨hl, hp, fun i φ => ∃ a, φ = ⟨[some (.lst (row.map .int)), some (.tup ((memF (row.take i)).map .int)), a], none⟩, ⟨none, rfl⟩, ?_, ?_⟩
  · rintro i w φ hw ⟨a, rfl⟩
    obtain ⟨x, hx, rfl⟩ := mapW_at hw
    have ht : ∀ y ∈ row.take i, isPl y = true := fun y hy => hp y (List.mem_of_mem_take hy)
    have hm := okMem_memF ht (by rw [List.length_take]; omega)
    have e : memF (row.take (i + 1)) = aft (memF (row.take i)) x := by
      rw [List.take_add_one, hx]; exact memF_snoc _ _
    simp only [XS.whole, ↓runA, ↓runC, ↓runD, ↓runE, ↓runF, ↓runG, ↓runH, ↓runI, ↓runJ, ↓runK, ↓runXL, ↓runXM, ↓runYM, ↓runZM, ↓d_seq0, ↓d_seq1, ↓d2_seq, ↓reduceIte, runB, ite_and, Decidable.not_not, forall_eq, List.map_cons, List.map_nil, List.cons_append, List.nil_append, List.replicate_succ, List.replicate_zero, List.append_nil, List.set_cons_zero, List.set_cons_succ, List.getElem?_cons_zero, List.getElem?_cons_succ, Option.some.injEq, List.cons.injEq, exists_and_left, exists_eq_left', exists_eq_left, exists_false, exists_const, forall_eq', forall_eq, ints_inj, Prod.exists, reduceCtorEq, List.length_cons, List.length_nil, implies_true, forall_const, decide_eq_true_eq, decide_eq_false_iff_not, List.getElem?_nil, List.set_nil, if_true, if_false, ite_true, ite_false, eq_self, Prod.mk.injEq, Co.lst.injEq, Co.dct.injEq, Fr.mk.injEq, exists_eq, exists_eq', exists_eq_right, exists_and_right, Nat.zero_le, Nat.zero_add, Nat.reduceAdd, Nat.reduceLT, Nat.reduceLeDiff, Nat.reduceEqDiff, List.mem_cons, List.not_mem_nil, List.nodup_cons, List.nodup_nil, List.forall_mem_cons, forall_eq_or_imp, List.getD_cons_zero, List.getD_cons_succ, List.mem_singleton, ne_eq, List.append_assoc, runXC, runXD, runXJ]
    rw [e]
    exact ⟨hm.1.1, hm.1.2.1, rfl⟩
  · rintro φ ⟨a, rfl⟩
    rw [List.length_map, List.take_length]
    simp only [XS.whole, ↓runA, ↓runC, ↓runD, ↓runE, ↓runF, ↓runG, ↓runH, ↓runI, ↓runJ, ↓runK, ↓runXL, ↓runXM, ↓runYM, ↓runZM, ↓d_seq0, ↓d_seq1, ↓d2_seq, ↓reduceIte, runB, ite_and, Decidable.not_not, forall_eq, List.map_cons, List.map_nil, List.cons_append, List.nil_append, List.replicate_succ, List.replicate_zero, List.append_nil, List.set_cons_zero, List.set_cons_succ, List.getElem?_cons_zero, List.getElem?_cons_succ, Option.some.injEq, List.cons.injEq, exists_and_left, exists_eq_left', exists_eq_left, exists_false, exists_const, forall_eq', forall_eq, ints_inj, Prod.exists, reduceCtorEq, List.length_cons, List.length_nil, implies_true, forall_const, decide_eq_true_eq, decide_eq_false_iff_not, List.getElem?_nil, List.set_nil, if_true, if_false, ite_true, ite_false, eq_self, Prod.mk.injEq, Co.lst.injEq, Co.dct.injEq, Fr.mk.injEq, exists_eq, exists_eq', exists_eq_right, exists_and_right, Nat.zero_le, Nat.zero_add, Nat.reduceAdd, Nat.reduceLT, Nat.reduceLeDiff, Nat.reduceEqDiff, List.mem_cons, List.not_mem_nil, List.nodup_cons, List.nodup_nil, List.forall_mem_cons, forall_eq_or_imp, List.getD_cons_zero, List.getD_cons_succ, List.mem_singleton, ne_eq, List.append_assoc, runXC, runXD, runXJ]
    exact ⟨(okMem_memF hp (by omega)).1, k⟩
end
namespace L
/-! ### the law's numbers -/
namespace Old
/-! ### the law's numbers -/
section
variable {P : Program} {w : World} {K : PySem.W.Frag} {mg : Str → Option Value} {base : Heap}
theorem fx_len {k : Nat} {x : Str} {sp sp' : Sp} (c : Fx P w K mg base k x sp) (h : ∀ f, FnR P w K mg base CX0 k f sp → FnR P w K mg base CX0 k f sp') : Fx P w K mg base k x sp' := by
  obtain ⟨f, a, b, F⟩ := c.ex
  exact ⟨f, a, b, h f F⟩
theorem ifT {c : Bool} {A B : Prop} (hc : c = true) (h : A) : if c = true then A else B := by rw [if_pos hc]; exact h
theorem ifF {c : Bool} {A B : Prop} (hc : c = false) (h : B) : if c = true then A else B := by rw [hc, if_neg Bool.false_ne_true]; exact h
theorem at0 {a : Int} {r : List Int} : atI ((a :: r).map V.int) 0 = some (.int a) := atI_nat (j := 0) rfl
theorem at1 {a c : Int} {r : List Int} : atI ((a :: c :: r).map V.int) 1 = some (.int c) := atI_nat (j := 1) rfl
theorem ix0 {a : Int} {r : List Int} : ixN ((a :: r).map V.int).length 0 = some 0 := Evl.ixN_nat (j := 0) (by simp)
theorem ix1 {a c : Int} {r : List Int} : ixN ((a :: c :: r).map V.int).length 1 = some 1 := Evl.ixN_nat (j := 1) (by simp)
theorem ok_law_below (tx : Tx mg) (d : Dn K mg "_law_below" s__law_below P__law_below) : Fx P w K mg base 1 "_law_below" (spBelow K) := by
  refine fx_len (d.fx (N := N__law_below) (sp := spBelowL) sc__law_below (fun vs H Q E h => ?_) (fun f cdv A outer s H vs Q E hr h => ⟨_, pss_cons (ps_if ((PW.pt (pw_and (pt_cmpR op_eq (pe_ix ix_list (pv 0) (pe_int) (fun _ _ => rfl)) (pe_int) (nomark _)) (pw_and1 (pt_cmpR op_gt (pe_callB call_len_seq (by rfl) tx.b_len boot_len (pa_cons (pv 0) (pa_nil))) (pe_int) (nomark _)))))) (pss_one (ps_asg (pe_bm PySem.F.plainAttrs_list PySem.F.slot_list_pop PySem.F.type_list_pop mt_popAt (pv 0) (pa_cons (pe_int) (pa_nil))) (pg_sub (pv 0) (pe_int) set_list))) (pss_nil))
 (pss_cons (ps_if (pt_cmpR op_gt (pe_ix ix_list (pv 0) (pe_int) (fun _ _ => rfl)) (pe_int) (nomark _)) (pss_cons (ps_set (i := 2) sc__law_below.nd rfl (Or.inl rfl) (pe_op op_mod (pe_callTy call_int1 (by rfl) tx.b_int boot_int (pa_cons (pe_ix ix_list (pv 0) (pe_int) (fun _ _ => rfl)) (pa_nil))) (pv 1)))
 (pss_cons (ps_asg (pe_op op_fdivW (pe_ix ix_list (pv 0) (pe_int) (fun _ _ => rfl)) (pv 1)) (pg_sub (pv 0) (pe_int) set_list))
 (pss_one (ps_ret (pv 2))))) (pss_nil))
 (pss_cons (ps_asg (pe_op op_mod (pe_callTy call_int1 (by rfl) tx.b_int boot_int (pa_cons (pe_op op_add (pe_op op_mul (pe_ix ix_list (pv 0) (pe_int) (fun _ _ => rfl)) (pe_int)) (pe_int)) (pa_nil))) (pe_int)) (pg_sub (pv 0) (pe_int) set_list))
 (pss_one (ps_ret (pe_op op_mod (pe_callTy call_int1 (by rfl) tx.b_int boot_int (pa_cons (pe_op op_fdiv (pe_ix ix_list (pv 0) (pe_int) (fun _ _ => rfl)) (pe_int)) (pa_nil))) (pv 1)))))), ?_⟩)) fun f F => below_ext F
  · obtain ⟨d, ns, n, rfl, _⟩ := h
    rfl
  · obtain ⟨d, ns, n, rfl, hd, ok, ⟨n0, n1⟩, k⟩ := h
    have lim : n.natAbs.log2 < 9000 := by
      have h : n.natAbs < 2 ^ 64 := by omega
      have := PySem.Flt.log2_lt_of (by decide) h
      omega
    -- from a list that is okD on: the part behind the first if
    have rest : ∀ (ns : List Int), okD ns → ∀ H' : Hp, (∀ ms : List Int, upd H' d (.lst (ms.map V.int)) = upd H d (.lst (ms.map V.int))) → H' d = some (.lst (ns.map V.int)) →
        (tSeq (tIfS (tTest (tOp (rI0 fun i j => .bl (decide (j < i))) (tOp (rIxL K) (tVar 0) (tC (.int 1))) (tC (.int 0))))
          (tSeq (tAsg (tOp (rI (fun _ j => 0 < j) fun i j => .int (i % j)) (tCB (fun xs H Q => (∃ i, xs = [.int i] ∧ Q (.int i) H) ∨ ∃ k, xs = [.bl k] ∧ Q (.int (if k then 1 else 0)) H) (tCons (tOp (rIxL K) (tVar 0) (tC (.int 1))) tNil)) (tVar 1)) (gName 2))
            (tSeq (tAsg (tOp (rI CDivW fun i j => .int (i / j)) (tOp (rIxL K) (tVar 0) (tC (.int 1))) (tVar 1)) (gSub (tVar 0) (tC (.int 1)) rSetL)) (tRet (tVar 2)))) tNext)
          (tSeq (tAsg (tOp (rI (fun _ j => 0 < j) fun i j => .int (i % j)) (tCB (fun xs H Q => (∃ i, xs = [.int i] ∧ Q (.int i) H) ∨ ∃ k, xs = [.bl k] ∧ Q (.int (if k then 1 else 0)) H) (tCons (tOp (rI0 fun i j => .int (i + j)) (tOp (rI CMul fun i j => .int (i * j)) (tOp (rIxL K) (tVar 0) (tC (.int 0))) (tC (.int 48271))) (tC (.int 11))) tNil)) (tC (.int 2147483647))) (gSub (tVar 0) (tC (.int 0)) rSetL))
            (tRet (tOp (rI (fun _ j => 0 < j) fun i j => .int (i % j)) (tCB (fun xs H Q => (∃ i, xs = [.int i] ∧ Q (.int i) H) ∨ ∃ k, xs = [.bl k] ∧ Q (.int (if k then 1 else 0)) H) (tCons (tOp (rI CDiv fun i j => .int (i / j)) (tOp (rIxL K) (tVar 0) (tC (.int 0))) (tC (.int 64))) tNil)) (tVar 1)))))
        { nx := fun _ H' => Q .non H', rt := Q } [some (.ref d), some (.int n), none] H' := by
      intro ns ok H' hU hd
      obtain ⟨s, x, r, rfl, ⟨s0, s1⟩, x0, hr, hl⟩ := ok
      by_cases hx : 0 < x
      · refine ⟨_, rfl, d, _, _, _, rfl, rfl, Evl.sq_of hd, at1, _, _, rfl, rfl, _, rfl, ?_⟩
        refine ifT (decide_eq_true hx) ?_
        refine ⟨_, rfl, d, _, _, _, rfl, rfl, Evl.sq_of hd, at1, .inl ⟨x, rfl, _, rfl, x, n, rfl, rfl, n0, ?_⟩⟩
        refine ⟨_, rfl, d, _, _, _, rfl, rfl, Evl.sq_of hd, at1, _, rfl, x, n, rfl, rfl, ⟨n0, lim⟩, _, rfl, d, _, _, 1, rfl, rfl, hd, ix1, ?_⟩
        refine ⟨_, rfl, ?_⟩
        have := k (x % n) (s :: x / n :: r) (Int.emod_nonneg _ (by omega)) (Int.emod_lt_of_pos _ n0) ⟨s, x / n, r, rfl, ⟨s0, s1⟩, Int.ediv_nonneg x0 (by omega), hr, hl⟩
        rw [← hU] at this
        exact this
      · refine ⟨_, rfl, d, _, _, _, rfl, rfl, Evl.sq_of hd, at1, _, _, rfl, rfl, _, rfl, ?_⟩
        refine ifF (decide_eq_false hx) ?_
        refine ⟨_, rfl, d, _, _, _, rfl, rfl, Evl.sq_of hd, at0, s, _, rfl, rfl, .inr ⟨by decide, by decide⟩, _, _, rfl, rfl, .inl ⟨_, rfl, _, _, rfl, rfl, (show (0 : Int) < 2147483647 by decide), _, rfl, d, _, _, 0, rfl, rfl, hd, ix0, ?_⟩⟩
        refine ⟨_, rfl, d, _, _, _, rfl, rfl, Evl.sq_of upd_same, at0, _, _, rfl, rfl, ⟨by decide, by decide⟩, .inl ⟨_, rfl, _, rfl, _, n, rfl, rfl, n0, ?_⟩⟩
        have := k ((s * 48271 + 11) % 2147483647 / 64 % n) (((s * 48271 + 11) % 2147483647) :: x :: r) (Int.emod_nonneg _ (by omega)) (Int.emod_lt_of_pos _ n0) ⟨_, x, r, rfl, ⟨Int.emod_nonneg _ (by decide), Int.emod_lt_of_pos _ (by decide)⟩, x0, hr, hl⟩
        rw [← hU] at this
        exact this
    obtain ⟨s, x, r, rfl, ⟨s0, s1⟩, x0, hr', hl⟩ := id ok
    refine ⟨_, rfl, d, _, _, .int x, rfl, rfl, Evl.sq_of hd, at1, rfl, _, rfl, ?_⟩
    by_cases hx : x = 0
    · subst hx
      refine ifT (by simp) ?_
      refine ⟨_, rfl, d, _, rfl, .inl (Evl.sq_of hd), _, _, rfl, rfl, _, rfl, ?_⟩
      cases r with
      | nil =>
        refine ifF (by simp) ?_
        exact rest _ ok H (fun _ => rfl) hd
      | cons y r =>
        refine ifT (by simp; omega) ?_
        refine ⟨_, rfl, .inl ⟨rfl, _, Evl.sq_of hd⟩, d, _, 2, 2, .int y, rfl, rfl, hd, by decide, by decide, (ixN_seq (Evl.ixN_nat (j := 2) (by simp))).1, rfl, ?_⟩
        refine ⟨_, rfl, d, _, _, 1, rfl, rfl, upd_same, ix1 (a := s) (c := 0) (r := r), ?_⟩
        refine rest (s :: y :: r) ⟨s, y, r, rfl, ⟨s0, s1⟩, hr' y List.mem_cons_self, fun z hz => hr' z (List.mem_cons_of_mem _ hz), by rw [List.length_cons] at hl; omega⟩ _ (fun ms => by rw [upd_upd, upd_upd]) upd_same
    · refine ifF (by simp [hx]) ?_
      exact rest _ ok H (fun _ => rfl) hd
end
section
variable {P : Program} {w : World} {K : PySem.W.Frag} {mg : Str → Option Value} {base : Heap}
theorem fnp_int {i : Int} : FnP (fun xs H Q => (∃ i, xs = [.int i] ∧ Q (.int i) H) ∨ ∃ k, xs = [.bl k] ∧ Q (.int (if k = true then 1 else 0)) H) [I K i] (I K i) := fnp_int1 fun H Q q => .inl ⟨i, rfl, q⟩
theorem map_int_get {ns : List Int} {i : Nat} {d : PyData} (hd : (ns.map PyData.int)[i]? = some d) : ∃ z, ns[i]? = some z ∧ d = .int z := by
  rw [List.getElem?_map] at hd
  cases e : ns[i]? with
  | none => rw [e] at hd; cases hd
  | some z => rw [e] at hd; exact ⟨z, rfl, (Option.some.inj hd).symm⟩
/-- a comprehension whose items are ints: as G says -/
def GI (K : PySem.W.Frag) (R : Nat → List Int → Prop) (i : Nat) (Ps : List Pr) : Prop := ∃ ms : List Int, Ps = ms.map (fun m => I K m) ∧ R i ms
theorem gi_data {R : Nat → List Int → Prop} {i : Nat} {v : V} {h : Hp} (q : (Pr.some fun Ps : { Ps // GI K R i Ps } => L K Ps.1).p v h) : ∃ ms, R i ms ∧ (D K (dI ms)).p v h := by
  obtain ⟨⟨Ps, ms, rfl, r⟩, q⟩ := q
  refine ⟨ms, r, l_data ?_⟩
  rw [List.map_map]
  exact q
theorem ok_law_random (tx : Tx mg) (d : Dn K mg "_law_random" s__law_random P__law_random) : Fx P w K mg base 1 "_law_random" (spRand K) := by
  refine fx_len (d.fx (N := N__law_random) (sp := spRandL K) sc__law_random (fun vs H Q E h => ?_) (fun f cdv A outer s H vs Q E hr h => ⟨_, pss_cons (ps_set (i := 2) sc__law_random.nd rfl (Or.inl rfl) (pv 1))
 (pss_cons (ps_for PassesOwn.never rfl (pi_list (pv 0)) (pg_name (i := 3) sc__law_random.nd rfl (Or.inl rfl)) (pss_one (ps_set (i := 2) sc__law_random.nd rfl (Or.inl rfl) (pe_op op_mod (pe_callTy call_int1 (by rfl) tx.b_int boot_int (pa_cons (pe_op op_add (pe_op op_mul (pv 2) (pe_int)) (pe_callB call_abs (by rfl) tx.b_abs boot_abs (pa_cons (pv 3) (pa_nil)))) (pa_nil))) (pe_int)))))
 (pss_one (ps_ret (pe_op op_cat (pe_lst (pa_cons (pv 2) (pa_cons (pe_int) (pa_nil)))) (pe_lc (own := [("_law_cell", 3)]) (g := gName 3) rfl sc__law_random.nd (pi_list (pv 0)) (blkOk_by (N := N__law_random) (sc := defScope s__law_random) (by decide +kernel)) (fun _ _ _ _ _ => pg_name (i := 3) sc__law_random.nd rfl (by first | exact Or.inl rfl | exact Or.inr rfl)) (fun _ _ _ _ _ => pts_one (pt_cmpR op_ge (pv 3) (pe_op op_pow (pe_int) (pe_int)) (nomark _))) (fun _ _ _ _ _ => pv 3)))))), ?_⟩)) fun f F => rand_ext F
  · obtain ⟨ns, n, h, e, q, _⟩ := h
    rw [q.len]; rfl
  · obtain ⟨ns, n, h, e, q, hn, hl, k⟩ := h
    have en := en_start (α := Unit) (args := fun _ => [Scr K ns, I K n]) (N := N__law_random) (ps := P__law_random) (a := ()) (fun _ => rfl) q
    revert en
    refine fun en => (?_ : Nx ⟨h, H, h⟩ _ none _) _ h H en ⟨Stp.refl e, fun _ _ q => q⟩ trivial
    refine q_asg (P := I K n) (t_var rfl) ?_
    refine q_seq ?_
    refine n_forLA (γ := { s : Int // 0 ≤ s ∧ s < 2147483647 }) (A := Scr K ns) (fun _ _ => True) (fun _ g => [some (Scr K ns), none, some (I K g.1), none]) (fun _ _ => none) ⟨n, by omega⟩ isL_scr (t_var rfl) trivial (le_same (le_skip (le_same (le_same le_nil)))) ?_ ?_
    · rintro hb i d ⟨s, s0, s1⟩ hd _
      obtain ⟨z, hz, rfl⟩ := map_int_get hd
      refine n_asg (P := I K ((s * 31 + (if z < 0 then -z else z)) % 2147483647)) (t_op (t_cb (ta_cons (t_op (t_op (t_var rfl) t_int (opp_IC (i := s) (j := 31) (.inl ⟨by omega, by omega⟩))) (t_cb (ta_cons (t_var rfl) ta_nil) fnp_abs) opp_I) ta_nil) fnp_int) t_int (opp_IC (by decide))) ?_
      refine n_pv ⟨(s * 31 + (if z < 0 then -z else z)) % 2147483647, Int.emod_nonneg _ (by decide), Int.emod_lt_of_pos _ (by decide)⟩ ?_ ?_ ?_
      · trivial
      · rfl
      · exact le_same (le_skip (le_same (le_skip le_nil)))
    · rintro hb ⟨s, s0, s1⟩ _
      refine n_retR fun σ h1 H1 x1 o1 => ?_
      have t1 : T [some (Scr K ns), none, some (I K s), none] (tLst (tCons (tVar 2) (tCons (tC (.int 0)) tNil))) (D K (dI [s, 0])) := t_lst (ds := [.int s, .int 0]) (ta_cons (t_var rfl) (ta_cons t_int ta_nil)) (by simp)
      refine raw_op t1 (t_lcLA (A := Scr K ns) (ds := ns.map PyData.int) (φ := fun i c => ∃ z, ns[i]? = some z ∧ c = decide ((10 : Int) ^ (18 : Int).toNat ≤ z)) (GI K fun i ms => (∀ y ∈ ms, 0 ≤ y) ∧ ms.length ≤ i) isL_scr (t_var rfl) ?_ ⟨[], rfl, by simp, Nat.le_refl _⟩ ?_ ?_ ?_ ?_) x1 o1.st.i fun u v h3 H3 s3 q1 q2 => ?_
      · rw [List.length_map]; omega
      · rintro i Ps ⟨ms, rfl, _, hm⟩
        rw [List.length_map]; exact hm
      · intro i d hd
        obtain ⟨z, hz, rfl⟩ := map_int_get hd
        exact tb_weak (tb_test (t_op (t_var rfl) (t_op t_int t_int (opp_IC ⟨by decide, by decide, by decide⟩)) opp_B)) fun c h => ⟨z, hz, h⟩
      · rintro i d hd ⟨z', hz', hc⟩ Ps ⟨ms, rfl, hm, hl'⟩
        obtain ⟨z, hz, rfl⟩ := map_int_get hd
        rw [hz'] at hz
        cases hz
        have hz0 : 0 ≤ z' := Int.le_trans (by decide) (of_decide_eq_true hc.symm)
        refine ⟨Unit, fun _ => I K z', t_some () (t_var rfl), fun _ => ⟨ms ++ [z'], by rw [List.map_append]; rfl, fun y hy => ?_, by rw [List.length_append, List.length_singleton]; omega⟩⟩
        rcases List.mem_append.mp hy with q | q
        · exact hm y q
        · rw [List.mem_singleton.mp q]; exact hz0
      · rintro i d hd _ Ps ⟨ms, rfl, hm, hl'⟩
        exact ⟨ms, rfl, hm, by omega⟩
      · obtain ⟨ms, ⟨hm, hl'⟩, q2⟩ := gi_data q2
        rw [List.length_map] at hl'
        obtain ⟨p1, rfl, hp1⟩ := dp_ints q1
        obtain ⟨p2, rfl, hp2⟩ := dp_ints q2
        refine ⟨p1, p2, _, _, rfl, rfl, s3.i _ _ hp1, s3.i _ _ hp2, ?_, fun r nr => ?_⟩
        · rw [List.length_map, List.length_map]
          refine Evl.sz_of ?_
          simp; omega
        · have e3 : Exq H H3 := o1.st.e0.trans s3.e0
          have i3 : Ex h H3 := fun a o z => s3.i a o (s3.s a o (o1.st.s a o z))
          refine k r _ (s :: 0 :: ms) (e3.n r nr) (e3.upd (e3.n r nr) (plo_none nr)) (fun a o z => by rw [upd_ne (ne_of_none (i3 a o z) nr)]; exact i3 a o z) ?_ ⟨s, 0, ms, rfl, ⟨s0, s1⟩, Int.le_refl 0, hm, by omega⟩
          rw [upd_same]
          rfl
end
end Old
abbrev F__law_random : XF := ⟨List Int × Int, 2, fun a => [.scr a.1, .int a.2], fun a => (0 ≤ a.2 ∧ a.2 < 1000000) ∧ a.1.length ≤ 63, fun a w => w = .src, by intros; rfl⟩
abbrev F__law_below : XF := ⟨Int, 2, fun a => [.src, .int a], fun a => 0 < a ∧ a < 18446744073709551616, fun a w => ∃ r, (0 ≤ r ∧ r < a) ∧ w = .int r, by intros; rfl⟩
section
variable {P : Program} {w : World} {K : PySem.W.Frag} {mg : Str → Option Value} {base : Heap} {c : Z.Cl} {f p : Addr}
theorem ok_law_random (tx : Tx mg) (d : Dn K mg "_law_random" s__law_random P__law_random) : Fx P w K mg base 1 "_law_random" (F__law_random.sp K c) :=
  (Old.ok_law_random tx d).imp (xf_of (c := c) (F := F__law_random) (fun a => a) (fun a vs h q => q) (fun a p => p) fun a v h p q => ⟨.src, rfl, q⟩)
theorem ok_law_below (tx : Tx mg) (d : Dn K mg "_law_below" s__law_below P__law_below) : Fx P w K mg base 1 "_law_below" (F__law_below.sp K c) :=
  (Old.ok_law_below tx d).imp (xf_of (c := c) (F := F__law_below) (fun a => a) (fun a vs h q => q) (fun a p => p) fun a v h p q => by
    obtain ⟨r, q⟩ := q
    exact ⟨.int r.1, ⟨r.1, ⟨r.2.1, r.2.2⟩, rfl⟩, q⟩)
end
section
variable {ws : List W} {g : XG} {t : XT} {e : XE} {ρ : Sl} {Q : W → Prop}
/-- a comprehension whose items are drawn -/
theorem comp_ex {α : Type} (en : α → W) (p : α → Prop) (hs : ∀ (i : Nat) (w : W), ws[i]? = some w → g.f w ρ fun ρ' => t.f ρ' fun b => b = true ∧ e.f ρ' fun y => ∃ x, p x ∧ y = en x) (hd : ∀ l : List α, l.length = ws.length → (∀ x ∈ l, p x) → Q (.lst (l.map en))) : CompI ws g t e ρ Q := by
  refine ⟨fun i acc => ∃ l : List α, acc = l.map en ∧ l.length = i ∧ ∀ x ∈ l, p x, ⟨[], rfl, rfl, fun x hx => by cases hx⟩, fun i w acc hw ha => ?_, fun acc ⟨l, e, h1, h2⟩ => by rw [e]; exact hd l h1 h2⟩
  obtain ⟨l, rfl, h1, h2⟩ := ha
  refine g.m (fun ρ' z => t.m (fun b y => ⟨fun hb => e.m (fun v hv => ?_) y.2, fun hb => (by rw [y.1] at hb; cases hb)⟩) z) (hs i w hw)
  obtain ⟨x, hx, rfl⟩ := hv
  exact ⟨l ++ [x], by rw [List.map_append]; rfl, by rw [List.length_append, h1]; rfl, fun y hy => (List.mem_append.mp hy).elim (h2 y) fun z => by rw [List.mem_singleton.mp z]; exact hx⟩
end
/-! ### the law's own rigs: trees -/
section
variable {P : Program} {w : World} {K : PySem.W.Frag} {mg : Str → Option Value} {base : Heap} {c : Z.Cl} {f p : Addr}
end
/-! ### rows and curves of the law's own rigs -/
section
variable {P : Program} {w : World} {K : PySem.W.Frag} {mg : Str → Option Value} {base : Heap} {c : Z.Cl} {f p : Addr}
end
/-! ### the law's trees are drawn; rigs are made of them -/
section
variable {P : Program} {w : World} {K : PySem.W.Frag} {mg : Str → Option Value} {base : Heap} {c : Z.Cl} {f p : Addr}
end
/-! ### the rigs of trees -/
section
variable {P : Program} {w : World} {K : PySem.W.Frag} {mg : Str → Option Value} {base : Heap} {c : Z.Cl} {k : Nat}
theorem sp_le {F F' : XF} (h : ∀ a', F'.pre a' → ∃ a, F.args a = F'.args a' ∧ F.pre a ∧ ∀ w, F.post a w → F'.post a' w) : ∀ vs H Q E, F'.sp K c vs H Q E → F.sp K c vs H Q E := fun vs H Q E ⟨a', hh, e, q, p, kk⟩ => by
  obtain ⟨a, ea, pa, po⟩ := h a' p
  exact ⟨a, hh, e, by show Vs (W.ps K c (F.args a)) vs hh; rw [ea]; exact q, pa, fun v h1 H1 s ⟨w, hw, z⟩ => kk v h1 H1 s ⟨w, po w hw, z⟩⟩
theorem mx_le {C : Addr} {m : Str} {sp sp' : Sp} (c : Mx P w K mg base k C m sp) (h : ∀ vs H Q E, sp' vs H Q E → sp vs H Q E) : Mx P w K mg base k C m sp' := by
  obtain ⟨f, a, b, d, F⟩ := c.ex
  exact ⟨f, a, b, d, fun A outer s H us vs Q E hr e0 r hs => F A outer s H us vs Q E hr e0 r (h _ _ _ _ hs)⟩
end
theorem good_rod {s : Int} (h : 0 ≤ s) : goodT (.rod s) := h
theorem armT_rod {s : Int} (h : 0 ≤ s) : armT (.rod s) = [(s, 1)] := by
  refine fA_ext (armT_nrm _) ⟨List.pairwise_singleton _ _, fun a ha => by rw [List.mem_singleton.mp ha]; exact Int.one_ne_zero⟩ (armT_pos _) (fun k hk => by rw [List.mem_singleton.mp hk]; exact h) fun n => ?_
  rw [armT_fA (good_rod h), fA_cons (by simp) h, (fA_nil n).1]
  show max 0 ((n : Int) - s) = 1 * max 0 ((n : Int) - s) + 0
  omega
abbrev F_rod : XF := ⟨Int, 1, fun a => [.int a], fun a => 0 ≤ a ∧ a ≤ 99, fun a w => w = .rig (armT (.rod a)), by intros; rfl⟩
abbrev F_rcall : XF := ⟨Tr × List Int, 2, fun a => [.rig (armT a.1), .lst (a.2.map .int)], fun a => okT a.1 ∧ a.2.length ≤ 1000 ∧ ∀ x ∈ a.2, isPl x = true, fun a w => w = .lst ((pathT a.1 a.2).map .int), by intros; rfl⟩
section
variable {P : Program} {w : World} {K : PySem.W.Frag} {mg : Str → Option Value} {base : Heap} {c : Z.Cl} {k : Nat}
theorem le_rod : ∀ vs H Q E, F_rod.sp K c vs H Q E → Pf.F_rod.sp K c vs H Q E := sp_le fun a h => ⟨a, rfl, h, fun w e => by
  show w = .rig (armT (.rod a))
  rw [armT_rod h.1]; exact e⟩
theorem le_call : ∀ vs H Q E, F_rcall.sp K c vs H Q E → Pf.F_rcall.sp K c vs H Q E := sp_le fun a h => ⟨(armT a.1, a.2), rfl, ⟨okT_arms h.1, h.2⟩, fun w e => by
  show w = .lst ((pathT a.1 a.2).map .int)
  rw [← armsEs_path h.1.1]; exact e⟩
end
abbrev F__law_row : XF := ⟨Int × Int, 3, fun a => [.src, .int a.1, .int a.2], fun a => (0 ≤ a.1 ∧ a.1 ≤ 1000) ∧ 0 ≤ a.2 ∧ a.2 ≤ 1000000, fun a w => ∃ row : List Int, ((row.length : Int) ≤ a.1 ∧ ∀ x ∈ row, x.natAbs ≤ a.2.natAbs) ∧ w = .lst (row.map .int), by intros; rfl⟩
def x__law_row : XS := .seq (.asg (.name 3) (.op oIx (.lst (.cons (.lit (.int 0)) (.cons (.op oSub (.lit (.int 0)) (.var 2)) (.nil)))) (.call F__law_below (.cons (.var 0) (.cons (.lit (.int 2)) (.nil))))))
 (.ret (.comp (.rng1 (.cons (.call F__law_below (.cons (.var 0) (.cons (.op oAdd (.var 1) (.lit (.int 1))) (.nil)))) (.nil))) (.name 4) .yes (.op oAdd (.var 3) (.call F__law_below (.cons (.var 0) (.cons (.op oAdd (.op oSub (.var 2) (.var 3)) (.lit (.int 1))) (.nil))))) [4]))
section
variable {P : Program} {w : World} {K : PySem.W.Frag} {mg : Str → Option Value} {base : Heap} {c : Z.Cl} {f p : Addr}
theorem ok_law_row (tx : Tx mg) (d : Dn K mg "_law_row" s__law_row P__law_row) (c__law_below : Fx P w K mg base 1 "_law_below" (F__law_below.sp K c)) : Fx P w K mg base 2 "_law_row" (F__law_row.sp K c) := by
  refine d.run (N := N__law_row) (s := x__law_row) sc__law_row rfl ?_ fun f cdv A outer s H E hr => ⟨_, pss_cons (ps_set (i := 3) sc__law_row.nd rfl (Or.inr rfl) (pe_ix ix_lt (pe_lst (pa_cons (pe_int) (pa_cons (pe_op opSub (pe_int) (pv 2)) (pa_nil)))) (pe_f c__law_below hr (by first | exact Nat.le_refl _ | decide | omega) rfl (pa_cons (pv 0) (pa_cons (pe_int) (pa_nil)))) (fun _ _ => rfl)))
 (pss_one (ps_ret (pe_lc (own := [("_law_k", 4)]) (g := gName 4) (tt := tYes) rfl sc__law_row.nd (pi_range1 rfl tx.b_range (pa_cons (pe_f c__law_below hr (by first | exact Nat.le_refl _ | decide | omega) rfl (pa_cons (pv 0) (pa_cons (pe_op opAdd (pv 1) (pe_int)) (pa_nil)))) (pa_nil))) (blkOk_by (N := N__law_row) (sc := defScope s__law_row) (by decide +kernel)) (fun _ _ _ _ _ => pg_name (i := 4) sc__law_row.nd rfl (by first | exact Or.inl rfl | exact Or.inr rfl)) (fun _ _ _ _ _ => pts_nil) (fun _ _ _ _ _ => (by exact pe_op opAdd (pv 3) (pe_f c__law_below hr (by first | exact Nat.le_refl _ | decide | omega) rfl (pa_cons (pv 0) (pa_cons (pe_op opAdd (pe_op opSub (pv 2) (pv 3)) (pe_int)) (pa_nil))))))))),
 es_seq (es_asg (ev_op (ev_lst (ea_cons (ev_int) (ea_cons (ev_op (ev_int) (ev_var) eoSub) (ea_nil)))) (ev_call (ea_cons (ev_var) (ea_cons (ev_int) (ea_nil)))) eoIx) eg_name)
 (es_ret (ev_comp (ei_rng1 (ea_cons (ev_call (ea_cons (ev_var) (ea_cons (ev_op (ev_var) (ev_int) eoAdd) (ea_nil)))) (ea_nil))) (eg_name) et_yes (ev_op (ev_var) (ev_call (ea_cons (ev_var) (ea_cons (ev_op (ev_op (ev_var) (ev_var) eoSub) (ev_int) eoAdd) (ea_nil)))) eoAdd) (by decide)))⟩
  rintro ⟨m, far⟩ Q ⟨⟨m0, m1⟩, f0, f1⟩ k
  have k : ∀ row : List Int, (row.length : Int) ≤ m → (∀ x ∈ row, x.natAbs ≤ far.natAbs) → Q (.lst (row.map .int)) := fun row h1 h2 => k _ ⟨row, ⟨h1, h2⟩, rfl⟩
  simp only at m0 m1 f0 f1
  simp only [XS.whole, ↓runA, ↓runC, ↓runD, ↓runE, ↓runF, ↓runG, ↓runH, ↓runI, ↓runJ, ↓runK, ↓runXL, ↓runXM, ↓runYM, ↓runZM, ↓reduceIte, runB, ite_and, Decidable.not_not, forall_eq, List.map_cons, List.map_nil, List.cons_append, List.nil_append, List.replicate_succ, List.replicate_zero, List.append_nil, List.set_cons_zero, List.set_cons_succ, List.getElem?_cons_zero, List.getElem?_cons_succ, Option.some.injEq, List.cons.injEq, exists_and_left, exists_eq_left', exists_eq_left, exists_false, exists_const, forall_eq', forall_eq, ints_inj, Prod.exists, reduceCtorEq, List.length_cons, List.length_nil, implies_true, forall_const, decide_eq_true_eq, decide_eq_false_iff_not, List.getElem?_nil, List.set_nil, if_true, if_false, ite_true, ite_false, eq_self, Prod.mk.injEq, Co.lst.injEq, Co.dct.injEq, Fr.mk.injEq, exists_eq, exists_eq', exists_eq_right, exists_and_right, Nat.zero_le, Nat.zero_add, Nat.reduceAdd, Nat.reduceLT, Nat.reduceLeDiff, Nat.reduceEqDiff, List.mem_cons, List.not_mem_nil, List.nodup_cons, List.nodup_nil, List.forall_mem_cons, forall_eq_or_imp, List.getD_cons_zero, List.getD_cons_succ, List.mem_singleton, ne_eq, List.append_assoc, runXC, runXD, runXJ, x__law_row]
  (rw [d_seq0]; simp only [XS.whole, ↓runA, ↓runC, ↓runD, ↓runE, ↓runF, ↓runG, ↓runH, ↓runI, ↓runJ, ↓runK, ↓runXL, ↓runXM, ↓runYM, ↓runZM, ↓reduceIte, runB, ite_and, Decidable.not_not, forall_eq, List.map_cons, List.map_nil, List.cons_append, List.nil_append, List.replicate_succ, List.replicate_zero, List.append_nil, List.set_cons_zero, List.set_cons_succ, List.getElem?_cons_zero, List.getElem?_cons_succ, Option.some.injEq, List.cons.injEq, exists_and_left, exists_eq_left', exists_eq_left, exists_false, exists_const, forall_eq', forall_eq, ints_inj, Prod.exists, reduceCtorEq, List.length_cons, List.length_nil, implies_true, forall_const, decide_eq_true_eq, decide_eq_false_iff_not, List.getElem?_nil, List.set_nil, if_true, if_false, ite_true, ite_false, eq_self, Prod.mk.injEq, Co.lst.injEq, Co.dct.injEq, Fr.mk.injEq, exists_eq, exists_eq', exists_eq_right, exists_and_right, Nat.zero_le, Nat.zero_add, Nat.reduceAdd, Nat.reduceLT, Nat.reduceLeDiff, Nat.reduceEqDiff, List.mem_cons, List.not_mem_nil, List.nodup_cons, List.nodup_nil, List.forall_mem_cons, forall_eq_or_imp, List.getD_cons_zero, List.getD_cons_succ, List.mem_singleton, ne_eq, List.append_assoc, runXC, runXD, runXJ])
  refine ⟨by decide, by decide, fun x hx => ?_⟩
  have : x = 0 ∨ x = 1 := by omega
  rcases this with rfl | rfl
  · refine ⟨_, r_at0, ?_⟩
    simp only [XS.whole, ↓runA, ↓runC, ↓runD, ↓runE, ↓runF, ↓runG, ↓runH, ↓runI, ↓runJ, ↓runK, ↓runXL, ↓runXM, ↓runYM, ↓runZM, ↓d_seq0, ↓d_seq1, ↓d2_seq, ↓reduceIte, runB, ite_and, Decidable.not_not, forall_eq, List.map_cons, List.map_nil, List.cons_append, List.nil_append, List.replicate_succ, List.replicate_zero, List.append_nil, List.set_cons_zero, List.set_cons_succ, List.getElem?_cons_zero, List.getElem?_cons_succ, Option.some.injEq, List.cons.injEq, exists_and_left, exists_eq_left', exists_eq_left, exists_false, exists_const, forall_eq', forall_eq, ints_inj, Prod.exists, reduceCtorEq, List.length_cons, List.length_nil, implies_true, forall_const, decide_eq_true_eq, decide_eq_false_iff_not, List.getElem?_nil, List.set_nil, if_true, if_false, ite_true, ite_false, eq_self, Prod.mk.injEq, Co.lst.injEq, Co.dct.injEq, Fr.mk.injEq, exists_eq, exists_eq', exists_eq_right, exists_and_right, Nat.zero_le, Nat.zero_add, Nat.reduceAdd, Nat.reduceLT, Nat.reduceLeDiff, Nat.reduceEqDiff, List.mem_cons, List.not_mem_nil, List.nodup_cons, List.nodup_nil, List.forall_mem_cons, forall_eq_or_imp, List.getD_cons_zero, List.getD_cons_succ, List.mem_singleton, ne_eq, List.append_assoc, runXC, runXD, runXJ]
    refine ⟨by omega, by omega, fun n hn => ⟨by omega, by omega, by rw [rgW_len]; omega, ?_⟩⟩
    refine comp_ex W.int (fun y => y.natAbs ≤ far.natAbs) (fun i w hw => ?_) fun l h1 h2 => k l (by rw [h1, rgW_len]; omega) h2
    simp only [XS.whole, ↓runA, ↓runC, ↓runD, ↓runE, ↓runF, ↓runG, ↓runH, ↓runI, ↓runJ, ↓runK, ↓runXL, ↓runXM, ↓runYM, ↓runZM, ↓d_seq0, ↓d_seq1, ↓d2_seq, ↓reduceIte, runB, ite_and, Decidable.not_not, forall_eq, List.map_cons, List.map_nil, List.cons_append, List.nil_append, List.replicate_succ, List.replicate_zero, List.append_nil, List.set_cons_zero, List.set_cons_succ, List.getElem?_cons_zero, List.getElem?_cons_succ, Option.some.injEq, List.cons.injEq, exists_and_left, exists_eq_left', exists_eq_left, exists_false, exists_const, forall_eq', forall_eq, ints_inj, Prod.exists, reduceCtorEq, List.length_cons, List.length_nil, implies_true, forall_const, decide_eq_true_eq, decide_eq_false_iff_not, List.getElem?_nil, List.set_nil, if_true, if_false, ite_true, ite_false, eq_self, Prod.mk.injEq, Co.lst.injEq, Co.dct.injEq, Fr.mk.injEq, exists_eq, exists_eq', exists_eq_right, exists_and_right, Nat.zero_le, Nat.zero_add, Nat.reduceAdd, Nat.reduceLT, Nat.reduceLeDiff, Nat.reduceEqDiff, List.mem_cons, List.not_mem_nil, List.nodup_cons, List.nodup_nil, List.forall_mem_cons, forall_eq_or_imp, List.getD_cons_zero, List.getD_cons_succ, List.mem_singleton, ne_eq, List.append_assoc, runXC, runXD, runXJ]
    exact ⟨by omega, by omega, fun y hy => ⟨_, by omega, rfl⟩⟩
  · refine ⟨_, r_at1, ?_⟩
    simp only [XS.whole, ↓runA, ↓runC, ↓runD, ↓runE, ↓runF, ↓runG, ↓runH, ↓runI, ↓runJ, ↓runK, ↓runXL, ↓runXM, ↓runYM, ↓runZM, ↓d_seq0, ↓d_seq1, ↓d2_seq, ↓reduceIte, runB, ite_and, Decidable.not_not, forall_eq, List.map_cons, List.map_nil, List.cons_append, List.nil_append, List.replicate_succ, List.replicate_zero, List.append_nil, List.set_cons_zero, List.set_cons_succ, List.getElem?_cons_zero, List.getElem?_cons_succ, Option.some.injEq, List.cons.injEq, exists_and_left, exists_eq_left', exists_eq_left, exists_false, exists_const, forall_eq', forall_eq, ints_inj, Prod.exists, reduceCtorEq, List.length_cons, List.length_nil, implies_true, forall_const, decide_eq_true_eq, decide_eq_false_iff_not, List.getElem?_nil, List.set_nil, if_true, if_false, ite_true, ite_false, eq_self, Prod.mk.injEq, Co.lst.injEq, Co.dct.injEq, Fr.mk.injEq, exists_eq, exists_eq', exists_eq_right, exists_and_right, Nat.zero_le, Nat.zero_add, Nat.reduceAdd, Nat.reduceLT, Nat.reduceLeDiff, Nat.reduceEqDiff, List.mem_cons, List.not_mem_nil, List.nodup_cons, List.nodup_nil, List.forall_mem_cons, forall_eq_or_imp, List.getD_cons_zero, List.getD_cons_succ, List.mem_singleton, ne_eq, List.append_assoc, runXC, runXD, runXJ]
    refine ⟨by omega, by omega, fun n hn => ⟨by omega, by omega, by rw [rgW_len]; omega, ?_⟩⟩
    refine comp_ex W.int (fun y => y.natAbs ≤ far.natAbs) (fun i w hw => ?_) fun l h1 h2 => k l (by rw [h1, rgW_len]; omega) h2
    simp only [XS.whole, ↓runA, ↓runC, ↓runD, ↓runE, ↓runF, ↓runG, ↓runH, ↓runI, ↓runJ, ↓runK, ↓runXL, ↓runXM, ↓runYM, ↓runZM, ↓d_seq0, ↓d_seq1, ↓d2_seq, ↓reduceIte, runB, ite_and, Decidable.not_not, forall_eq, List.map_cons, List.map_nil, List.cons_append, List.nil_append, List.replicate_succ, List.replicate_zero, List.append_nil, List.set_cons_zero, List.set_cons_succ, List.getElem?_cons_zero, List.getElem?_cons_succ, Option.some.injEq, List.cons.injEq, exists_and_left, exists_eq_left', exists_eq_left, exists_false, exists_const, forall_eq', forall_eq, ints_inj, Prod.exists, reduceCtorEq, List.length_cons, List.length_nil, implies_true, forall_const, decide_eq_true_eq, decide_eq_false_iff_not, List.getElem?_nil, List.set_nil, if_true, if_false, ite_true, ite_false, eq_self, Prod.mk.injEq, Co.lst.injEq, Co.dct.injEq, Fr.mk.injEq, exists_eq, exists_eq', exists_eq_right, exists_and_right, Nat.zero_le, Nat.zero_add, Nat.reduceAdd, Nat.reduceLT, Nat.reduceLeDiff, Nat.reduceEqDiff, List.mem_cons, List.not_mem_nil, List.nodup_cons, List.nodup_nil, List.forall_mem_cons, forall_eq_or_imp, List.getD_cons_zero, List.getD_cons_succ, List.mem_singleton, ne_eq, List.append_assoc, runXC, runXD, runXJ]
    exact ⟨by omega, by omega, fun y hy => ⟨_, by omega, rfl⟩⟩
end
/-! ### arms by the law's own curves -/
section
variable {P : Program} {w : World} {K : PySem.W.Frag} {mg : Str → Option Value} {base : Heap} {c : Z.Cl} {f p : Addr}
end
def xh__law_error_of (ad : Addr) (d : Option Addr) (n : Str) : XS := .seq (.asg (.name 2) (.lst (.cons (.isV ad d n 1 "InvalidSlack") (.cons (.isV ad d n 1 "InvalidTimes") (.cons (.isV ad d n 1 "NotForward") (.nil))))))
 (.seq (.asg (.name 2) (.op oAdd (.var 2) (.lst (.cons (.isV ad d n 1 "TooGreat") (.cons (.isV ad d n 1 "InvalidPlace") (.cons (.isV ad d n 1 "InvalidCount") (.nil)))))))
 (.seq (.asg (.name 2) (.op oAdd (.var 2) (.lst (.cons (.isV ad d n 1 "InvalidRange") (.cons (.isV ad d n 1 "OutOfBound") (.cons (.isV ad d n 1 "Contradiction") (.nil)))))))
 (.seq (.asg (.name 2) (.op oAdd (.var 2) (.lst (.cons (.isV ad d n 1 "InvalidName") (.cons (.isV ad d n 1 "UnknownName") (.cons (.isV ad d n 1 "InvalidPanel") (.nil)))))))
 (.seq (.asg (.name 2) (.op oAdd (.var 2) (.lst (.cons (.isV ad d n 1 "UnlikeRigs") (.cons (.isV ad d n 1 "InvalidRow") (.cons (.isV ad d n 1 "InvalidEnds") (.nil)))))))
 (.seq (.asg (.name 2) (.op oAdd (.var 2) (.lst (.cons (.isV ad d n 1 "InvalidMemory") (.cons (.isV ad d n 1 "InvalidOperation") (.nil))))))
 (.seq (.asg (.name 2) (.op oAdd (.var 2) (.lst (.cons (.isV ad d n 1 "InvalidRecording") (.cons (.isV ad d n 1 "NotationError") (.cons (.isV ad d n 1 "DecodeError") (.nil)))))))
 (.seq (.ifs (.or (.val (.op (.eqS true) (.cntT (.var 2) (.lit (.bl true))) (.lit (.int 1)))) (.not (.val (.isVE ad d n 1)))) (.ret (.tup (.cons (.lit (.str "other")) (.cons (.lit (.int 0)) (.nil))))) (.next))
 (.seq (.asg (.name 3) (.lit (.str "slack times forward great place count range bound contradiction name unknown panel unlike")))
 (.seq (.asg (.name 3) (.op .catS (.var 3) (.lit (.str " row ends memory operation recording notation decode"))))
 (.seq (.asg (.name 4) (.op oIx (.spl (.var 3) (.lit (.str " "))) (.ixT (.var 2) (.lit (.bl true)))))
 (.seq (.ifs (.val (.op (.inS false) (.var 4) (.lst (.cons (.lit (.str "row")) (.cons (.lit (.str "ends")) (.cons (.lit (.str "memory")) (.cons (.lit (.str "operation")) (.cons (.lit (.str "recording")) (.cons (.lit (.str "notation")) (.nil)))))))))) (.ret (.tup (.cons (.var 4) (.cons (.xfv ad d n 1 "index") (.nil))))) (.next))
 (.ret (.tup (.cons (.var 4) (.cons (.ite (.val (.op (.eqS false) (.var 4) (.lit (.str "decode")))) (.xfv ad d n 1 "offset") (.lit (.int 0))) (.nil))))))))))))))))
section
variable {P : Program} {w : World} {K : PySem.W.Frag} {mg : Str → Option Value} {base : Heap} {c : Z.Cl} {f p : Addr}
theorem run_err {n : Str} {i : Option Int} {ad : Addr} {d : Option Addr} {Q : W → Prop} (hk : okErr n i) (k : Q (told n i)) :
    (xh__law_error_of ad d n).f ⟨(List.replicate N__law_error_of.length none).set 1 (some (.exv ad d n i)), none⟩ ⟨fun _ => False, Q, fun _ => False, fun _ => False⟩ := by
  show (xh__law_error_of ad d n).f ⟨[none, some (.exv ad d n i), none, none, none], none⟩ _
  simp only [XS.whole, ↓runA, ↓runC, ↓runD, ↓runE, ↓runF, ↓runG, ↓runH, ↓runI, ↓runJ, ↓runK, ↓runXL, ↓runXM, ↓runYM, ↓runZM, ↓d_seq0, ↓d_seq1, ↓d2_seq, ↓reduceIte, runB, ite_and, Decidable.not_not, forall_eq, List.map_cons, List.map_nil, List.cons_append, List.nil_append, List.replicate_succ, List.replicate_zero, List.append_nil, List.set_cons_zero, List.set_cons_succ, List.getElem?_cons_zero, List.getElem?_cons_succ, Option.some.injEq, List.cons.injEq, exists_and_left, exists_eq_left', exists_eq_left, exists_false, exists_const, forall_eq', forall_eq, ints_inj, Prod.exists, reduceCtorEq, List.length_cons, List.length_nil, implies_true, forall_const, decide_eq_true_eq, decide_eq_false_iff_not, List.getElem?_nil, List.set_nil, if_true, if_false, ite_true, ite_false, eq_self, Prod.mk.injEq, Co.lst.injEq, Co.dct.injEq, Fr.mk.injEq, exists_eq, exists_eq', exists_eq_right, exists_and_right, Nat.zero_le, Nat.zero_add, Nat.reduceAdd, Nat.reduceLT, Nat.reduceLeDiff, Nat.reduceEqDiff, List.mem_cons, List.not_mem_nil, List.nodup_cons, List.nodup_nil, List.forall_mem_cons, forall_eq_or_imp, List.getD_cons_zero, List.getD_cons_succ, List.mem_singleton, ne_eq, List.append_assoc, runXC, runXD, runXJ, xh__law_error_of]
  simp only [runEm, W.exv.injEq, true_and, and_true, exists_eq', eL_eq, eL_all]
  have hn := hk.mem
  have t : Q (.tup [.str (tagOf n), .int (i.getD 0)]) := k
  have c1 := eL_cnt n hn
  have c2 := eL_lt n hn
  have c3 := eL_ix n hn
  refine ⟨fun h => absurd (by rw [c1]; rfl) h, fun _ => ?_⟩
  refine ⟨by decide +kernel, ?_⟩
  rw [eL_text]
  refine ⟨by decide +kernel, by decide +kernel, c2, .str (tagOf n), atI_map (atI_get c3), tagOf n, rfl, [PySem.Str.ofString "row", PySem.Str.ofString "ends", PySem.Str.ofString "memory", PySem.Str.ofString "operation", PySem.Str.ofString "recording", PySem.Str.ofString "notation"], rfl, fun h => ?_, fun h => .inr (.inl ⟨tagOf n, rfl, fun h2 => ?_, fun h2 => ?_⟩)⟩
  · have h := (er_tag n hn).mp h
    rcases hk with ⟨h1, _⟩ | ⟨_, x, rfl⟩ | ⟨rfl, _⟩
    · exact absurd h (er_plain n h1).2.1
    · exact ⟨(er_six n h).2, x, rfl, t⟩
    · exact absurd h er_last.2.1
  · have h2 := (er_dec n hn).mp h2
    rcases hk with ⟨h1, _⟩ | ⟨h1, _⟩ | ⟨_, x, rfl⟩
    · exact absurd h2 (er_plain n h1).2.2
    · exact absurd ((er_tag n hn).mpr h1) h
    · exact ⟨by rw [h2]; exact er_last.2.2, x, rfl, t⟩
  · rcases hk with ⟨h1, rfl⟩ | ⟨h1, _⟩ | ⟨h1, _⟩
    · exact t
    · exact absurd ((er_tag n hn).mpr h1) h
    · exact absurd ((er_dec n hn).mpr h1) h2
theorem ok_err (tx : Tx mg) (xg : XgC mg c) {φ : Str → Option Int → Prop} (hφ : ∀ n i, φ n i → XnC K c n ∧ okErr n i) (d : Dn K mg "_law_error_of" s__law_error_of P__law_error_of) : ErrK P w K mg base c φ "_law_error_of" := by
  refine ⟨s__law_error_of, N__law_error_of, "_law_call", d, sc__law_error_of, rfl, .inl (by decide +kernel), by decide, by decide, fun X e1 e2 e3 e4 e5 g cdv => ?_⟩
  subst e1 e2 e3 e4 e5
  refine gives_err (j := 1) (en := "_law_e") (ts := fun n ad d => _) (xs := fun n ad d => xh__law_error_of ad d n) rfl (fun n i h => (hφ n i h).1) (by decide +kernel) (xg "RodError" (.inr rfl)) sc__law_error_of.nd rfl (by decide +kernel) (fun f => rfl) (fun X' => pe_non)
    (fun s H n ad oe d pn xn hz hv => have xn : XnC (cxOf C8.CX0 X.prog X.w X.K X.mg X.base N__law_error_of "_law_error_of" (defScope s__law_error_of) g cdv X.A X.stack s H C8.E0).nox.K c n := xn; pss_cons (ps_set (i := 2) sc__law_error_of.nd rfl (Or.inl rfl) (pe_lst (pa_cons (pe_callB (call_isX xn.ex hz hv) (by rfl) tx.b_isinstance boot_isinstance (pa_cons (pv 1) (pa_cons (pe_cls rfl (xg "InvalidSlack" (.inl (by decide)))) pa_nil))) (pa_cons (pe_callB (call_isX xn.ex hz hv) (by rfl) tx.b_isinstance boot_isinstance (pa_cons (pv 1) (pa_cons (pe_cls rfl (xg "InvalidTimes" (.inl (by decide)))) pa_nil))) (pa_cons (pe_callB (call_isX xn.ex hz hv) (by rfl) tx.b_isinstance boot_isinstance (pa_cons (pv 1) (pa_cons (pe_cls rfl (xg "NotForward" (.inl (by decide)))) pa_nil))) (pa_nil))))))
 (pss_cons (ps_set (i := 2) sc__law_error_of.nd rfl (Or.inl rfl) (pe_op opAdd (pv 2) (pe_lst (pa_cons (pe_callB (call_isX xn.ex hz hv) (by rfl) tx.b_isinstance boot_isinstance (pa_cons (pv 1) (pa_cons (pe_cls rfl (xg "TooGreat" (.inl (by decide)))) pa_nil))) (pa_cons (pe_callB (call_isX xn.ex hz hv) (by rfl) tx.b_isinstance boot_isinstance (pa_cons (pv 1) (pa_cons (pe_cls rfl (xg "InvalidPlace" (.inl (by decide)))) pa_nil))) (pa_cons (pe_callB (call_isX xn.ex hz hv) (by rfl) tx.b_isinstance boot_isinstance (pa_cons (pv 1) (pa_cons (pe_cls rfl (xg "InvalidCount" (.inl (by decide)))) pa_nil))) (pa_nil)))))))
 (pss_cons (ps_set (i := 2) sc__law_error_of.nd rfl (Or.inl rfl) (pe_op opAdd (pv 2) (pe_lst (pa_cons (pe_callB (call_isX xn.ex hz hv) (by rfl) tx.b_isinstance boot_isinstance (pa_cons (pv 1) (pa_cons (pe_cls rfl (xg "InvalidRange" (.inl (by decide)))) pa_nil))) (pa_cons (pe_callB (call_isX xn.ex hz hv) (by rfl) tx.b_isinstance boot_isinstance (pa_cons (pv 1) (pa_cons (pe_cls rfl (xg "OutOfBound" (.inl (by decide)))) pa_nil))) (pa_cons (pe_callB (call_isX xn.ex hz hv) (by rfl) tx.b_isinstance boot_isinstance (pa_cons (pv 1) (pa_cons (pe_cls rfl (xg "Contradiction" (.inl (by decide)))) pa_nil))) (pa_nil)))))))
 (pss_cons (ps_set (i := 2) sc__law_error_of.nd rfl (Or.inl rfl) (pe_op opAdd (pv 2) (pe_lst (pa_cons (pe_callB (call_isX xn.ex hz hv) (by rfl) tx.b_isinstance boot_isinstance (pa_cons (pv 1) (pa_cons (pe_cls rfl (xg "InvalidName" (.inl (by decide)))) pa_nil))) (pa_cons (pe_callB (call_isX xn.ex hz hv) (by rfl) tx.b_isinstance boot_isinstance (pa_cons (pv 1) (pa_cons (pe_cls rfl (xg "UnknownName" (.inl (by decide)))) pa_nil))) (pa_cons (pe_callB (call_isX xn.ex hz hv) (by rfl) tx.b_isinstance boot_isinstance (pa_cons (pv 1) (pa_cons (pe_cls rfl (xg "InvalidPanel" (.inl (by decide)))) pa_nil))) (pa_nil)))))))
 (pss_cons (ps_set (i := 2) sc__law_error_of.nd rfl (Or.inl rfl) (pe_op opAdd (pv 2) (pe_lst (pa_cons (pe_callB (call_isX xn.ex hz hv) (by rfl) tx.b_isinstance boot_isinstance (pa_cons (pv 1) (pa_cons (pe_cls rfl (xg "UnlikeRigs" (.inl (by decide)))) pa_nil))) (pa_cons (pe_callB (call_isX xn.ex hz hv) (by rfl) tx.b_isinstance boot_isinstance (pa_cons (pv 1) (pa_cons (pe_cls rfl (xg "InvalidRow" (.inl (by decide)))) pa_nil))) (pa_cons (pe_callB (call_isX xn.ex hz hv) (by rfl) tx.b_isinstance boot_isinstance (pa_cons (pv 1) (pa_cons (pe_cls rfl (xg "InvalidEnds" (.inl (by decide)))) pa_nil))) (pa_nil)))))))
 (pss_cons (ps_set (i := 2) sc__law_error_of.nd rfl (Or.inl rfl) (pe_op opAdd (pv 2) (pe_lst (pa_cons (pe_callB (call_isX xn.ex hz hv) (by rfl) tx.b_isinstance boot_isinstance (pa_cons (pv 1) (pa_cons (pe_cls rfl (xg "InvalidMemory" (.inl (by decide)))) pa_nil))) (pa_cons (pe_callB (call_isX xn.ex hz hv) (by rfl) tx.b_isinstance boot_isinstance (pa_cons (pv 1) (pa_cons (pe_cls rfl (xg "InvalidOperation" (.inl (by decide)))) pa_nil))) (pa_nil))))))
 (pss_cons (ps_set (i := 2) sc__law_error_of.nd rfl (Or.inl rfl) (pe_op opAdd (pv 2) (pe_lst (pa_cons (pe_callB (call_isX xn.ex hz hv) (by rfl) tx.b_isinstance boot_isinstance (pa_cons (pv 1) (pa_cons (pe_cls rfl (xg "InvalidRecording" (.inl (by decide)))) pa_nil))) (pa_cons (pe_callB (call_isX xn.ex hz hv) (by rfl) tx.b_isinstance boot_isinstance (pa_cons (pv 1) (pa_cons (pe_cls rfl (xg "NotationError" (.inl (by decide)))) pa_nil))) (pa_cons (pe_callB (call_isX xn.ex hz hv) (by rfl) tx.b_isinstance boot_isinstance (pa_cons (pv 1) (pa_cons (pe_cls rfl (xg "DecodeError" (.inl (by decide)))) pa_nil))) (pa_nil)))))))
 (pss_cons (ps_if ((PW.pt (pw_or (pt_cmpR op_ne (pe_bm PySem.F.plainAttrs_list PySem.F.slot_list_count PySem.F.type_list_count mt_lcountF (pv 2) (pa_cons (pe_bl) pa_nil)) (pe_int) (nomark _)) (pw_or1 (pt_not (pt_val (pe_callB (call_isX xn.ex hz hv) (by rfl) tx.b_isinstance boot_isinstance (pa_cons (pv 1) (pa_cons (pe_bltn (v := .ty "ValueError") (by rfl) tx.b_ValueError boot_ValueError rfl) pa_nil))))))))) (pss_one (ps_ret (pe_tup (pa_cons (pe_str) (pa_cons (pe_int) (pa_nil)))))) (pss_nil))
 (pss_cons (ps_set (i := 3) sc__law_error_of.nd rfl (Or.inl rfl) (pe_str))
 (pss_cons (ps_set (i := 3) sc__law_error_of.nd rfl (Or.inl rfl) (pe_op op_add_str (pv 3) (pe_str)))
 (pss_cons (ps_set (i := 4) sc__law_error_of.nd rfl (Or.inl rfl) (pe_ix ix_lt (pe_bm PySem.F.plainAttrs_str PySem.F.slot_str_split PySem.F.type_str_split mt_split (pv 3) (pa_cons (pe_str) pa_nil)) (pe_bm PySem.F.plainAttrs_list PySem.F.slot_list_index PySem.F.type_list_index mt_index (pv 2) (pa_cons (pe_bl) pa_nil)) (fun _ _ => rfl)))
 (pss_cons (ps_if (pt_cmpR op_in_seq (pv 4) (pe_lst (pa_cons (pe_str) (pa_cons (pe_str) (pa_cons (pe_str) (pa_cons (pe_str) (pa_cons (pe_str) (pa_cons (pe_str) (pa_nil)))))))) (by rfl)) (pss_one (ps_ret (pe_tup (pa_cons (pv 4) (pa_cons (pe_xfv xn hz hv (pv 1)) (pa_nil)))))) (pss_nil))
 (pss_one (ps_ret (pe_tup (pa_cons (pv 4) (pa_cons (pe_ifExp (pt_cmpR op_eq (pv 4) (pe_str) (nomark _)) (pe_xfv xn hz hv (pv 1)) (pe_int)) (pa_nil)))))))))))))))))) (fun n ad d xn => es_seq (es_asg (ev_lst (ea_cons (ev_isV xn) (ea_cons (ev_isV xn) (ea_cons (ev_isV xn) (ea_nil))))) eg_name)
 (es_seq (es_asg (ev_op (ev_var) (ev_lst (ea_cons (ev_isV xn) (ea_cons (ev_isV xn) (ea_cons (ev_isV xn) (ea_nil))))) eoAdd) eg_name)
 (es_seq (es_asg (ev_op (ev_var) (ev_lst (ea_cons (ev_isV xn) (ea_cons (ev_isV xn) (ea_cons (ev_isV xn) (ea_nil))))) eoAdd) eg_name)
 (es_seq (es_asg (ev_op (ev_var) (ev_lst (ea_cons (ev_isV xn) (ea_cons (ev_isV xn) (ea_cons (ev_isV xn) (ea_nil))))) eoAdd) eg_name)
 (es_seq (es_asg (ev_op (ev_var) (ev_lst (ea_cons (ev_isV xn) (ea_cons (ev_isV xn) (ea_cons (ev_isV xn) (ea_nil))))) eoAdd) eg_name)
 (es_seq (es_asg (ev_op (ev_var) (ev_lst (ea_cons (ev_isV xn) (ea_cons (ev_isV xn) (ea_nil)))) eoAdd) eg_name)
 (es_seq (es_asg (ev_op (ev_var) (ev_lst (ea_cons (ev_isV xn) (ea_cons (ev_isV xn) (ea_cons (ev_isV xn) (ea_nil))))) eoAdd) eg_name)
 (es_seq (es_if (et_or (et_test (ev_op (ev_cntT (ev_var) (ev_bl)) (ev_int) eo_neS)) (et_not (et_b (ev_isVE xn)))) (es_ret (ev_tup (ea_cons (ev_str) (ea_cons (ev_int) (ea_nil))))) (es_next))
 (es_seq (es_asg (ev_str) eg_name)
 (es_seq (es_asg (ev_op (ev_var) (ev_str) eo_catS) eg_name)
 (es_seq (es_asg (ev_op (ev_spl (ev_var) (ev_str)) (ev_ixT (ev_var) (ev_bl)) eoIx) eg_name)
 (es_seq (es_if (et_test (ev_op (ev_var) (ev_lst (ea_cons (ev_str) (ea_cons (ev_str) (ea_cons (ev_str) (ea_cons (ev_str) (ea_cons (ev_str) (ea_cons (ev_str) (ea_nil)))))))) eo_inS)) (es_ret (ev_tup (ea_cons (ev_var) (ea_cons (ev_xfv) (ea_nil))))) (es_next))
 (es_ret (ev_tup (ea_cons (ev_var) (ea_cons (ev_ite (et_test (ev_op (ev_var) (ev_str) eo_eqS)) (ev_xfv) (ev_int)) (ea_nil))))))))))))))))) (fun n i ad d Q h xn k => run_err (hφ n i h).2 k)
end
/-! ### a list of closures, all of which raise the same -/
def x_allr (P : Program) (w : World) (K : PySem.W.Frag) (mg : Str → Option Value) (base : Heap) (c : Z.Cl) (φ : Str → Option Int → Prop) : XS := .ret (.op oEq (.comp (.seq (.var 0)) (.name 2) (.val (.op oNe (.call (F_errC P w K mg base c 12 φ) (.cons (.var 2) (.nil))) (.var 1))) (.var 2) [2]) (.lst (.nil)))
section
variable {P : Program} {w : World} {K : PySem.W.Frag} {mg : Str → Option Value} {base : Heap} {c : Z.Cl} {f p : Addr}
theorem ok_all_raise {φ : Str → Option Int → Prop} (hp : ∀ n i, φ n i → Pl 60 (told n i)) (d : Dn K mg "_law_all_raise" s__law_all_raise P__law_all_raise) (c__law_error_of : Fx P w K mg base 14 "_law_error_of" ((F_errC P w K mg base c 12 φ).sp K c)) : Fx P w K mg base 15 "_law_all_raise" ((F_allR P w K mg base c 12 φ).sp K c) := by
  refine d.run (N := N__law_all_raise) (s := x_allr P w K mg base c φ) sc__law_all_raise rfl ?_ fun f cdv A outer s H E hr => ⟨_, pss_one (ps_ret (pe_cmpR (opEq hr.units) (pe_lc (own := [("_law_call", 2)]) (g := gName 2) rfl sc__law_all_raise.nd (pi_seq (pv 0)) (blkOk_by (N := N__law_all_raise) (sc := defScope s__law_all_raise) (by decide +kernel)) (fun _ _ _ _ _ => pg_name (i := 2) sc__law_all_raise.nd rfl (by first | exact Or.inl rfl | exact Or.inr rfl)) (fun _ _ _ _ _ => pts_one (pt_cmpR (opNe hr.units) (pe_f c__law_error_of hr (by first | exact Nat.le_refl _ | decide | omega) rfl (pa_cons (pv 2) (pa_nil))) (pv 1) (nomark _))) (fun _ _ _ _ _ => (by exact pv 2))) (pe_lst (pa_nil)) (nomark _))),
 es_ret (ev_op (ev_comp (ei_seq (ev_var)) (eg_name) (et_test (ev_op (ev_call (ea_cons (ev_var) (ea_nil))) (ev_var) eoNe)) (ev_var) (by decide)) (ev_lst (ea_nil)) eoEq)⟩
  rintro ⟨y, n⟩ Q ⟨py, hn⟩ k
  have k : Q (.bl true) := k _ rfl
  have hn : n ≤ 1000 := hn
  simp only [XS.whole, ↓runA, ↓runC, ↓runD, ↓runE, ↓runF, ↓runG, ↓runH, ↓runI, ↓runJ, ↓runK, ↓runXL, ↓runXM, ↓runYM, ↓runZM, ↓reduceIte, runB, ite_and, Decidable.not_not, forall_eq, List.map_cons, List.map_nil, List.cons_append, List.nil_append, List.replicate_succ, List.replicate_zero, List.append_nil, List.set_cons_zero, List.set_cons_succ, List.getElem?_cons_zero, List.getElem?_cons_succ, Option.some.injEq, List.cons.injEq, exists_and_left, exists_eq_left', exists_eq_left, exists_false, exists_const, forall_eq', forall_eq, ints_inj, Prod.exists, reduceCtorEq, List.length_cons, List.length_nil, implies_true, forall_const, decide_eq_true_eq, decide_eq_false_iff_not, List.getElem?_nil, List.set_nil, if_true, if_false, ite_true, ite_false, eq_self, Prod.mk.injEq, Co.lst.injEq, Co.dct.injEq, Fr.mk.injEq, exists_eq, exists_eq', exists_eq_right, exists_and_right, Nat.zero_le, Nat.zero_add, Nat.reduceAdd, Nat.reduceLT, Nat.reduceLeDiff, Nat.reduceEqDiff, List.mem_cons, List.not_mem_nil, List.nodup_cons, List.nodup_nil, List.forall_mem_cons, forall_eq_or_imp, List.getD_cons_zero, List.getD_cons_succ, List.mem_singleton, ne_eq, List.append_assoc, runXC, runXD, runXJ, x_allr]
  refine ⟨by rw [List.length_replicate]; omega, ?_⟩
  refine comp_flt (fun _ => false) (fun _ => W.non) (fun i u hu => ?_) ?_
  · rw [List.getElem?_replicate] at hu
    have hu : u = .pr (raisS P w K mg base c 12 fun n i => φ n i ∧ told n i = y) := by
      split at hu
      · cases hu; rfl
      · cases hu
    subst hu
    simp only [XS.whole, ↓runA, ↓runC, ↓runD, ↓runE, ↓runF, ↓runG, ↓runH, ↓runI, ↓runJ, ↓runK, ↓runXL, ↓runXM, ↓runYM, ↓runZM, ↓d_seq0, ↓d_seq1, ↓d2_seq, ↓reduceIte, runB, ite_and, Decidable.not_not, forall_eq, List.map_cons, List.map_nil, List.cons_append, List.nil_append, List.replicate_succ, List.replicate_zero, List.append_nil, List.set_cons_zero, List.set_cons_succ, List.getElem?_cons_zero, List.getElem?_cons_succ, Option.some.injEq, List.cons.injEq, exists_and_left, exists_eq_left', exists_eq_left, exists_false, exists_const, forall_eq', forall_eq, ints_inj, Prod.exists, reduceCtorEq, List.length_cons, List.length_nil, implies_true, forall_const, decide_eq_true_eq, decide_eq_false_iff_not, List.getElem?_nil, List.set_nil, if_true, if_false, ite_true, ite_false, eq_self, Prod.mk.injEq, Co.lst.injEq, Co.dct.injEq, Fr.mk.injEq, exists_eq, exists_eq', exists_eq_right, exists_and_right, Nat.zero_le, Nat.zero_add, Nat.reduceAdd, Nat.reduceLT, Nat.reduceLeDiff, Nat.reduceEqDiff, List.mem_cons, List.not_mem_nil, List.nodup_cons, List.nodup_nil, List.forall_mem_cons, forall_eq_or_imp, List.getD_cons_zero, List.getD_cons_succ, List.mem_singleton, ne_eq, List.append_assoc, runXC, runXD, runXJ]
    refine ⟨_, rfl, fun n i z => z.1, ?_⟩
    rintro _ ⟨n, i, ⟨h1, h2⟩, rfl⟩
    subst h2
    have pt := hp n i h1
    have e : told n i = .tup [.str (tagOf n), .int (i.getD 0)] := rfl
    refine .inr (.inl ?_)
    rw [e] at pt ⊢
    simp only [XS.whole, ↓runA, ↓runC, ↓runD, ↓runE, ↓runF, ↓runG, ↓runH, ↓runI, ↓runJ, ↓runK, ↓runXL, ↓runXM, ↓runYM, ↓runZM, ↓reduceIte, runB, ite_and, Decidable.not_not, forall_eq, List.map_cons, List.map_nil, List.cons_append, List.nil_append, List.replicate_succ, List.replicate_zero, List.append_nil, List.set_cons_zero, List.set_cons_succ, List.getElem?_cons_zero, List.getElem?_cons_succ, Option.some.injEq, List.cons.injEq, exists_and_left, exists_eq_left', exists_eq_left, exists_false, exists_const, forall_eq', forall_eq, ints_inj, Prod.exists, reduceCtorEq, List.length_cons, List.length_nil, implies_true, forall_const, decide_eq_true_eq, decide_eq_false_iff_not, List.getElem?_nil, List.set_nil, if_true, if_false, ite_true, ite_false, eq_self, Prod.mk.injEq, Co.lst.injEq, Co.dct.injEq, Fr.mk.injEq, exists_eq, exists_eq', exists_eq_right, exists_and_right, Nat.zero_le, Nat.zero_add, Nat.reduceAdd, Nat.reduceLT, Nat.reduceLeDiff, Nat.reduceEqDiff, List.mem_cons, List.not_mem_nil, List.nodup_cons, List.nodup_nil, List.forall_mem_cons, forall_eq_or_imp, List.getD_cons_zero, List.getD_cons_succ, List.mem_singleton, ne_eq, List.append_assoc, runXC, runXD, runXJ]
    exact pt
  · rw [show ((List.range (List.replicate n (W.pr (raisS P w K mg base c 12 fun n i => φ n i ∧ told n i = y))).length).filter fun _ => false) = [] by simp]
    simp only [XS.whole, ↓runA, ↓runC, ↓runD, ↓runE, ↓runF, ↓runG, ↓runH, ↓runI, ↓runJ, ↓runK, ↓runXL, ↓runXM, ↓runYM, ↓runZM, ↓reduceIte, runB, ite_and, Decidable.not_not, forall_eq, List.map_cons, List.map_nil, List.cons_append, List.nil_append, List.replicate_succ, List.replicate_zero, List.append_nil, List.set_cons_zero, List.set_cons_succ, List.getElem?_cons_zero, List.getElem?_cons_succ, Option.some.injEq, List.cons.injEq, exists_and_left, exists_eq_left', exists_eq_left, exists_false, exists_const, forall_eq', forall_eq, ints_inj, Prod.exists, reduceCtorEq, List.length_cons, List.length_nil, implies_true, forall_const, decide_eq_true_eq, decide_eq_false_iff_not, List.getElem?_nil, List.set_nil, if_true, if_false, ite_true, ite_false, eq_self, Prod.mk.injEq, Co.lst.injEq, Co.dct.injEq, Fr.mk.injEq, exists_eq, exists_eq', exists_eq_right, exists_and_right, Nat.zero_le, Nat.zero_add, Nat.reduceAdd, Nat.reduceLT, Nat.reduceLeDiff, Nat.reduceEqDiff, List.mem_cons, List.not_mem_nil, List.nodup_cons, List.nodup_nil, List.forall_mem_cons, forall_eq_or_imp, List.getD_cons_zero, List.getD_cons_succ, List.mem_singleton, ne_eq, List.append_assoc, runXC, runXD, runXJ]
    exact ⟨fun _ h => (nomatch h), fun _ h => (nomatch h), k⟩
end
/-! ### errors that tell a number: their __init__ -/

abbrev m_InvalidRow : Str := "invalid row, at index "
theorem ss_InvalidRow : SupS "index" m_InvalidRow s_InvalidRow__init_ := ⟨⟨_, _, _, _, _, _, _, _, _, _, _, _, _, _, rfl, fun _ _ _ _ _ => ⟨_, rfl⟩, fun _ _ _ _ _ => rfl, fun _ _ _ _ _ => rfl⟩, ⟨_, rfl, rfl⟩, rfl, rfl, rfl, rfl, rfl, rfl, rfl, by decide +kernel, by decide +kernel, by decide +kernel, fun _ _ _ _ _ _ _ _ _ _ => rfl⟩

/-! ### rows that are refused -/
def xe_check_row : XS := .seq (.ifs (.not (.val (.fn xIsi (.cons (.var 0) (.cons (.lit (.ty "list")) .nil))))) (.raiI "InvalidRow" (.lit (.int 0))) (.next))
 (.forr (.enum (.cons (.var 0) (.nil))) (.tup (.cons (.name 1) (.cons (.name 2) (.nil)))) (.ifs (.or (.val (.op oGe (.var 1) (.lit (.int 1000)))) (.not (.val (.call F_is_place (.cons (.var 2) (.nil)))))) (.raiI "InvalidRow" (.var 1)) (.next)))
/-- what is no row, and the index that is told -/
inductive BadRow : W → Int → Prop
  | non : BadRow .non 0
  | int (n : Int) : BadRow (.int n) 0
  | str (s : Str) : BadRow (.str s) 0
  | tup (ws : List W) : BadRow (.tup ws) 0
  | at (ws : List W) (i : Nat) (h1 : ∀ (j : Nat) (w : W), j < i → ws[j]? = some w → isNum w (-1000000) 1000000 = true ∧ w.tyn.isSome = true) (h2 : i < ws.length) (h3 : i = 1000 ∨ i < 1000 ∧ ∃ w, ws[i]? = some w ∧ isNum w (-1000000) 1000000 = false ∧ w.tyn.isSome = true) (h4 : ws.length ≤ 2000) : BadRow (.lst ws) (i : Int)
abbrev FE_check_row : XF := ⟨W × Int, 1, fun a => [a.1], fun a => BadRow a.1 a.2, fun a w => w = .exc "InvalidRow" (some a.2), by intros; rfl⟩
abbrev FRR : XF := ⟨List (Int × Int) × W × Int, 2, fun a => [.rig a.1, a.2.1], fun a => BadRow a.2.1 a.2.2, fun a w => w = .exc "InvalidRow" (some a.2.2), by intros; rfl⟩
def xe_Rig__call_ : XS := .seq (.dropX (.call FE_check_row (.cons (.var 1) (.nil))))
 (.never)
abbrev FE_rcall : XF := FRR
def xe_memory_of : XS := .seq (.dropX (.call FE_check_row (.cons (.var 0) (.nil))))
 (.seq (.never)
 (.seq (.never)
 (.never)))
abbrev FE_memory_of : XF := FE_check_row
def xe_loops : XS := .seq (.dropX (.call FE_check_row (.cons (.var 0) (.nil))))
 (.never)
abbrev FE_loops : XF := FE_check_row
def xe_travel : XS := .seq (.dropX (.call FE_check_row (.cons (.var 1) (.nil))))
 (.never)
abbrev FE_travel : XF := FRR
def xe_recorded : XS := .seq (.asgX (.name 2) (.callO true FE_rcall (.var 0) (.cons (.var 1) (.nil))))
 (.never)
abbrev FE_recorded : XF := FRR
def xe__check_moves_R : XS := .seq (.dropX (.call FE_check_row (.cons (.var 0) (.nil))))
 (.never)
abbrev FE__check_moves : XF := FE_check_row
def xe_Repeated__init_ : XS := .seq (.dropX (.call FE__check_moves (.cons (.var 2) (.nil))))
 (.seq (.never)
 (.seq (.never)
 (.seq (.never)
 (.seq (.never)
 (.seq (.never)
 (.seq (.never)
 (.seq (.never)
 (.never))))))))
abbrev FE_Repeated : XF := FRR
theorem hx_Repeated : ∀ a w, FE_Repeated.pre a → FE_Repeated.post a w → ∃ n i, w = .exc n i := fun _ _ _ h => ⟨_, _, h⟩
section
variable {P : Program} {w : World} {K : PySem.W.Frag} {mg : Str → Option Value} {base : Heap} {c : Z.Cl} {f p : Addr}
theorem oe_check_row (tx : Tx mg) (d : Dn K mg "check_row" s_check_row P_check_row) (xi_InvalidRow : XiC P w K mg base c "InvalidRow") (c_is_place : Fx P w K mg base 3 "is_place" (F_is_place.sp K c)) : FxX P w K mg base 4 "check_row" (FE_check_row.spx K c) := by
  refine d.runX (N := N_check_row) (s := xe_check_row) sc_check_row rfl ?_ fun f cdv A outer s H E hr => ⟨_, pss_cons (ps_if (pt_not (pt_val (pe_callB call_isi (by rfl) tx.b_isinstance boot_isinstance (pa_cons (pv 0) (pa_cons (pe_bltn (v := .ty "list") (by rfl) tx.b_list boot_list rfl) pa_nil))))) (pss_one (ps_raiI rfl xi_InvalidRow hr (by first | exact Nat.le_refl _ | decide | omega) (takes_of rfl rfl rfl rfl) rfl (pe_int))) (pss_nil))
 (pss_one (ps_for (passes_of rfl) rfl (pi_enum (by rfl) tx.b_enumerate (pa_cons (pv 0) (pa_nil))) (pg_tup rfl (pgs_cons (pg_name (i := 1) sc_check_row.nd rfl (Or.inl rfl)) (pgs_cons (pg_name (i := 2) sc_check_row.nd rfl (Or.inl rfl)) (pgs_nil)))) (pss_one (ps_if ((PW.pt (pw_or (pt_cmpR op_ge (pv 1) (pe_gK rfl tx.g_LONGEST_ROW) (nomark _)) (pw_or1 (pt_not (pt_val (pe_f c_is_place hr (by first | exact Nat.le_refl _ | decide | omega) rfl (pa_cons (pv 2) (pa_nil))))))))) (pss_one (ps_raiI rfl xi_InvalidRow hr (by first | exact Nat.le_refl _ | decide | omega) (takes_of rfl rfl rfl rfl) rfl (pv 1))) (pss_nil))))),
 esx_seq (esx_if (et_not (et_b (ev_fn (ea_cons (ev_var) (ea_cons ev_ty ea_nil)) en_isi0))) (esx_raiI (ev_int)) (ES.x es_next))
 (esx_for (ei_enum (ea_cons (ev_var) (ea_nil))) (eg_tup (egs_cons (eg_name) (egs_cons (eg_name) (egs_nil))) (by rintro ws ρ Q ⟨_, _, rfl, _, _, rfl, rfl, -⟩; rfl)) (esx_if (et_or (et_test (ev_op (ev_var) (ev_int) eo_B)) (et_not (et_b (ev_call (ea_cons (ev_var) (ea_nil)))))) (esx_raiI (ev_var)) (ES.x es_next)))⟩
  rintro ⟨x, n⟩ Q hb k
  replace k : Q (.exc "InvalidRow" (some n)) := k _ rfl
  cases hb with
  | non =>
    simp only [XS.whole, ↓runA, ↓runC, ↓runD, ↓runE, ↓runF, ↓runG, ↓runH, ↓runI, ↓runJ, ↓runK, ↓runXL, ↓runXM, ↓runYM, ↓runZM, ↓d_seq0, ↓d_seq1, ↓d2_seq, ↓reduceIte, runB, ite_and, Decidable.not_not, forall_eq, List.map_cons, List.map_nil, List.cons_append, List.nil_append, List.replicate_succ, List.replicate_zero, List.append_nil, List.set_cons_zero, List.set_cons_succ, List.getElem?_cons_zero, List.getElem?_cons_succ, Option.some.injEq, List.cons.injEq, exists_and_left, exists_eq_left', exists_eq_left, exists_false, exists_const, forall_eq', forall_eq, ints_inj, Prod.exists, reduceCtorEq, List.length_cons, List.length_nil, implies_true, forall_const, decide_eq_true_eq, decide_eq_false_iff_not, List.getElem?_nil, List.set_nil, if_true, if_false, ite_true, ite_false, eq_self, Prod.mk.injEq, Co.lst.injEq, Co.dct.injEq, Fr.mk.injEq, exists_eq, exists_eq', exists_eq_right, exists_and_right, Nat.zero_le, Nat.zero_add, Nat.reduceAdd, Nat.reduceLT, Nat.reduceLeDiff, Nat.reduceEqDiff, List.mem_cons, List.not_mem_nil, List.nodup_cons, List.nodup_nil, List.forall_mem_cons, forall_eq_or_imp, List.getD_cons_zero, List.getD_cons_succ, List.mem_singleton, ne_eq, List.append_assoc, runXC, runXD, runXJ, xe_check_row]
    exact ⟨by decide, k⟩
  | int =>
    simp only [XS.whole, ↓runA, ↓runC, ↓runD, ↓runE, ↓runF, ↓runG, ↓runH, ↓runI, ↓runJ, ↓runK, ↓runXL, ↓runXM, ↓runYM, ↓runZM, ↓d_seq0, ↓d_seq1, ↓d2_seq, ↓reduceIte, runB, ite_and, Decidable.not_not, forall_eq, List.map_cons, List.map_nil, List.cons_append, List.nil_append, List.replicate_succ, List.replicate_zero, List.append_nil, List.set_cons_zero, List.set_cons_succ, List.getElem?_cons_zero, List.getElem?_cons_succ, Option.some.injEq, List.cons.injEq, exists_and_left, exists_eq_left', exists_eq_left, exists_false, exists_const, forall_eq', forall_eq, ints_inj, Prod.exists, reduceCtorEq, List.length_cons, List.length_nil, implies_true, forall_const, decide_eq_true_eq, decide_eq_false_iff_not, List.getElem?_nil, List.set_nil, if_true, if_false, ite_true, ite_false, eq_self, Prod.mk.injEq, Co.lst.injEq, Co.dct.injEq, Fr.mk.injEq, exists_eq, exists_eq', exists_eq_right, exists_and_right, Nat.zero_le, Nat.zero_add, Nat.reduceAdd, Nat.reduceLT, Nat.reduceLeDiff, Nat.reduceEqDiff, List.mem_cons, List.not_mem_nil, List.nodup_cons, List.nodup_nil, List.forall_mem_cons, forall_eq_or_imp, List.getD_cons_zero, List.getD_cons_succ, List.mem_singleton, ne_eq, List.append_assoc, runXC, runXD, runXJ, xe_check_row]
    exact ⟨by decide, k⟩
  | str =>
    simp only [XS.whole, ↓runA, ↓runC, ↓runD, ↓runE, ↓runF, ↓runG, ↓runH, ↓runI, ↓runJ, ↓runK, ↓runXL, ↓runXM, ↓runYM, ↓runZM, ↓d_seq0, ↓d_seq1, ↓d2_seq, ↓reduceIte, runB, ite_and, Decidable.not_not, forall_eq, List.map_cons, List.map_nil, List.cons_append, List.nil_append, List.replicate_succ, List.replicate_zero, List.append_nil, List.set_cons_zero, List.set_cons_succ, List.getElem?_cons_zero, List.getElem?_cons_succ, Option.some.injEq, List.cons.injEq, exists_and_left, exists_eq_left', exists_eq_left, exists_false, exists_const, forall_eq', forall_eq, ints_inj, Prod.exists, reduceCtorEq, List.length_cons, List.length_nil, implies_true, forall_const, decide_eq_true_eq, decide_eq_false_iff_not, List.getElem?_nil, List.set_nil, if_true, if_false, ite_true, ite_false, eq_self, Prod.mk.injEq, Co.lst.injEq, Co.dct.injEq, Fr.mk.injEq, exists_eq, exists_eq', exists_eq_right, exists_and_right, Nat.zero_le, Nat.zero_add, Nat.reduceAdd, Nat.reduceLT, Nat.reduceLeDiff, Nat.reduceEqDiff, List.mem_cons, List.not_mem_nil, List.nodup_cons, List.nodup_nil, List.forall_mem_cons, forall_eq_or_imp, List.getD_cons_zero, List.getD_cons_succ, List.mem_singleton, ne_eq, List.append_assoc, runXC, runXD, runXJ, xe_check_row]
    exact ⟨by decide, k⟩
  | tup =>
    simp only [XS.whole, ↓runA, ↓runC, ↓runD, ↓runE, ↓runF, ↓runG, ↓runH, ↓runI, ↓runJ, ↓runK, ↓runXL, ↓runXM, ↓runYM, ↓runZM, ↓d_seq0, ↓d_seq1, ↓d2_seq, ↓reduceIte, runB, ite_and, Decidable.not_not, forall_eq, List.map_cons, List.map_nil, List.cons_append, List.nil_append, List.replicate_succ, List.replicate_zero, List.append_nil, List.set_cons_zero, List.set_cons_succ, List.getElem?_cons_zero, List.getElem?_cons_succ, Option.some.injEq, List.cons.injEq, exists_and_left, exists_eq_left', exists_eq_left, exists_false, exists_const, forall_eq', forall_eq, ints_inj, Prod.exists, reduceCtorEq, List.length_cons, List.length_nil, implies_true, forall_const, decide_eq_true_eq, decide_eq_false_iff_not, List.getElem?_nil, List.set_nil, if_true, if_false, ite_true, ite_false, eq_self, Prod.mk.injEq, Co.lst.injEq, Co.dct.injEq, Fr.mk.injEq, exists_eq, exists_eq', exists_eq_right, exists_and_right, Nat.zero_le, Nat.zero_add, Nat.reduceAdd, Nat.reduceLT, Nat.reduceLeDiff, Nat.reduceEqDiff, List.mem_cons, List.not_mem_nil, List.nodup_cons, List.nodup_nil, List.forall_mem_cons, forall_eq_or_imp, List.getD_cons_zero, List.getD_cons_succ, List.mem_singleton, ne_eq, List.append_assoc, runXC, runXD, runXJ, xe_check_row]
    exact ⟨by decide, k⟩
  | «at» ws i h1 h2 h3 h4 =>
    simp only [XS.whole, ↓runA, ↓runC, ↓runD, ↓runE, ↓runF, ↓runG, ↓runH, ↓runI, ↓runJ, ↓runK, ↓runXL, ↓runXM, ↓runYM, ↓runZM, ↓reduceIte, runB, ite_and, Decidable.not_not, forall_eq, List.map_cons, List.map_nil, List.cons_append, List.nil_append, List.replicate_succ, List.replicate_zero, List.append_nil, List.set_cons_zero, List.set_cons_succ, List.getElem?_cons_zero, List.getElem?_cons_succ, Option.some.injEq, List.cons.injEq, exists_and_left, exists_eq_left', exists_eq_left, exists_false, exists_const, forall_eq', forall_eq, ints_inj, Prod.exists, reduceCtorEq, List.length_cons, List.length_nil, implies_true, forall_const, decide_eq_true_eq, decide_eq_false_iff_not, List.getElem?_nil, List.set_nil, if_true, if_false, ite_true, ite_false, eq_self, Prod.mk.injEq, Co.lst.injEq, Co.dct.injEq, Fr.mk.injEq, exists_eq, exists_eq', exists_eq_right, exists_and_right, Nat.zero_le, Nat.zero_add, Nat.reduceAdd, Nat.reduceLT, Nat.reduceLeDiff, Nat.reduceEqDiff, List.mem_cons, List.not_mem_nil, List.nodup_cons, List.nodup_nil, List.forall_mem_cons, forall_eq_or_imp, List.getD_cons_zero, List.getD_cons_succ, List.mem_singleton, ne_eq, List.append_assoc, runXC, runXD, runXJ, xe_check_row]
    (rw [d_seq0]; simp only [XS.whole, ↓runA, ↓runC, ↓runD, ↓runE, ↓runF, ↓runG, ↓runH, ↓runI, ↓runJ, ↓runK, ↓runXL, ↓runXM, ↓runYM, ↓runZM, ↓reduceIte, runB, ite_and, Decidable.not_not, forall_eq, List.map_cons, List.map_nil, List.cons_append, List.nil_append, List.replicate_succ, List.replicate_zero, List.append_nil, List.set_cons_zero, List.set_cons_succ, List.getElem?_cons_zero, List.getElem?_cons_succ, Option.some.injEq, List.cons.injEq, exists_and_left, exists_eq_left', exists_eq_left, exists_false, exists_const, forall_eq', forall_eq, ints_inj, Prod.exists, reduceCtorEq, List.length_cons, List.length_nil, implies_true, forall_const, decide_eq_true_eq, decide_eq_false_iff_not, List.getElem?_nil, List.set_nil, if_true, if_false, ite_true, ite_false, eq_self, Prod.mk.injEq, Co.lst.injEq, Co.dct.injEq, Fr.mk.injEq, exists_eq, exists_eq', exists_eq_right, exists_and_right, Nat.zero_le, Nat.zero_add, Nat.reduceAdd, Nat.reduceLT, Nat.reduceLeDiff, Nat.reduceEqDiff, List.mem_cons, List.not_mem_nil, List.nodup_cons, List.nodup_nil, List.forall_mem_cons, forall_eq_or_imp, List.getD_cons_zero, List.getD_cons_succ, List.mem_singleton, ne_eq, List.append_assoc, runXC, runXD, runXJ])
    refine ⟨fun j φ => j ≤ i ∧ ∃ a b, φ = ⟨[some (.lst ws), a, b], none⟩, ⟨Nat.zero_le _, _, _, rfl⟩, ?_, fun φ ⟨h, _⟩ => ?_⟩
    · rintro j w φ hw ⟨hj, a, b, rfl⟩
      obtain ⟨x, hx, rfl⟩ := enumW_at hw
      simp only [XS.whole, ↓runA, ↓runC, ↓runD, ↓runE, ↓runF, ↓runG, ↓runH, ↓runI, ↓runJ, ↓runK, ↓runXL, ↓runXM, ↓runYM, ↓runZM, ↓d_seq0, ↓d_seq1, ↓d2_seq, ↓reduceIte, runB, ite_and, Decidable.not_not, forall_eq, List.map_cons, List.map_nil, List.cons_append, List.nil_append, List.replicate_succ, List.replicate_zero, List.append_nil, List.set_cons_zero, List.set_cons_succ, List.getElem?_cons_zero, List.getElem?_cons_succ, Option.some.injEq, List.cons.injEq, exists_and_left, exists_eq_left', exists_eq_left, exists_false, exists_const, forall_eq', forall_eq, ints_inj, Prod.exists, reduceCtorEq, List.length_cons, List.length_nil, implies_true, forall_const, decide_eq_true_eq, decide_eq_false_iff_not, List.getElem?_nil, List.set_nil, if_true, if_false, ite_true, ite_false, eq_self, Prod.mk.injEq, Co.lst.injEq, Co.dct.injEq, Fr.mk.injEq, exists_eq, exists_eq', exists_eq_right, exists_and_right, Nat.zero_le, Nat.zero_add, Nat.reduceAdd, Nat.reduceLT, Nat.reduceLeDiff, Nat.reduceEqDiff, List.mem_cons, List.not_mem_nil, List.nodup_cons, List.nodup_nil, List.forall_mem_cons, forall_eq_or_imp, List.getD_cons_zero, List.getD_cons_succ, List.mem_singleton, ne_eq, List.append_assoc, runXC, runXD, runXJ]
      have hjl := (List.getElem?_eq_some_iff.mp hx).1
      have i1000 : i ≤ 1000 := by rcases h3 with h | ⟨h, _⟩ <;> omega
      rcases Nat.lt_or_ge j i with q | q
      · obtain ⟨g1, g2⟩ := h1 j x q hx
        exact ⟨fun h => by omega, fun _ => ⟨g2, fun h => (by rw [g1] at h; cases h), fun _ => by omega⟩⟩
      · have e : j = i := by omega
        subst e
        rcases h3 with h | ⟨h, u, hu, g1, g2⟩
        · exact ⟨fun _ => ⟨by omega, k⟩, fun g => absurd (by omega) g⟩
        · rw [hx] at hu; cases hu
          exact ⟨fun h => by omega, fun _ => ⟨g2, fun _ => ⟨by omega, k⟩, fun h => (by rw [g1] at h; cases h)⟩⟩
    · have h : (enumW ws).length ≤ i := h
      rw [enumW_len] at h
      omega
theorem oe_rig_call (d : Dm K "__call__" "Rig.__call__" s_Rig__call_ P_Rig__call_ f) (x_check_row : FxX P w K mg base 4 "check_row" (FE_check_row.spx K c)) : ∃ fd, FnOk P w K mg base (L2.CX P w) 5 f fd P_Rig__call_ (FE_rcall.spx K c) ∧ Binds K fd P_Rig__call_ [] := by
  refine d.runX (N := N_Rig__call_) (s := xe_Rig__call_) sc_Rig__call_ rfl ?_ fun cdv A outer s H E hr => ⟨_, pss_cons (ps_expr (pe_fX x_check_row hr (by first | exact Nat.le_refl _ | decide | omega) (passes_call (takes_of rfl rfl rfl rfl) (fun _ _ _ _ h => h)) rfl (pa_cons (pv 1) (pa_nil))))
 (pss_one (ps_never)),
 esx_seq (esx_drop (evx_call (ea_cons (ev_var) (ea_nil))))
 (ES.x es_never)⟩
  rintro ⟨al, x, n⟩ Q hb k
  replace k : Q (.exc "InvalidRow" (some n)) := k _ rfl
  simp only [XS.whole, ↓runA, ↓runC, ↓runD, ↓runE, ↓runF, ↓runG, ↓runH, ↓runI, ↓runJ, ↓runK, ↓runXL, ↓runXM, ↓runYM, ↓runZM, ↓d_seq0, ↓d_seq1, ↓d2_seq, ↓reduceIte, runB, ite_and, Decidable.not_not, forall_eq, List.map_cons, List.map_nil, List.cons_append, List.nil_append, List.replicate_succ, List.replicate_zero, List.append_nil, List.set_cons_zero, List.set_cons_succ, List.getElem?_cons_zero, List.getElem?_cons_succ, Option.some.injEq, List.cons.injEq, exists_and_left, exists_eq_left', exists_eq_left, exists_false, exists_const, forall_eq', forall_eq, ints_inj, Prod.exists, reduceCtorEq, List.length_cons, List.length_nil, implies_true, forall_const, decide_eq_true_eq, decide_eq_false_iff_not, List.getElem?_nil, List.set_nil, if_true, if_false, ite_true, ite_false, eq_self, Prod.mk.injEq, Co.lst.injEq, Co.dct.injEq, Fr.mk.injEq, exists_eq, exists_eq', exists_eq_right, exists_and_right, Nat.zero_le, Nat.zero_add, Nat.reduceAdd, Nat.reduceLT, Nat.reduceLeDiff, Nat.reduceEqDiff, List.mem_cons, List.not_mem_nil, List.nodup_cons, List.nodup_nil, List.forall_mem_cons, forall_eq_or_imp, List.getD_cons_zero, List.getD_cons_succ, List.mem_singleton, ne_eq, List.append_assoc, runXC, runXD, runXJ, xe_Rig__call_]
  exact ⟨n, hb, k⟩
theorem oe_memory_of (d : Dn K mg "memory_of" s_memory_of P_memory_of) (x_check_row : FxX P w K mg base 4 "check_row" (FE_check_row.spx K c)) : FxX P w K mg base 5 "memory_of" (FE_memory_of.spx K c) := by
  refine d.runX (N := N_memory_of) (s := xe_memory_of) sc_memory_of rfl ?_ fun f cdv A outer s H E hr => ⟨_, pss_cons (ps_expr (pe_fX x_check_row hr (by first | exact Nat.le_refl _ | decide | omega) (passes_call (takes_of rfl rfl rfl rfl) (fun _ _ _ _ h => h)) rfl (pa_cons (pv 0) (pa_nil))))
 (pss_cons (ps_never)
 (pss_cons (ps_never)
 (pss_one (ps_never)))),
 esx_seq (esx_drop (evx_call (ea_cons (ev_var) (ea_nil))))
 (esx_seq (ES.x es_never)
 (esx_seq (ES.x es_never)
 (ES.x es_never)))⟩
  rintro ⟨x, n⟩ Q hb k
  replace k : Q (.exc "InvalidRow" (some n)) := k _ rfl
  simp only [XS.whole, ↓runA, ↓runC, ↓runD, ↓runE, ↓runF, ↓runG, ↓runH, ↓runI, ↓runJ, ↓runK, ↓runXL, ↓runXM, ↓runYM, ↓runZM, ↓d_seq0, ↓d_seq1, ↓d2_seq, ↓reduceIte, runB, ite_and, Decidable.not_not, forall_eq, List.map_cons, List.map_nil, List.cons_append, List.nil_append, List.replicate_succ, List.replicate_zero, List.append_nil, List.set_cons_zero, List.set_cons_succ, List.getElem?_cons_zero, List.getElem?_cons_succ, Option.some.injEq, List.cons.injEq, exists_and_left, exists_eq_left', exists_eq_left, exists_false, exists_const, forall_eq', forall_eq, ints_inj, Prod.exists, reduceCtorEq, List.length_cons, List.length_nil, implies_true, forall_const, decide_eq_true_eq, decide_eq_false_iff_not, List.getElem?_nil, List.set_nil, if_true, if_false, ite_true, ite_false, eq_self, Prod.mk.injEq, Co.lst.injEq, Co.dct.injEq, Fr.mk.injEq, exists_eq, exists_eq', exists_eq_right, exists_and_right, Nat.zero_le, Nat.zero_add, Nat.reduceAdd, Nat.reduceLT, Nat.reduceLeDiff, Nat.reduceEqDiff, List.mem_cons, List.not_mem_nil, List.nodup_cons, List.nodup_nil, List.forall_mem_cons, forall_eq_or_imp, List.getD_cons_zero, List.getD_cons_succ, List.mem_singleton, ne_eq, List.append_assoc, runXC, runXD, runXJ, xe_memory_of]
  exact ⟨n, hb, k⟩
theorem oe_loops (d : Dn K mg "loops" s_loops P_loops) (x_check_row : FxX P w K mg base 4 "check_row" (FE_check_row.spx K c)) : FxX P w K mg base 5 "loops" (FE_loops.spx K c) := by
  refine d.runX (N := N_loops) (s := xe_loops) sc_loops rfl ?_ fun f cdv A outer s H E hr => ⟨_, pss_cons (ps_expr (pe_fX x_check_row hr (by first | exact Nat.le_refl _ | decide | omega) (passes_call (takes_of rfl rfl rfl rfl) (fun _ _ _ _ h => h)) rfl (pa_cons (pv 0) (pa_nil))))
 (pss_one (ps_never)),
 esx_seq (esx_drop (evx_call (ea_cons (ev_var) (ea_nil))))
 (ES.x es_never)⟩
  rintro ⟨x, n⟩ Q hb k
  replace k : Q (.exc "InvalidRow" (some n)) := k _ rfl
  simp only [XS.whole, ↓runA, ↓runC, ↓runD, ↓runE, ↓runF, ↓runG, ↓runH, ↓runI, ↓runJ, ↓runK, ↓runXL, ↓runXM, ↓runYM, ↓runZM, ↓d_seq0, ↓d_seq1, ↓d2_seq, ↓reduceIte, runB, ite_and, Decidable.not_not, forall_eq, List.map_cons, List.map_nil, List.cons_append, List.nil_append, List.replicate_succ, List.replicate_zero, List.append_nil, List.set_cons_zero, List.set_cons_succ, List.getElem?_cons_zero, List.getElem?_cons_succ, Option.some.injEq, List.cons.injEq, exists_and_left, exists_eq_left', exists_eq_left, exists_false, exists_const, forall_eq', forall_eq, ints_inj, Prod.exists, reduceCtorEq, List.length_cons, List.length_nil, implies_true, forall_const, decide_eq_true_eq, decide_eq_false_iff_not, List.getElem?_nil, List.set_nil, if_true, if_false, ite_true, ite_false, eq_self, Prod.mk.injEq, Co.lst.injEq, Co.dct.injEq, Fr.mk.injEq, exists_eq, exists_eq', exists_eq_right, exists_and_right, Nat.zero_le, Nat.zero_add, Nat.reduceAdd, Nat.reduceLT, Nat.reduceLeDiff, Nat.reduceEqDiff, List.mem_cons, List.not_mem_nil, List.nodup_cons, List.nodup_nil, List.forall_mem_cons, forall_eq_or_imp, List.getD_cons_zero, List.getD_cons_succ, List.mem_singleton, ne_eq, List.append_assoc, runXC, runXD, runXJ, xe_loops]
  exact ⟨n, hb, k⟩
theorem oe_travel (d : Dn K mg "travel" s_travel P_travel) (x_check_row : FxX P w K mg base 4 "check_row" (FE_check_row.spx K c)) : FxX P w K mg base 5 "travel" (FE_travel.spx K c) := by
  refine d.runX (N := N_travel) (s := xe_travel) sc_travel rfl ?_ fun f cdv A outer s H E hr => ⟨_, pss_cons (ps_expr (pe_fX x_check_row hr (by first | exact Nat.le_refl _ | decide | omega) (passes_call (takes_of rfl rfl rfl rfl) (fun _ _ _ _ h => h)) rfl (pa_cons (pv 1) (pa_nil))))
 (pss_one (ps_never)),
 esx_seq (esx_drop (evx_call (ea_cons (ev_var) (ea_nil))))
 (ES.x es_never)⟩
  rintro ⟨al, x, n⟩ Q hb k
  replace k : Q (.exc "InvalidRow" (some n)) := k _ rfl
  simp only [XS.whole, ↓runA, ↓runC, ↓runD, ↓runE, ↓runF, ↓runG, ↓runH, ↓runI, ↓runJ, ↓runK, ↓runXL, ↓runXM, ↓runYM, ↓runZM, ↓d_seq0, ↓d_seq1, ↓d2_seq, ↓reduceIte, runB, ite_and, Decidable.not_not, forall_eq, List.map_cons, List.map_nil, List.cons_append, List.nil_append, List.replicate_succ, List.replicate_zero, List.append_nil, List.set_cons_zero, List.set_cons_succ, List.getElem?_cons_zero, List.getElem?_cons_succ, Option.some.injEq, List.cons.injEq, exists_and_left, exists_eq_left', exists_eq_left, exists_false, exists_const, forall_eq', forall_eq, ints_inj, Prod.exists, reduceCtorEq, List.length_cons, List.length_nil, implies_true, forall_const, decide_eq_true_eq, decide_eq_false_iff_not, List.getElem?_nil, List.set_nil, if_true, if_false, ite_true, ite_false, eq_self, Prod.mk.injEq, Co.lst.injEq, Co.dct.injEq, Fr.mk.injEq, exists_eq, exists_eq', exists_eq_right, exists_and_right, Nat.zero_le, Nat.zero_add, Nat.reduceAdd, Nat.reduceLT, Nat.reduceLeDiff, Nat.reduceEqDiff, List.mem_cons, List.not_mem_nil, List.nodup_cons, List.nodup_nil, List.forall_mem_cons, forall_eq_or_imp, List.getD_cons_zero, List.getD_cons_succ, List.mem_singleton, ne_eq, List.append_assoc, runXC, runXD, runXJ, xe_travel]
  exact ⟨n, hb, k⟩
theorem oe_recorded (d : Dn K mg "recorded" s_recorded P_recorded) (x_rcall : MxX P w K mg base 5 c.R "__call__" (FE_rcall.spx K c)) : FxX P w K mg base 6 "recorded" (FE_recorded.spx K c) := by
  refine d.runX (N := N_recorded) (s := xe_recorded) sc_recorded rfl ?_ fun f cdv A outer s H E hr => ⟨_, pss_cons (ps_set (i := 2) sc_recorded.nd rfl (Or.inl rfl) (pe_cOXr x_rcall hr (by first | exact Nat.le_refl _ | decide | omega) (passes_call (takes_of rfl rfl rfl rfl) (fun _ _ _ _ h => h)) (pv 0) (pa_cons (pv 1) (pa_nil))))
 (pss_one (ps_never)),
 esx_seq (esx_asg (evx_callOr (ev_var) (ea_cons (ev_var) (ea_nil))) eg_name)
 (ES.x es_never)⟩
  rintro ⟨al, x, n⟩ Q hb k
  replace k : Q (.exc "InvalidRow" (some n)) := k _ rfl
  simp only [XS.whole, ↓runA, ↓runC, ↓runD, ↓runE, ↓runF, ↓runG, ↓runH, ↓runI, ↓runJ, ↓runK, ↓runXL, ↓runXM, ↓runYM, ↓runZM, ↓d_seq0, ↓d_seq1, ↓d2_seq, ↓reduceIte, runB, ite_and, Decidable.not_not, forall_eq, List.map_cons, List.map_nil, List.cons_append, List.nil_append, List.replicate_succ, List.replicate_zero, List.append_nil, List.set_cons_zero, List.set_cons_succ, List.getElem?_cons_zero, List.getElem?_cons_succ, Option.some.injEq, List.cons.injEq, exists_and_left, exists_eq_left', exists_eq_left, exists_false, exists_const, forall_eq', forall_eq, ints_inj, Prod.exists, reduceCtorEq, List.length_cons, List.length_nil, implies_true, forall_const, decide_eq_true_eq, decide_eq_false_iff_not, List.getElem?_nil, List.set_nil, if_true, if_false, ite_true, ite_false, eq_self, Prod.mk.injEq, Co.lst.injEq, Co.dct.injEq, Fr.mk.injEq, exists_eq, exists_eq', exists_eq_right, exists_and_right, Nat.zero_le, Nat.zero_add, Nat.reduceAdd, Nat.reduceLT, Nat.reduceLeDiff, Nat.reduceEqDiff, List.mem_cons, List.not_mem_nil, List.nodup_cons, List.nodup_nil, List.forall_mem_cons, forall_eq_or_imp, List.getD_cons_zero, List.getD_cons_succ, List.mem_singleton, ne_eq, List.append_assoc, runXC, runXD, runXJ, xe_recorded]
  refine ⟨fun q e => (by cases e), ?_⟩
  simp only [XS.whole, ↓runA, ↓runC, ↓runD, ↓runE, ↓runF, ↓runG, ↓runH, ↓runI, ↓runJ, ↓runK, ↓runXL, ↓runXM, ↓runYM, ↓runZM, ↓d_seq0, ↓d_seq1, ↓d2_seq, ↓reduceIte, runB, ite_and, Decidable.not_not, forall_eq, List.map_cons, List.map_nil, List.cons_append, List.nil_append, List.replicate_succ, List.replicate_zero, List.append_nil, List.set_cons_zero, List.set_cons_succ, List.getElem?_cons_zero, List.getElem?_cons_succ, Option.some.injEq, List.cons.injEq, exists_and_left, exists_eq_left', exists_eq_left, exists_false, exists_const, forall_eq', forall_eq, ints_inj, Prod.exists, reduceCtorEq, List.length_cons, List.length_nil, implies_true, forall_const, decide_eq_true_eq, decide_eq_false_iff_not, List.getElem?_nil, List.set_nil, if_true, if_false, ite_true, ite_false, eq_self, Prod.mk.injEq, Co.lst.injEq, Co.dct.injEq, Fr.mk.injEq, exists_eq, exists_eq', exists_eq_right, exists_and_right, Nat.zero_le, Nat.zero_add, Nat.reduceAdd, Nat.reduceLT, Nat.reduceLeDiff, Nat.reduceEqDiff, List.mem_cons, List.not_mem_nil, List.nodup_cons, List.nodup_nil, List.forall_mem_cons, forall_eq_or_imp, List.getD_cons_zero, List.getD_cons_succ, List.mem_singleton, ne_eq, List.append_assoc, runXC, runXD, runXJ]
  exact ⟨n, hb, k⟩
theorem oe_check_moves (d : Dn K mg "_check_moves" s__check_moves P__check_moves) (x_check_row : FxX P w K mg base 4 "check_row" (FE_check_row.spx K c)) : FxX P w K mg base 5 "_check_moves" (FE__check_moves.spx K c) := by
  refine d.runX (N := N__check_moves) (s := xe__check_moves_R) sc__check_moves rfl ?_ fun f cdv A outer s H E hr => ⟨_, pss_cons (ps_expr (pe_fX x_check_row hr (by first | exact Nat.le_refl _ | decide | omega) (passes_call (takes_of rfl rfl rfl rfl) (fun _ _ _ _ h => h)) rfl (pa_cons (pv 0) (pa_nil))))
 (pss_one (ps_never)),
 esx_seq (esx_drop (evx_call (ea_cons (ev_var) (ea_nil))))
 (ES.x es_never)⟩
  rintro ⟨x, n⟩ Q hb k
  replace k : Q (.exc "InvalidRow" (some n)) := k _ rfl
  simp only [XS.whole, ↓runA, ↓runC, ↓runD, ↓runE, ↓runF, ↓runG, ↓runH, ↓runI, ↓runJ, ↓runK, ↓runXL, ↓runXM, ↓runYM, ↓runZM, ↓d_seq0, ↓d_seq1, ↓d2_seq, ↓reduceIte, runB, ite_and, Decidable.not_not, forall_eq, List.map_cons, List.map_nil, List.cons_append, List.nil_append, List.replicate_succ, List.replicate_zero, List.append_nil, List.set_cons_zero, List.set_cons_succ, List.getElem?_cons_zero, List.getElem?_cons_succ, Option.some.injEq, List.cons.injEq, exists_and_left, exists_eq_left', exists_eq_left, exists_false, exists_const, forall_eq', forall_eq, ints_inj, Prod.exists, reduceCtorEq, List.length_cons, List.length_nil, implies_true, forall_const, decide_eq_true_eq, decide_eq_false_iff_not, List.getElem?_nil, List.set_nil, if_true, if_false, ite_true, ite_false, eq_self, Prod.mk.injEq, Co.lst.injEq, Co.dct.injEq, Fr.mk.injEq, exists_eq, exists_eq', exists_eq_right, exists_and_right, Nat.zero_le, Nat.zero_add, Nat.reduceAdd, Nat.reduceLT, Nat.reduceLeDiff, Nat.reduceEqDiff, List.mem_cons, List.not_mem_nil, List.nodup_cons, List.nodup_nil, List.forall_mem_cons, forall_eq_or_imp, List.getD_cons_zero, List.getD_cons_succ, List.mem_singleton, ne_eq, List.append_assoc, runXC, runXD, runXJ, xe__check_moves_R]
  exact ⟨n, hb, k⟩
theorem oe_rep_init (d : Dm K "__init__" "Repeated.__init__" s_Repeated__init_ P_Repeated__init_ f) (x__check_moves : FxX P w K mg base 5 "_check_moves" (FE__check_moves.spx K c)) : ∃ fd, FnOk P w K mg base (L2.CX P w) 6 f fd P_Repeated__init_ (FE_Repeated.ini.spx K c) ∧ Binds K fd P_Repeated__init_ [] := by
  refine d.runX (N := N_Repeated__init_) (s := xe_Repeated__init_) sc_Repeated__init_ rfl ?_ fun cdv A outer s H E hr => ⟨_, pss_cons (ps_expr (pe_fX x__check_moves hr (by first | exact Nat.le_refl _ | decide | omega) (passes_call (takes_of rfl rfl rfl rfl) (fun _ _ _ _ h => h)) rfl (pa_cons (pv 2) (pa_nil))))
 (pss_cons (ps_never)
 (pss_cons (ps_never)
 (pss_cons (ps_never)
 (pss_cons (ps_never)
 (pss_cons (ps_never)
 (pss_cons (ps_never)
 (pss_cons (ps_never)
 (pss_one (ps_never))))))))),
 esx_seq (esx_drop (evx_call (ea_cons (ev_var) (ea_nil))))
 (esx_seq (ES.x es_never)
 (esx_seq (ES.x es_never)
 (esx_seq (ES.x es_never)
 (esx_seq (ES.x es_never)
 (esx_seq (ES.x es_never)
 (esx_seq (ES.x es_never)
 (esx_seq (ES.x es_never)
 (ES.x es_never))))))))⟩
  rintro ⟨y, al, x, n⟩ Q hb k
  replace k : Q (.exc "InvalidRow" (some n)) := k _ rfl
  show xe_Repeated__init_.whole [.adr y, .rig al, x] _ Q
  simp only [XS.whole, ↓runA, ↓runC, ↓runD, ↓runE, ↓runF, ↓runG, ↓runH, ↓runI, ↓runJ, ↓runK, ↓runXL, ↓runXM, ↓runYM, ↓runZM, ↓d_seq0, ↓d_seq1, ↓d2_seq, ↓reduceIte, runB, ite_and, Decidable.not_not, forall_eq, List.map_cons, List.map_nil, List.cons_append, List.nil_append, List.replicate_succ, List.replicate_zero, List.append_nil, List.set_cons_zero, List.set_cons_succ, List.getElem?_cons_zero, List.getElem?_cons_succ, Option.some.injEq, List.cons.injEq, exists_and_left, exists_eq_left', exists_eq_left, exists_false, exists_const, forall_eq', forall_eq, ints_inj, Prod.exists, reduceCtorEq, List.length_cons, List.length_nil, implies_true, forall_const, decide_eq_true_eq, decide_eq_false_iff_not, List.getElem?_nil, List.set_nil, if_true, if_false, ite_true, ite_false, eq_self, Prod.mk.injEq, Co.lst.injEq, Co.dct.injEq, Fr.mk.injEq, exists_eq, exists_eq', exists_eq_right, exists_and_right, Nat.zero_le, Nat.zero_add, Nat.reduceAdd, Nat.reduceLT, Nat.reduceLeDiff, Nat.reduceEqDiff, List.mem_cons, List.not_mem_nil, List.nodup_cons, List.nodup_nil, List.forall_mem_cons, forall_eq_or_imp, List.getD_cons_zero, List.getD_cons_succ, List.mem_singleton, ne_eq, List.append_assoc, runXC, runXD, runXJ, xe_Repeated__init_]
  exact ⟨n, hb, k⟩
end
theorem bad_row {l : List Int} {u : W} {q : Nat} (hp : ∀ x ∈ l, isPl x = true) (hq : q ≤ l.length) (hl : l.length ≤ 900) (u1 : isNum u (-1000000) 1000000 = false) (u2 : u.tyn.isSome = true) : BadRow (.lst ((l.map W.int).take q ++ u :: (l.map W.int).drop q)) (q : Int) := by
  have lt : ((l.map W.int).take q).length = q := by rw [List.length_take, List.length_map]; omega
  refine .at _ q (fun j v hj hv => ?_) ?_ (.inr ⟨by omega, u, ?_, u1, u2⟩) ?_
  · rw [List.getElem?_append_left (by omega), List.getElem?_take_of_lt hj, List.getElem?_map] at hv
    cases z1 : l[j]? with
    | none => rw [z1] at hv; cases hv
    | some y =>
      rw [z1] at hv
      cases hv
      exact ⟨hp y (List.mem_of_getElem? z1), rfl⟩
  · rw [List.length_append, lt]; show q < q + (_ + 1); omega
  · rw [List.getElem?_append_right (by omega), lt, Nat.sub_self]; rfl
  · rw [List.length_append, lt, List.length_cons, List.length_drop, List.length_map]; omega
theorem bad_long : BadRow (.lst ((List.replicate (Int.toNat 500) [W.int 5, W.int 6]).flatten ++ [W.int 7])) 1000 := by
  refine .at _ 1000 (fun j w hj hw => ?_) (by decide +kernel) (.inl rfl) (by decide +kernel)
  have h := List.mem_of_getElem? hw
  rcases List.mem_append.mp h with h | h
  · obtain ⟨x, hx, hx2⟩ := List.mem_flatten.mp h
    rw [List.eq_of_mem_replicate hx] at hx2
    rcases List.mem_cons.mp hx2 with rfl | hx2
    · exact ⟨rfl, rfl⟩
    · rw [List.mem_singleton.mp hx2]; exact ⟨rfl, rfl⟩
  · rw [List.mem_singleton.mp h]; exact ⟨rfl, rfl⟩
theorem t_row (i : Int) : told "InvalidRow" (some i) = .tup [.str "row", .int i] := rfl
theorem pl_row (i : Int) : Pl 60 (.tup [.str "row", .int i]) := pl_told (by decide +kernel)
abbrev F_law : XF := ⟨List Int, 1, fun a => [.scr a], fun a => a.length ≤ 63, fun a w => w = .bl true, by intros; rfl⟩
abbrev okE : Str → Option Int → Prop := fun n i => n = "InvalidRow" ∧ ∃ x, i = some x
def xc_law (K : PySem.W.Frag) (c : Z.Cl) (X : Cx) : XS := .seq (.asg (.name 1) (.call F__law_random (.cons (.var 0) (.cons (.lit (.int 7)) (.nil)))))
 (.seq (.asg (.tup (.cons (.name 2) (.cons (.name 8) (.nil)))) (.tup (.cons (.call F__law_row (.cons (.var 1) (.cons (.lit (.int 9)) (.cons (.lit (.int 20)) (.nil))))) (.cons (.call F_rod (.cons (.call F__law_below (.cons (.var 1) (.cons (.lit (.int 9)) (.nil)))) (.nil))) (.nil)))))
 (.seq (.asg (.name 3) (.op oIx (.lst (.cons (.op oAdd (.lit (.int 1000001)) (.call F__law_below (.cons (.var 1) (.cons (.lit (.int 99)) (.nil))))) (.cons (.op oSub (.op oSub (.lit (.int 0)) (.lit (.int 1000001))) (.call F__law_below (.cons (.var 1) (.cons (.lit (.int 99)) (.nil))))) (.cons (.lit .non) (.cons (.lit (.bl true)) (.cons (.lit (.str "1")) (.cons (.tup (.cons (.lit (.int 1)) (.nil))) (.nil)))))))) (.call F__law_below (.cons (.var 1) (.cons (.lit (.int 6)) (.nil))))))
 (.seq (.asg (.name 4) (.call F__law_below (.cons (.var 1) (.cons (.op oAdd (.fn .len (.cons (.var 2) (.nil))) (.lit (.int 1))) (.nil)))))
 (.seq (.asg (.tup (.cons (.name 7) (.cons (.name 5) (.nil)))) (.tup (.cons (.op oAdd (.op oAdd (.sl (.var 2) .no (.at (.var 4))) (.lst (.cons (.var 3) (.nil)))) (.sl (.var 2) (.at (.var 4)) .no)) (.cons (.var 4) (.nil)))))
 (.seq (.ifs (.val (.op oEq (.call F__law_below (.cons (.var 1) (.cons (.lit (.int 5)) (.nil)))) (.lit (.int 0)))) (.asg (.tup (.cons (.name 7) (.cons (.name 5) (.nil)))) (.tup (.cons (.op oAdd (.op .rep (.lst (.cons (.lit (.int 5)) (.cons (.lit (.int 6)) (.nil)))) (.lit (.int 500))) (.lst (.cons (.lit (.int 7)) (.nil)))) (.cons (.lit (.int 1000)) (.nil))))) (.next))
 (.seq (.ifs (.val (.op oEq (.call F__law_below (.cons (.var 1) (.cons (.lit (.int 5)) (.nil)))) (.lit (.int 0)))) (.asg (.tup (.cons (.name 7) (.cons (.name 5) (.nil)))) (.tup (.cons (.op oIx (.lst (.cons (.lit .non) (.cons (.fn .tuple (.cons (.var 2) (.nil))) (.cons (.lit (.int 5)) (.cons (.lit (.str "1")) (.nil)))))) (.call F__law_below (.cons (.var 1) (.cons (.lit (.int 4)) (.nil))))) (.cons (.lit (.int 0)) (.nil))))) (.next))
 (.seq (.asg (.name 6) (.lst (.cons (.clo K c X 12 (.callO true FE_rcall (.var 8) (.cons (.var 7) (.nil)))) (.cons (.clo K c X 12 (.call FE_memory_of (.cons (.var 7) (.nil)))) (.cons (.clo K c X 12 (.call FE_loops (.cons (.var 7) (.nil)))) (.cons (.clo K c X 12 (.call FE_travel (.cons (.var 8) (.cons (.var 7) (.nil))))) (.nil)))))))
 (.seq (.asg (.name 6) (.op oAdd (.var 6) (.lst (.cons (.clo K c X 12 (.call FE_recorded (.cons (.var 8) (.cons (.var 7) (.nil))))) (.cons (.clo K c X 12 (.call FE_Repeated (.cons (.var 8) (.cons (.var 7) (.nil))))) (.nil))))))
 (.seq (.ifs (.not (.val (.allR K c X 12 okE (.var 6) (.tup (.cons (.lit (.str "row")) (.cons (.var 5) (.nil))))))) (.ret (.lit (.bl false))) (.next))
 (.ret (.andV (.op oEq (.callO true F_rcall (.call F_rod (.cons (.lit (.int 0)) (.nil))) (.cons (.lst (.cons (.lit (.int 1000000)) (.cons (.op oSub (.lit (.int 0)) (.lit (.int 1000000))) (.nil)))) (.nil))) (.lst (.cons (.lit (.int 1000000)) (.cons (.op oSub (.lit (.int 0)) (.lit (.int 1000000))) (.nil))))) (.andV (.op oEq (.callO true F_rcall (.var 8) (.cons (.lst (.nil)) (.nil))) (.lst (.nil))) (.op oEq (.prop false F_places (.call F_memory_of (.cons (.lst (.nil)) (.nil)))) (.tup (.cons (.lit (.int 0)) (.nil))))))))))))))))
section
variable {P : Program} {w : World} {K : PySem.W.Frag} {mg : Str → Option Value} {base : Heap} {c : Z.Cl} {f p : Addr}
theorem ok_law {fd : FuncData} {c0 Pt : Addr} (tx : Tx mg) (ckR : CK K c.R "_arms") (ckM : CK K c.C "_places") (d : L2.Fun K "law" "law" s_law f fd) (c__law_random : Fx P w K mg base 1 "_law_random" (F__law_random.sp K c)) (c__law_below : Fx P w K mg base 1 "_law_below" (F__law_below.sp K c)) (c__law_row : Fx P w K mg base 2 "_law_row" (F__law_row.sp K c)) (c_rod : Fx P w K mg base 4 "rod" (F_rod.sp K c)) (r_call : Mx P w K mg base 5 c.R "__call__" (F_rcall.sp K c)) (c_memory_of : Fx P w K mg base 8 "memory_of" (F_memory_of.sp K c)) (gx_places : Gx P w K mg base 1 c.C "places" (F_places.sp K c)) (hcode : fd.code = .ref c0) (TB : LamX.TabB base mg c0 Pt) (c__law_error_of : Fx P w K mg base 14 "_law_error_of" ((F_errC P w K mg base c 12 okE).sp K c)) (c__law_all_raise : Fx P w K mg base 15 "_law_all_raise" ((F_allR P w K mg base c 12 okE).sp K c)) (x_rcall : MxX P w K mg base 5 c.R "__call__" (FE_rcall.spx K c)) (x_memory_of : FxX P w K mg base 5 "memory_of" (FE_memory_of.spx K c)) (x_loops : FxX P w K mg base 5 "loops" (FE_loops.spx K c)) (x_travel : FxX P w K mg base 5 "travel" (FE_travel.spx K c)) (x_recorded : FxX P w K mg base 6 "recorded" (FE_recorded.spx K c)) (x_Repeated : IxX P w K mg base 6 "Repeated" c.X (FE_Repeated.spI K c)) : FnOk P w K mg base CX0 18 f fd P_law (F_law.spT K c Pt) := by
  refine fun_runC d hcode (N := N_law) (s := fun X => xc_law K c X) sc_law rfl ?_ fun A outer s H E hr => ⟨_, pss_cons (ps_set (i := 1) sc_law.nd rfl (Or.inl rfl) (pe_f c__law_random hr (by first | exact Nat.le_refl _ | decide | omega) rfl (pa_cons (pv 0) (pa_cons (pe_int) (pa_nil)))))
 (pss_cons (ps_asg (pe_tup (pa_cons (pe_f c__law_row hr (by first | exact Nat.le_refl _ | decide | omega) rfl (pa_cons (pv 1) (pa_cons (pe_int) (pa_cons (pe_int) (pa_nil))))) (pa_cons (pe_f c_rod hr (by first | exact Nat.le_refl _ | decide | omega) rfl (pa_cons (pe_f c__law_below hr (by first | exact Nat.le_refl _ | decide | omega) rfl (pa_cons (pv 1) (pa_cons (pe_int) (pa_nil)))) (pa_nil))) (pa_nil)))) (pg_tup rfl (pgs_cons (pg_name (i := 2) sc_law.nd rfl (Or.inl rfl)) (pgs_cons (pg_name (i := 8) sc_law.nd rfl (Or.inr rfl)) (pgs_nil)))))
 (pss_cons (ps_set (i := 3) sc_law.nd rfl (Or.inl rfl) (pe_ix ix_lt (pe_lst (pa_cons (pe_op opAdd (pe_int) (pe_f c__law_below hr (by first | exact Nat.le_refl _ | decide | omega) rfl (pa_cons (pv 1) (pa_cons (pe_int) (pa_nil))))) (pa_cons (pe_op opSub (pe_op opSub (pe_int) (pe_int)) (pe_f c__law_below hr (by first | exact Nat.le_refl _ | decide | omega) rfl (pa_cons (pv 1) (pa_cons (pe_int) (pa_nil))))) (pa_cons (pe_non) (pa_cons (pe_bl) (pa_cons (pe_str) (pa_cons (pe_tup (pa_cons (pe_int) (pa_nil))) (pa_nil)))))))) (pe_f c__law_below hr (by first | exact Nat.le_refl _ | decide | omega) rfl (pa_cons (pv 1) (pa_cons (pe_int) (pa_nil)))) (fun _ _ => rfl)))
 (pss_cons (ps_set (i := 4) sc_law.nd rfl (Or.inl rfl) (pe_f c__law_below hr (by first | exact Nat.le_refl _ | decide | omega) rfl (pa_cons (pv 1) (pa_cons (pe_op opAdd (pe_callB call_len_seq (by rfl) tx.b_len boot_len (pa_cons (pv 2) (pa_nil))) (pe_int)) (pa_nil)))))
 (pss_cons (ps_asg (pe_tup (pa_cons (pe_op opAdd (pe_op opAdd (pe_slice (SlR.or sl_list sl_tupA) (pv 2) po_none (po_some (pv 4))) (pe_lst (pa_cons (pv 3) (pa_nil)))) (pe_slice (SlR.or sl_list sl_tupA) (pv 2) (po_some (pv 4)) po_none)) (pa_cons (pv 4) (pa_nil)))) (pg_tup rfl (pgs_cons (pg_name (i := 7) sc_law.nd rfl (Or.inr rfl)) (pgs_cons (pg_name (i := 5) sc_law.nd rfl (Or.inl rfl)) (pgs_nil)))))
 (pss_cons (ps_if (pt_cmpR (opEq hr.units) (pe_f c__law_below hr (by first | exact Nat.le_refl _ | decide | omega) rfl (pa_cons (pv 1) (pa_cons (pe_int) (pa_nil)))) (pe_int) (nomark _)) (pss_one (ps_asg (pe_tup (pa_cons (pe_op opAdd (pe_op op_rep (pe_lst (pa_cons (pe_int) (pa_cons (pe_int) (pa_nil)))) (pe_int)) (pe_lst (pa_cons (pe_int) (pa_nil)))) (pa_cons (pe_int) (pa_nil)))) (pg_tup rfl (pgs_cons (pg_name (i := 7) sc_law.nd rfl (Or.inr rfl)) (pgs_cons (pg_name (i := 5) sc_law.nd rfl (Or.inl rfl)) (pgs_nil)))))) (pss_nil))
 (pss_cons (ps_if (pt_cmpR (opEq hr.units) (pe_f c__law_below hr (by first | exact Nat.le_refl _ | decide | omega) rfl (pa_cons (pv 1) (pa_cons (pe_int) (pa_nil)))) (pe_int) (nomark _)) (pss_one (ps_asg (pe_tup (pa_cons (pe_ix ix_lt (pe_lst (pa_cons (pe_non) (pa_cons (pe_callTy call_tuple_of (by rfl) tx.b_tuple boot_tuple (pa_cons (pv 2) (pa_nil))) (pa_cons (pe_int) (pa_cons (pe_str) (pa_nil)))))) (pe_f c__law_below hr (by first | exact Nat.le_refl _ | decide | omega) rfl (pa_cons (pv 1) (pa_cons (pe_int) (pa_nil)))) (fun _ _ => rfl)) (pa_cons (pe_int) (pa_nil)))) (pg_tup rfl (pgs_cons (pg_name (i := 7) sc_law.nd rfl (Or.inr rfl)) (pgs_cons (pg_name (i := 5) sc_law.nd rfl (Or.inl rfl)) (pgs_nil)))))) (pss_nil))
 (pss_cons (ps_set (i := 6) sc_law.nd rfl (Or.inl rfl) (pe_lst (pa_cons (pe_clo (lo := none) TB rfl (by show ((("law" : Str) ++ (".<locals>." : Str)) ++ ("<lambda>" : Str)) = q0; decide +kernel) (lamB2_ok (by show lamB2 (defScope s_law) _ _ N_law = true; decide +kernel)) (by exact rfl) (fun _ _ _ _ _ _ => rfl) (k := 12) (fun A' outer' s' H' E' f' c' hr => pe_cOXr x_rcall hr (by first | exact Nat.le_refl _ | decide | omega) (passes_call (takes_of rfl rfl rfl rfl) (fun _ _ _ _ h => h)) (pv 8) (pa_cons (pv 7) (pa_nil)))) (pa_cons (pe_clo (lo := some "_law_a") TB rfl (by show ((("law" : Str) ++ (".<locals>." : Str)) ++ ("<lambda>" : Str)) = q0; decide +kernel) (lamB2_ok (by show lamB2 (defScope s_law) _ _ N_law = true; decide +kernel)) ⟨_, _, rfl, rfl, rfl⟩ (fun _ _ _ _ _ _ _ => ⟨_, rfl, fun _ => rfl⟩) (k := 12) (fun A' outer' s' H' E' f' c' hr => pe_fX (X := LamX.lamCx _ A' outer' s' H' E' _ f' c') x_memory_of hr (by first | exact Nat.le_refl _ | decide | omega) (passes_call (takes_of rfl rfl rfl rfl) (fun _ _ _ _ h => h)) rfl (pa_cons (pv 7) (pa_nil)))) (pa_cons (pe_clo (lo := some "_law_b") TB rfl (by show ((("law" : Str) ++ (".<locals>." : Str)) ++ ("<lambda>" : Str)) = q0; decide +kernel) (lamB2_ok (by show lamB2 (defScope s_law) _ _ N_law = true; decide +kernel)) ⟨_, _, rfl, rfl, rfl⟩ (fun _ _ _ _ _ _ _ => ⟨_, rfl, fun _ => rfl⟩) (k := 12) (fun A' outer' s' H' E' f' c' hr => pe_fX (X := LamX.lamCx _ A' outer' s' H' E' _ f' c') x_loops hr (by first | exact Nat.le_refl _ | decide | omega) (passes_call (takes_of rfl rfl rfl rfl) (fun _ _ _ _ h => h)) rfl (pa_cons (pv 7) (pa_nil)))) (pa_cons (pe_clo (lo := some "_law_c") TB rfl (by show ((("law" : Str) ++ (".<locals>." : Str)) ++ ("<lambda>" : Str)) = q0; decide +kernel) (lamB2_ok (by show lamB2 (defScope s_law) _ _ N_law = true; decide +kernel)) ⟨_, _, rfl, rfl, rfl⟩ (fun _ _ _ _ _ _ _ => ⟨_, rfl, fun _ => rfl⟩) (k := 12) (fun A' outer' s' H' E' f' c' hr => pe_fX (X := LamX.lamCx _ A' outer' s' H' E' _ f' c') x_travel hr (by first | exact Nat.le_refl _ | decide | omega) (passes_call (takes_of rfl rfl rfl rfl) (fun _ _ _ _ h => h)) rfl (pa_cons (pv 8) (pa_cons (pv 7) (pa_nil))))) (pa_nil)))))))
 (pss_cons (ps_set (i := 6) sc_law.nd rfl (Or.inl rfl) (pe_op opAdd (pv 6) (pe_lst (pa_cons (pe_clo (lo := some "_law_e") TB rfl (by show ((("law" : Str) ++ (".<locals>." : Str)) ++ ("<lambda>" : Str)) = q0; decide +kernel) (lamB2_ok (by show lamB2 (defScope s_law) _ _ N_law = true; decide +kernel)) ⟨_, _, rfl, rfl, rfl⟩ (fun _ _ _ _ _ _ _ => ⟨_, rfl, fun _ => rfl⟩) (k := 12) (fun A' outer' s' H' E' f' c' hr => pe_fX (X := LamX.lamCx _ A' outer' s' H' E' _ f' c') x_recorded hr (by first | exact Nat.le_refl _ | decide | omega) (passes_call (takes_of rfl rfl rfl rfl) (fun _ _ _ _ h => h)) rfl (pa_cons (pv 8) (pa_cons (pv 7) (pa_nil))))) (pa_cons (pe_clo (lo := some "_law_f") TB rfl (by show ((("law" : Str) ++ (".<locals>." : Str)) ++ ("<lambda>" : Str)) = q0; decide +kernel) (lamB2_ok (by show lamB2 (defScope s_law) _ _ N_law = true; decide +kernel)) ⟨_, _, rfl, rfl, rfl⟩ (fun _ _ _ _ _ _ _ => ⟨_, rfl, fun _ => rfl⟩) (k := 12) (fun A' outer' s' H' E' f' c' hr => pe_mkX (X := LamX.lamCx _ A' outer' s' H' E' _ f' c') x_Repeated hr (by first | exact Nat.le_refl _ | decide | omega) (passes_call (takes_of rfl rfl rfl rfl) (fun _ _ _ _ h => h)) rfl (pa_cons (pv 8) (pa_cons (pv 7) (pa_nil))))) (pa_nil))))))
 (pss_cons (ps_if (pt_not (pt_val (pe_lent c__law_all_raise hr (by first | exact Nat.le_refl _ | decide | omega) (fun _ => rfl) ⟨rfl, rfl⟩ rfl (pa_cons (pv 6) (pa_cons (pe_tup (pa_cons (pe_str) (pa_cons (pv 5) (pa_nil)))) pa_nil))))) (pss_one (ps_ret (pe_bl))) (pss_nil))
 (pss_one (ps_ret (pe_and (pe_cmpR (opEq hr.units) (pe_cO r_call hr (by first | exact Nat.le_refl _ | decide | omega) (pe_f c_rod hr (by first | exact Nat.le_refl _ | decide | omega) rfl (pa_cons (pe_int) (pa_nil))) (pa_cons (pe_lst (pa_cons (pe_int) (pa_cons (pe_op opSub (pe_int) (pe_int)) (pa_nil)))) (pa_nil))) (pe_lst (pa_cons (pe_int) (pa_cons (pe_op opSub (pe_int) (pe_int)) (pa_nil)))) (nomark _)) (pe_and (pe_cmpR (opEq hr.units) (pe_cO r_call hr (by first | exact Nat.le_refl _ | decide | omega) (pv 8) (pa_cons (pe_lst (pa_nil)) (pa_nil))) (pe_lst (pa_nil)) (nomark _)) (pe_one (pe_cmpR (opEq hr.units) (pe_get gx_places ckM.cl hr (by first | exact Nat.le_refl _ | decide | omega) (pe_f c_memory_of hr (by first | exact Nat.le_refl _ | decide | omega) rfl (pa_cons (pe_lst (pa_nil)) (pa_nil)))) (pe_tup (pa_cons (pe_int) (pa_nil))) (nomark _)))))))))))))))),
 esx_seq (ES.x (es_asg (ev_call (ea_cons (ev_var) (ea_cons (ev_int) (ea_nil)))) eg_name))
 (esx_seq (ES.x (es_asg (ev_tup (ea_cons (ev_call (ea_cons (ev_var) (ea_cons (ev_int) (ea_cons (ev_int) (ea_nil))))) (ea_cons (ev_call (ea_cons (ev_call (ea_cons (ev_var) (ea_cons (ev_int) (ea_nil)))) (ea_nil))) (ea_nil)))) (eg_tup (egs_cons (eg_name) (egs_cons (eg_name) (egs_nil))) (by rintro ws ρ Q ⟨_, _, rfl, _, _, rfl, rfl, -⟩; rfl))))
 (esx_seq (ES.x (es_asg (ev_op (ev_lst (ea_cons (ev_op (ev_int) (ev_call (ea_cons (ev_var) (ea_cons (ev_int) (ea_nil)))) eoAdd) (ea_cons (ev_op (ev_op (ev_int) (ev_int) eoSub) (ev_call (ea_cons (ev_var) (ea_cons (ev_int) (ea_nil)))) eoSub) (ea_cons (ev_non) (ea_cons (ev_bl) (ea_cons (ev_str) (ea_cons (ev_tup (ea_cons (ev_int) (ea_nil))) (ea_nil)))))))) (ev_call (ea_cons (ev_var) (ea_cons (ev_int) (ea_nil)))) eoIx) eg_name))
 (esx_seq (ES.x (es_asg (ev_call (ea_cons (ev_var) (ea_cons (ev_op (ev_fn (ea_cons (ev_var) (ea_nil)) en_len) (ev_int) eoAdd) (ea_nil)))) eg_name))
 (esx_seq (ES.x (es_asg (ev_tup (ea_cons (ev_op (ev_op (ev_sl (ev_var) ep_no (ep_at (ev_var))) (ev_lst (ea_cons (ev_var) (ea_nil))) eoAdd) (ev_sl (ev_var) (ep_at (ev_var)) ep_no) eoAdd) (ea_cons (ev_var) (ea_nil)))) (eg_tup (egs_cons (eg_name) (egs_cons (eg_name) (egs_nil))) (by rintro ws ρ Q ⟨_, _, rfl, _, _, rfl, rfl, -⟩; rfl))))
 (esx_seq (ES.x (es_if (et_test (ev_op (ev_call (ea_cons (ev_var) (ea_cons (ev_int) (ea_nil)))) (ev_int) eoEq)) (es_asg (ev_tup (ea_cons (ev_op (ev_op (ev_lst (ea_cons (ev_int) (ea_cons (ev_int) (ea_nil)))) (ev_int) eo_rep) (ev_lst (ea_cons (ev_int) (ea_nil))) eoAdd) (ea_cons (ev_int) (ea_nil)))) (eg_tup (egs_cons (eg_name) (egs_cons (eg_name) (egs_nil))) (by rintro ws ρ Q ⟨_, _, rfl, _, _, rfl, rfl, -⟩; rfl))) (es_next)))
 (esx_seq (ES.x (es_if (et_test (ev_op (ev_call (ea_cons (ev_var) (ea_cons (ev_int) (ea_nil)))) (ev_int) eoEq)) (es_asg (ev_tup (ea_cons (ev_op (ev_lst (ea_cons (ev_non) (ea_cons (ev_fn (ea_cons (ev_var) (ea_nil)) en_tuple) (ea_cons (ev_int) (ea_cons (ev_str) (ea_nil)))))) (ev_call (ea_cons (ev_var) (ea_cons (ev_int) (ea_nil)))) eoIx) (ea_cons (ev_int) (ea_nil)))) (eg_tup (egs_cons (eg_name) (egs_cons (eg_name) (egs_nil))) (by rintro ws ρ Q ⟨_, _, rfl, _, _, rfl, rfl, -⟩; rfl))) (es_next)))
 (esx_seq (esl_asg (evl_lst (eal_cons (evl_clo (fun E => evx_callOr (ev_var) (ea_cons (ev_var) (ea_nil)))) (eal_cons (evl_clo (fun E => evx_call (ea_cons (ev_var) (ea_nil)))) (eal_cons (evl_clo (fun E => evx_call (ea_cons (ev_var) (ea_nil)))) (eal_cons (evl_clo (fun E => evx_call (ea_cons (ev_var) (ea_cons (ev_var) (ea_nil))))) (eal_nil)))))) eg_name)
 (esx_seq (esl_asg (evl_op (Ev.l (ev_var)) (evl_lst (eal_cons (evl_clo (fun E => evx_call (ea_cons (ev_var) (ea_cons (ev_var) (ea_nil))))) (eal_cons (evl_clo (fun E => evx_mkE hx_Repeated (ea_cons (ev_var) (ea_cons (ev_var) (ea_nil))))) (eal_nil)))) eoAdd) eg_name)
 (esx_seq (esl_if (etl_not (etl_b (evl_allR2 (Ev.l (ev_var)) (Ev.l (ev_tup (ea_cons (ev_str) (ea_cons (ev_var) (ea_nil)))))))) (ES.x (es_ret (ev_bl))) (ES.x es_next))
 (ES.x (es_ret (ev_and (ev_op (ev_callO (ev_call (ea_cons (ev_int) (ea_nil))) (ea_cons (ev_lst (ea_cons (ev_int) (ea_cons (ev_op (ev_int) (ev_int) eoSub) (ea_nil)))) (ea_nil))) (ev_lst (ea_cons (ev_int) (ea_cons (ev_op (ev_int) (ev_int) eoSub) (ea_nil)))) eoEq) (ev_and (ev_op (ev_callO (ev_var) (ea_cons (ev_lst (ea_nil)) (ea_nil))) (ev_lst (ea_nil)) eoEq) (ev_op (ev_prop (ev_call (ea_cons (ev_lst (ea_nil)) (ea_nil)))) (ev_tup (ea_cons (ev_int) (ea_nil))) eoEq))))))))))))))⟩
  rintro X ns Q hl k
  have k : Q (.bl true) := k _ rfl
  have hl : ns.length ≤ 63 := hl
  simp only [XS.whole, ↓runA, ↓runC, ↓runD, ↓runE, ↓runF, ↓runG, ↓runH, ↓runI, ↓runJ, ↓runK, ↓runXL, ↓runXM, ↓runYM, ↓runZM, ↓reduceIte, runB, ite_and, Decidable.not_not, forall_eq, List.map_cons, List.map_nil, List.cons_append, List.nil_append, List.replicate_succ, List.replicate_zero, List.append_nil, List.set_cons_zero, List.set_cons_succ, List.getElem?_cons_zero, List.getElem?_cons_succ, Option.some.injEq, List.cons.injEq, exists_and_left, exists_eq_left', exists_eq_left, exists_false, exists_const, forall_eq', forall_eq, ints_inj, Prod.exists, reduceCtorEq, List.length_cons, List.length_nil, implies_true, forall_const, decide_eq_true_eq, decide_eq_false_iff_not, List.getElem?_nil, List.set_nil, if_true, if_false, ite_true, ite_false, eq_self, Prod.mk.injEq, Co.lst.injEq, Co.dct.injEq, Fr.mk.injEq, exists_eq, exists_eq', exists_eq_right, exists_and_right, Nat.zero_le, Nat.zero_add, Nat.reduceAdd, Nat.reduceLT, Nat.reduceLeDiff, Nat.reduceEqDiff, List.mem_cons, List.not_mem_nil, List.nodup_cons, List.nodup_nil, List.forall_mem_cons, forall_eq_or_imp, List.getD_cons_zero, List.getD_cons_succ, List.mem_singleton, ne_eq, List.append_assoc, runXC, runXD, runXJ, xc_law]
  (rw [d_seq0]; simp only [XS.whole, ↓runA, ↓runC, ↓runD, ↓runE, ↓runF, ↓runG, ↓runH, ↓runI, ↓runJ, ↓runK, ↓runXL, ↓runXM, ↓runYM, ↓runZM, ↓reduceIte, runB, ite_and, Decidable.not_not, forall_eq, List.map_cons, List.map_nil, List.cons_append, List.nil_append, List.replicate_succ, List.replicate_zero, List.append_nil, List.set_cons_zero, List.set_cons_succ, List.getElem?_cons_zero, List.getElem?_cons_succ, Option.some.injEq, List.cons.injEq, exists_and_left, exists_eq_left', exists_eq_left, exists_false, exists_const, forall_eq', forall_eq, ints_inj, Prod.exists, reduceCtorEq, List.length_cons, List.length_nil, implies_true, forall_const, decide_eq_true_eq, decide_eq_false_iff_not, List.getElem?_nil, List.set_nil, if_true, if_false, ite_true, ite_false, eq_self, Prod.mk.injEq, Co.lst.injEq, Co.dct.injEq, Fr.mk.injEq, exists_eq, exists_eq', exists_eq_right, exists_and_right, Nat.zero_le, Nat.zero_add, Nat.reduceAdd, Nat.reduceLT, Nat.reduceLeDiff, Nat.reduceEqDiff, List.mem_cons, List.not_mem_nil, List.nodup_cons, List.nodup_nil, List.forall_mem_cons, forall_eq_or_imp, List.getD_cons_zero, List.getD_cons_succ, List.mem_singleton, ne_eq, List.append_assoc, runXC, runXD, runXJ])
  refine ⟨by decide, by decide, hl, ?_⟩
  (rw [d_seq0]; simp only [XS.whole, ↓runA, ↓runC, ↓runD, ↓runE, ↓runF, ↓runG, ↓runH, ↓runI, ↓runJ, ↓runK, ↓runXL, ↓runXM, ↓runYM, ↓runZM, ↓reduceIte, runB, ite_and, Decidable.not_not, forall_eq, List.map_cons, List.map_nil, List.cons_append, List.nil_append, List.replicate_succ, List.replicate_zero, List.append_nil, List.set_cons_zero, List.set_cons_succ, List.getElem?_cons_zero, List.getElem?_cons_succ, Option.some.injEq, List.cons.injEq, exists_and_left, exists_eq_left', exists_eq_left, exists_false, exists_const, forall_eq', forall_eq, ints_inj, Prod.exists, reduceCtorEq, List.length_cons, List.length_nil, implies_true, forall_const, decide_eq_true_eq, decide_eq_false_iff_not, List.getElem?_nil, List.set_nil, if_true, if_false, ite_true, ite_false, eq_self, Prod.mk.injEq, Co.lst.injEq, Co.dct.injEq, Fr.mk.injEq, exists_eq, exists_eq', exists_eq_right, exists_and_right, Nat.zero_le, Nat.zero_add, Nat.reduceAdd, Nat.reduceLT, Nat.reduceLeDiff, Nat.reduceEqDiff, List.mem_cons, List.not_mem_nil, List.nodup_cons, List.nodup_nil, List.forall_mem_cons, forall_eq_or_imp, List.getD_cons_zero, List.getD_cons_succ, List.mem_singleton, ne_eq, List.append_assoc, runXC, runXD, runXJ])
  refine ⟨by decide, by decide, by decide, by decide, fun row ⟨hrl, hrb⟩ => ⟨by decide, by decide, fun s0 hs0 => ⟨by omega, by omega, ?_⟩⟩⟩
  (rw [d_seq0]; simp only [XS.whole, ↓runA, ↓runC, ↓runD, ↓runE, ↓runF, ↓runG, ↓runH, ↓runI, ↓runJ, ↓runK, ↓runXL, ↓runXM, ↓runYM, ↓runZM, ↓reduceIte, runB, ite_and, Decidable.not_not, forall_eq, List.map_cons, List.map_nil, List.cons_append, List.nil_append, List.replicate_succ, List.replicate_zero, List.append_nil, List.set_cons_zero, List.set_cons_succ, List.getElem?_cons_zero, List.getElem?_cons_succ, Option.some.injEq, List.cons.injEq, exists_and_left, exists_eq_left', exists_eq_left, exists_false, exists_const, forall_eq', forall_eq, ints_inj, Prod.exists, reduceCtorEq, List.length_cons, List.length_nil, implies_true, forall_const, decide_eq_true_eq, decide_eq_false_iff_not, List.getElem?_nil, List.set_nil, if_true, if_false, ite_true, ite_false, eq_self, Prod.mk.injEq, Co.lst.injEq, Co.dct.injEq, Fr.mk.injEq, exists_eq, exists_eq', exists_eq_right, exists_and_right, Nat.zero_le, Nat.zero_add, Nat.reduceAdd, Nat.reduceLT, Nat.reduceLeDiff, Nat.reduceEqDiff, List.mem_cons, List.not_mem_nil, List.nodup_cons, List.nodup_nil, List.forall_mem_cons, forall_eq_or_imp, List.getD_cons_zero, List.getD_cons_succ, List.mem_singleton, ne_eq, List.append_assoc, runXC, runXD, runXJ])
  have hp : ∀ x ∈ row, isPl x = true := fun x hx => isPl_of (by have := hrb x hx; omega)
  refine ⟨by decide, by decide, fun x hx => ⟨by decide, by decide, fun y hy => ⟨by decide, by decide, fun z hz => ?_⟩⟩⟩
  have odd : ∃ w, atI [W.int (1000001 + x), W.int (0 - 1000001 - y), W.non, W.bl true, W.str (Str.ofString "1"), W.tup [W.int 1]] z = some w ∧ isNum w (-1000000) 1000000 = false ∧ w.tyn.isSome = true := by
    obtain rfl | rfl | rfl | rfl | rfl | rfl : z = 0 ∨ z = 1 ∨ z = 2 ∨ z = 3 ∨ z = 4 ∨ z = 5 := by omega
    · exact ⟨_, rfl, by show (decide _ && decide _) = false; rw [Bool.and_eq_false_iff]; exact .inr (decide_eq_false (by omega)), rfl⟩
    · exact ⟨_, rfl, by show (decide _ && decide _) = false; rw [Bool.and_eq_false_iff]; exact .inl (decide_eq_false (by omega)), rfl⟩
    all_goals exact ⟨_, rfl, rfl, rfl⟩
  obtain ⟨u, hu, u1, u2⟩ := odd
  refine ⟨u, hu, ?_⟩
  dsimp only
  (rw [d_seq0]; simp only [XS.whole, ↓runA, ↓runC, ↓runD, ↓runE, ↓runF, ↓runG, ↓runH, ↓runI, ↓runJ, ↓runK, ↓runXL, ↓runXM, ↓runYM, ↓runZM, ↓reduceIte, runB, ite_and, Decidable.not_not, forall_eq, List.map_cons, List.map_nil, List.cons_append, List.nil_append, List.replicate_succ, List.replicate_zero, List.append_nil, List.set_cons_zero, List.set_cons_succ, List.getElem?_cons_zero, List.getElem?_cons_succ, Option.some.injEq, List.cons.injEq, exists_and_left, exists_eq_left', exists_eq_left, exists_false, exists_const, forall_eq', forall_eq, ints_inj, Prod.exists, reduceCtorEq, List.length_cons, List.length_nil, implies_true, forall_const, decide_eq_true_eq, decide_eq_false_iff_not, List.getElem?_nil, List.set_nil, if_true, if_false, ite_true, ite_false, eq_self, Prod.mk.injEq, Co.lst.injEq, Co.dct.injEq, Fr.mk.injEq, exists_eq, exists_eq', exists_eq_right, exists_and_right, Nat.zero_le, Nat.zero_add, Nat.reduceAdd, Nat.reduceLT, Nat.reduceLeDiff, Nat.reduceEqDiff, List.mem_cons, List.not_mem_nil, List.nodup_cons, List.nodup_nil, List.forall_mem_cons, forall_eq_or_imp, List.getD_cons_zero, List.getD_cons_succ, List.mem_singleton, ne_eq, List.append_assoc, runXC, runXD, runXJ])
  rw [List.length_map]
  refine ⟨by omega, by omega, fun v hv => ?_⟩
  obtain ⟨q, rfl⟩ : ∃ q : Nat, v = (q : Int) := ⟨v.toNat, by omega⟩
  have hb := bad_row (l := row) (u := u) (q := q) hp (by omega) (by omega) u1 u2
  (rw [d_seq0]; simp only [XS.whole, ↓runA, ↓runC, ↓runD, ↓runE, ↓runF, ↓runG, ↓runH, ↓runI, ↓runJ, ↓runK, ↓runXL, ↓runXM, ↓runYM, ↓runZM, ↓reduceIte, runB, ite_and, Decidable.not_not, forall_eq, List.map_cons, List.map_nil, List.cons_append, List.nil_append, List.replicate_succ, List.replicate_zero, List.append_nil, List.set_cons_zero, List.set_cons_succ, List.getElem?_cons_zero, List.getElem?_cons_succ, Option.some.injEq, List.cons.injEq, exists_and_left, exists_eq_left', exists_eq_left, exists_false, exists_const, forall_eq', forall_eq, ints_inj, Prod.exists, reduceCtorEq, List.length_cons, List.length_nil, implies_true, forall_const, decide_eq_true_eq, decide_eq_false_iff_not, List.getElem?_nil, List.set_nil, if_true, if_false, ite_true, ite_false, eq_self, Prod.mk.injEq, Co.lst.injEq, Co.dct.injEq, Fr.mk.injEq, exists_eq, exists_eq', exists_eq_right, exists_and_right, Nat.zero_le, Nat.zero_add, Nat.reduceAdd, Nat.reduceLT, Nat.reduceLeDiff, Nat.reduceEqDiff, List.mem_cons, List.not_mem_nil, List.nodup_cons, List.nodup_nil, List.forall_mem_cons, forall_eq_or_imp, List.getD_cons_zero, List.getD_cons_succ, List.mem_singleton, ne_eq, List.append_assoc, runXC, runXD, runXJ])
  rw [cutW_to, cutD_from]
  refine ⟨by rw [List.length_take, List.length_map]; omega, by rw [List.length_append, List.length_take, List.length_drop, List.length_map]; show _ + 1 + _ ≤ _; omega, ?_⟩
  refine d_cut0 fun κ1 kk rt1 => ?_
  have nx1 : ∀ g i, BadRow g i → κ1.nx ⟨[some (.scr ns), some .src, some (.lst (row.map W.int)), some u, some (.int (q : Int)), some (.int i), none, some g, some (.rig (armT (.rod s0)))], none⟩ := by
    intro g i hb1
    apply kk
    refine d_cut0 fun κ2 kk2 rt2 => ?_
    have nx2 : ∀ g i, BadRow g i → κ2.nx ⟨[some (.scr ns), some .src, some (.lst (row.map W.int)), some u, some (.int (q : Int)), some (.int i), none, some g, some (.rig (armT (.rod s0)))], none⟩ := by
      intro g i hb2
      apply kk2
      (rw [d_seq0]; simp only [XS.whole, ↓runA, ↓runC, ↓runD, ↓runE, ↓runF, ↓runG, ↓runH, ↓runI, ↓runJ, ↓runK, ↓runXL, ↓runXM, ↓runYM, ↓runZM, ↓reduceIte, runB, ite_and, Decidable.not_not, forall_eq, List.map_cons, List.map_nil, List.cons_append, List.nil_append, List.replicate_succ, List.replicate_zero, List.append_nil, List.set_cons_zero, List.set_cons_succ, List.getElem?_cons_zero, List.getElem?_cons_succ, Option.some.injEq, List.cons.injEq, exists_and_left, exists_eq_left', exists_eq_left, exists_false, exists_const, forall_eq', forall_eq, ints_inj, Prod.exists, reduceCtorEq, List.length_cons, List.length_nil, implies_true, forall_const, decide_eq_true_eq, decide_eq_false_iff_not, List.getElem?_nil, List.set_nil, if_true, if_false, ite_true, ite_false, eq_self, Prod.mk.injEq, Co.lst.injEq, Co.dct.injEq, Fr.mk.injEq, exists_eq, exists_eq', exists_eq_right, exists_and_right, Nat.zero_le, Nat.zero_add, Nat.reduceAdd, Nat.reduceLT, Nat.reduceLeDiff, Nat.reduceEqDiff, List.mem_cons, List.not_mem_nil, List.nodup_cons, List.nodup_nil, List.forall_mem_cons, forall_eq_or_imp, List.getD_cons_zero, List.getD_cons_succ, List.mem_singleton, ne_eq, List.append_assoc, runXC, runXD, runXJ])
      (rw [d_seq0]; simp only [XS.whole, ↓runA, ↓runC, ↓runD, ↓runE, ↓runF, ↓runG, ↓runH, ↓runI, ↓runJ, ↓runK, ↓runXL, ↓runXM, ↓runYM, ↓runZM, ↓reduceIte, runB, ite_and, Decidable.not_not, forall_eq, List.map_cons, List.map_nil, List.cons_append, List.nil_append, List.replicate_succ, List.replicate_zero, List.append_nil, List.set_cons_zero, List.set_cons_succ, List.getElem?_cons_zero, List.getElem?_cons_succ, Option.some.injEq, List.cons.injEq, exists_and_left, exists_eq_left', exists_eq_left, exists_false, exists_const, forall_eq', forall_eq, ints_inj, Prod.exists, reduceCtorEq, List.length_cons, List.length_nil, implies_true, forall_const, decide_eq_true_eq, decide_eq_false_iff_not, List.getElem?_nil, List.set_nil, if_true, if_false, ite_true, ite_false, eq_self, Prod.mk.injEq, Co.lst.injEq, Co.dct.injEq, Fr.mk.injEq, exists_eq, exists_eq', exists_eq_right, exists_and_right, Nat.zero_le, Nat.zero_add, Nat.reduceAdd, Nat.reduceLT, Nat.reduceLeDiff, Nat.reduceEqDiff, List.mem_cons, List.not_mem_nil, List.nodup_cons, List.nodup_nil, List.forall_mem_cons, forall_eq_or_imp, List.getD_cons_zero, List.getD_cons_succ, List.mem_singleton, ne_eq, List.append_assoc, runXC, runXD, runXJ])
      (rw [d_seq0]; simp only [XS.whole, ↓runA, ↓runC, ↓runD, ↓runE, ↓runF, ↓runG, ↓runH, ↓runI, ↓runJ, ↓runK, ↓runXL, ↓runXM, ↓runYM, ↓runZM, ↓reduceIte, runB, ite_and, Decidable.not_not, forall_eq, List.map_cons, List.map_nil, List.cons_append, List.nil_append, List.replicate_succ, List.replicate_zero, List.append_nil, List.set_cons_zero, List.set_cons_succ, List.getElem?_cons_zero, List.getElem?_cons_succ, Option.some.injEq, List.cons.injEq, exists_and_left, exists_eq_left', exists_eq_left, exists_false, exists_const, forall_eq', forall_eq, ints_inj, Prod.exists, reduceCtorEq, List.length_cons, List.length_nil, implies_true, forall_const, decide_eq_true_eq, decide_eq_false_iff_not, List.getElem?_nil, List.set_nil, if_true, if_false, ite_true, ite_false, eq_self, Prod.mk.injEq, Co.lst.injEq, Co.dct.injEq, Fr.mk.injEq, exists_eq, exists_eq', exists_eq_right, exists_and_right, Nat.zero_le, Nat.zero_add, Nat.reduceAdd, Nat.reduceLT, Nat.reduceLeDiff, Nat.reduceEqDiff, List.mem_cons, List.not_mem_nil, List.nodup_cons, List.nodup_nil, List.forall_mem_cons, forall_eq_or_imp, List.getD_cons_zero, List.getD_cons_succ, List.mem_singleton, ne_eq, List.append_assoc, runXC, runXD, runXJ])
      refine ⟨pl_row i, ⟨_, rfl, ?_⟩, ⟨_, rfl, ?_⟩, ⟨_, rfl, ?_⟩, ⟨_, rfl, ?_⟩, ?_⟩
      · simp only [XS.whole, ↓runA, ↓runC, ↓runD, ↓runE, ↓runF, ↓runG, ↓runH, ↓runI, ↓runJ, ↓runK, ↓runXL, ↓runXM, ↓runYM, ↓runZM, ↓reduceIte, runB, ite_and, Decidable.not_not, forall_eq, List.map_cons, List.map_nil, List.cons_append, List.nil_append, List.replicate_succ, List.replicate_zero, List.append_nil, List.set_cons_zero, List.set_cons_succ, List.getElem?_cons_zero, List.getElem?_cons_succ, Option.some.injEq, List.cons.injEq, exists_and_left, exists_eq_left', exists_eq_left, exists_false, exists_const, forall_eq', forall_eq, ints_inj, Prod.exists, reduceCtorEq, List.length_cons, List.length_nil, implies_true, forall_const, decide_eq_true_eq, decide_eq_false_iff_not, List.getElem?_nil, List.set_nil, if_true, if_false, ite_true, ite_false, eq_self, Prod.mk.injEq, Co.lst.injEq, Co.dct.injEq, Fr.mk.injEq, exists_eq, exists_eq', exists_eq_right, exists_and_right, Nat.zero_le, Nat.zero_add, Nat.reduceAdd, Nat.reduceLT, Nat.reduceLeDiff, Nat.reduceEqDiff, List.mem_cons, List.not_mem_nil, List.nodup_cons, List.nodup_nil, List.forall_mem_cons, forall_eq_or_imp, List.getD_cons_zero, List.getD_cons_succ, List.mem_singleton, ne_eq, List.append_assoc, runXC, runXD, runXJ]
        exact ⟨i, hb2, t_row i⟩
      · simp only [XS.whole, ↓runA, ↓runC, ↓runD, ↓runE, ↓runF, ↓runG, ↓runH, ↓runI, ↓runJ, ↓runK, ↓runXL, ↓runXM, ↓runYM, ↓runZM, ↓reduceIte, runB, ite_and, Decidable.not_not, forall_eq, List.map_cons, List.map_nil, List.cons_append, List.nil_append, List.replicate_succ, List.replicate_zero, List.append_nil, List.set_cons_zero, List.set_cons_succ, List.getElem?_cons_zero, List.getElem?_cons_succ, Option.some.injEq, List.cons.injEq, exists_and_left, exists_eq_left', exists_eq_left, exists_false, exists_const, forall_eq', forall_eq, ints_inj, Prod.exists, reduceCtorEq, List.length_cons, List.length_nil, implies_true, forall_const, decide_eq_true_eq, decide_eq_false_iff_not, List.getElem?_nil, List.set_nil, if_true, if_false, ite_true, ite_false, eq_self, Prod.mk.injEq, Co.lst.injEq, Co.dct.injEq, Fr.mk.injEq, exists_eq, exists_eq', exists_eq_right, exists_and_right, Nat.zero_le, Nat.zero_add, Nat.reduceAdd, Nat.reduceLT, Nat.reduceLeDiff, Nat.reduceEqDiff, List.mem_cons, List.not_mem_nil, List.nodup_cons, List.nodup_nil, List.forall_mem_cons, forall_eq_or_imp, List.getD_cons_zero, List.getD_cons_succ, List.mem_singleton, ne_eq, List.append_assoc, runXC, runXD, runXJ]
        exact ⟨i, hb2, t_row i⟩
      · simp only [XS.whole, ↓runA, ↓runC, ↓runD, ↓runE, ↓runF, ↓runG, ↓runH, ↓runI, ↓runJ, ↓runK, ↓runXL, ↓runXM, ↓runYM, ↓runZM, ↓reduceIte, runB, ite_and, Decidable.not_not, forall_eq, List.map_cons, List.map_nil, List.cons_append, List.nil_append, List.replicate_succ, List.replicate_zero, List.append_nil, List.set_cons_zero, List.set_cons_succ, List.getElem?_cons_zero, List.getElem?_cons_succ, Option.some.injEq, List.cons.injEq, exists_and_left, exists_eq_left', exists_eq_left, exists_false, exists_const, forall_eq', forall_eq, ints_inj, Prod.exists, reduceCtorEq, List.length_cons, List.length_nil, implies_true, forall_const, decide_eq_true_eq, decide_eq_false_iff_not, List.getElem?_nil, List.set_nil, if_true, if_false, ite_true, ite_false, eq_self, Prod.mk.injEq, Co.lst.injEq, Co.dct.injEq, Fr.mk.injEq, exists_eq, exists_eq', exists_eq_right, exists_and_right, Nat.zero_le, Nat.zero_add, Nat.reduceAdd, Nat.reduceLT, Nat.reduceLeDiff, Nat.reduceEqDiff, List.mem_cons, List.not_mem_nil, List.nodup_cons, List.nodup_nil, List.forall_mem_cons, forall_eq_or_imp, List.getD_cons_zero, List.getD_cons_succ, List.mem_singleton, ne_eq, List.append_assoc, runXC, runXD, runXJ]
        exact ⟨i, hb2, t_row i⟩
      · simp only [XS.whole, ↓runA, ↓runC, ↓runD, ↓runE, ↓runF, ↓runG, ↓runH, ↓runI, ↓runJ, ↓runK, ↓runXL, ↓runXM, ↓runYM, ↓runZM, ↓reduceIte, runB, ite_and, Decidable.not_not, forall_eq, List.map_cons, List.map_nil, List.cons_append, List.nil_append, List.replicate_succ, List.replicate_zero, List.append_nil, List.set_cons_zero, List.set_cons_succ, List.getElem?_cons_zero, List.getElem?_cons_succ, Option.some.injEq, List.cons.injEq, exists_and_left, exists_eq_left', exists_eq_left, exists_false, exists_const, forall_eq', forall_eq, ints_inj, Prod.exists, reduceCtorEq, List.length_cons, List.length_nil, implies_true, forall_const, decide_eq_true_eq, decide_eq_false_iff_not, List.getElem?_nil, List.set_nil, if_true, if_false, ite_true, ite_false, eq_self, Prod.mk.injEq, Co.lst.injEq, Co.dct.injEq, Fr.mk.injEq, exists_eq, exists_eq', exists_eq_right, exists_and_right, Nat.zero_le, Nat.zero_add, Nat.reduceAdd, Nat.reduceLT, Nat.reduceLeDiff, Nat.reduceEqDiff, List.mem_cons, List.not_mem_nil, List.nodup_cons, List.nodup_nil, List.forall_mem_cons, forall_eq_or_imp, List.getD_cons_zero, List.getD_cons_succ, List.mem_singleton, ne_eq, List.append_assoc, runXC, runXD, runXJ]
        exact ⟨i, hb2, t_row i⟩
      · have pI : ∀ l : List Int, Pl 60 (.lst (l.map .int)) := fun l x hx => by
          obtain ⟨n, _, rfl⟩ := List.mem_map.mp hx
          exact trivial
        have pT : ∀ l : List Int, Pl 60 (.tup (l.map .int)) := fun l x hx => by
          obtain ⟨n, _, rfl⟩ := List.mem_map.mp hx
          exact trivial
        have ok : ∀ s : Int, 0 ≤ s ∧ s ≤ 99 → okT (.rod s) := fun s h => by refine ⟨?_, ?_, ?_, ?_⟩ <;> simp [goodT, cntT, totT, lipT] <;> omega
        have e1 : pathT (.rod 0) [1000000, -1000000] = [1000000, -1000000] := by decide +kernel
        rw [show W.int (0 - 1000000) = W.int (-1000000) from rfl]
        refine ⟨by decide, by decide, .rod 0, rfl, [1000000, -1000000], rfl, ok 0 (by decide), by decide, by decide, pI _, pI [1000000, -1000000], fun _ => ⟨.rod s0, rfl, [], rfl, ok s0 (by omega), by decide, fun _ h => (nomatch h), pI _, pI [], fun _ => ⟨[], rfl, by decide, fun _ h => (nomatch h), pT _, pT [0], by rw [show memF [] = [0] from rfl, decide_eq_true (show List.map W.int [0] = [W.int 0] from rfl)]; exact k⟩, fun h => absurd rfl h⟩, fun h => absurd (by rw [e1]; rfl) h⟩
    clear kk2
    simp only [XS.whole, ↓runA, ↓runC, ↓runD, ↓runE, ↓runF, ↓runG, ↓runH, ↓runI, ↓runJ, ↓runK, ↓runXL, ↓runXM, ↓runYM, ↓runZM, ↓reduceIte, runB, ite_and, Decidable.not_not, forall_eq, List.map_cons, List.map_nil, List.cons_append, List.nil_append, List.replicate_succ, List.replicate_zero, List.append_nil, List.set_cons_zero, List.set_cons_succ, List.getElem?_cons_zero, List.getElem?_cons_succ, Option.some.injEq, List.cons.injEq, exists_and_left, exists_eq_left', exists_eq_left, exists_false, exists_const, forall_eq', forall_eq, ints_inj, Prod.exists, reduceCtorEq, List.length_cons, List.length_nil, implies_true, forall_const, decide_eq_true_eq, decide_eq_false_iff_not, List.getElem?_nil, List.set_nil, if_true, if_false, ite_true, ite_false, eq_self, Prod.mk.injEq, Co.lst.injEq, Co.dct.injEq, Fr.mk.injEq, exists_eq, exists_eq', exists_eq_right, exists_and_right, Nat.zero_le, Nat.zero_add, Nat.reduceAdd, Nat.reduceLT, Nat.reduceLeDiff, Nat.reduceEqDiff, List.mem_cons, List.not_mem_nil, List.nodup_cons, List.nodup_nil, List.forall_mem_cons, forall_eq_or_imp, List.getD_cons_zero, List.getD_cons_succ, List.mem_singleton, ne_eq, List.append_assoc, runXC, runXD, runXJ]
    refine ⟨by decide, by decide, fun x hx => ⟨fun _ => ⟨by decide, by decide, fun y hy => ?_⟩, fun _ => nx2 _ _ hb1⟩⟩
    obtain rfl | rfl | rfl | rfl : y = 0 ∨ y = 1 ∨ y = 2 ∨ y = 3 := by omega
    · exact ⟨_, rfl, nx2 _ _ .non⟩
    · exact ⟨_, rfl, nx2 _ _ (.tup _)⟩
    · exact ⟨_, rfl, nx2 _ _ (.int _)⟩
    · exact ⟨_, rfl, nx2 _ _ (.str _)⟩
  clear kk
  have nb := nx1 _ _ hb
  simp only [XS.whole, ↓runA, ↓runC, ↓runD, ↓runE, ↓runF, ↓runG, ↓runH, ↓runI, ↓runJ, ↓runK, ↓runXL, ↓runXM, ↓runYM, ↓runZM, ↓reduceIte, runB, ite_and, Decidable.not_not, forall_eq, List.map_cons, List.map_nil, List.cons_append, List.nil_append, List.replicate_succ, List.replicate_zero, List.append_nil, List.set_cons_zero, List.set_cons_succ, List.getElem?_cons_zero, List.getElem?_cons_succ, Option.some.injEq, List.cons.injEq, exists_and_left, exists_eq_left', exists_eq_left, exists_false, exists_const, forall_eq', forall_eq, ints_inj, Prod.exists, reduceCtorEq, List.length_cons, List.length_nil, implies_true, forall_const, decide_eq_true_eq, decide_eq_false_iff_not, List.getElem?_nil, List.set_nil, if_true, if_false, ite_true, ite_false, eq_self, Prod.mk.injEq, Co.lst.injEq, Co.dct.injEq, Fr.mk.injEq, exists_eq, exists_eq', exists_eq_right, exists_and_right, Nat.zero_le, Nat.zero_add, Nat.reduceAdd, Nat.reduceLT, Nat.reduceLeDiff, Nat.reduceEqDiff, List.mem_cons, List.not_mem_nil, List.nodup_cons, List.nodup_nil, List.forall_mem_cons, forall_eq_or_imp, List.getD_cons_zero, List.getD_cons_succ, List.mem_singleton, ne_eq, List.append_assoc, runXC, runXD, runXJ]
  exact ⟨by decide, by decide, fun x hx => ⟨fun _ => ⟨by decide, by decide, by decide, by decide +kernel, nx1 _ _ bad_long⟩, fun _ => nb⟩⟩
end
end L
theorem all_mk {l : PySem.W.OpenLaw} {w : World} {K : PySem.W.Frag} {h : Heap} {mg : Str → Option Value} {fa f__law_random f__law_below f__law_row f_is_whole_number f_is_number f__check_arms f_rod f_is_place f_check_row f_ends_of_rod f_ends_of_arms f__is_between f_count_kept f_after_move f__fits f__check_places f_memory_of f__law_error_of f__law_all_raise f_loops f_travel f_recorded f__check_moves f_law C_Rig f_Rig__init_ f_Rig__call_ C_Memory f_Memory__init_ f_Memory_places p_Memory_places C_Repeated f_Repeated__init_ c0_law Pt_law E_InvalidSlack E_InvalidTimes E_NotForward E_TooGreat E_InvalidPlace E_InvalidCount E_InvalidRange E_OutOfBound E_Contradiction E_InvalidName E_UnknownName E_InvalidPanel E_UnlikeRigs E_InvalidRow E_InvalidEnds E_InvalidMemory E_InvalidOperation E_InvalidRecording E_NotationError E_DecodeError E_RodError f_InvalidRow__init_ cda_InvalidRow__init_ cc_InvalidRow__init_ : Addr} (X : K.In h) (G : h.Ns mainGlobals mg) (hfa : mg "law" = some (.ref fa))
    {od__law_random an__law_random : Option Addr} {sl__law_random : Array (Option Value)} {oc__law_random kV__law_random dc__law_random pm__law_random cd__law_random ct__law_random : Value}
    {od__law_below an__law_below : Option Addr} {sl__law_below : Array (Option Value)} {oc__law_below kV__law_below dc__law_below pm__law_below cd__law_below ct__law_below : Value}
    {od__law_row an__law_row : Option Addr} {sl__law_row : Array (Option Value)} {oc__law_row kV__law_row dc__law_row pm__law_row cd__law_row ct__law_row : Value}
    {od_is_whole_number an_is_whole_number : Option Addr} {sl_is_whole_number : Array (Option Value)} {oc_is_whole_number kV_is_whole_number dc_is_whole_number pm_is_whole_number cd_is_whole_number ct_is_whole_number : Value}
    {od_is_number an_is_number : Option Addr} {sl_is_number : Array (Option Value)} {oc_is_number kV_is_number dc_is_number pm_is_number cd_is_number ct_is_number : Value}
    {od__check_arms an__check_arms : Option Addr} {sl__check_arms : Array (Option Value)} {oc__check_arms kV__check_arms dc__check_arms pm__check_arms cd__check_arms ct__check_arms : Value}
    {od_rod an_rod : Option Addr} {sl_rod : Array (Option Value)} {oc_rod kV_rod dc_rod pm_rod cd_rod ct_rod : Value}
    {od_is_place an_is_place : Option Addr} {sl_is_place : Array (Option Value)} {oc_is_place kV_is_place dc_is_place pm_is_place cd_is_place ct_is_place : Value}
    {od_check_row an_check_row : Option Addr} {sl_check_row : Array (Option Value)} {oc_check_row kV_check_row dc_check_row pm_check_row cd_check_row ct_check_row : Value}
    {od_ends_of_rod an_ends_of_rod : Option Addr} {sl_ends_of_rod : Array (Option Value)} {oc_ends_of_rod kV_ends_of_rod dc_ends_of_rod pm_ends_of_rod cd_ends_of_rod ct_ends_of_rod : Value}
    {od_ends_of_arms an_ends_of_arms : Option Addr} {sl_ends_of_arms : Array (Option Value)} {oc_ends_of_arms kV_ends_of_arms dc_ends_of_arms pm_ends_of_arms cd_ends_of_arms ct_ends_of_arms : Value}
    {od__is_between an__is_between : Option Addr} {sl__is_between : Array (Option Value)} {oc__is_between kV__is_between dc__is_between pm__is_between cd__is_between ct__is_between : Value}
    {od_count_kept an_count_kept : Option Addr} {sl_count_kept : Array (Option Value)} {oc_count_kept kV_count_kept dc_count_kept pm_count_kept cd_count_kept ct_count_kept : Value}
    {od_after_move an_after_move : Option Addr} {sl_after_move : Array (Option Value)} {oc_after_move kV_after_move dc_after_move pm_after_move cd_after_move ct_after_move : Value}
    {od__fits an__fits : Option Addr} {sl__fits : Array (Option Value)} {oc__fits kV__fits dc__fits pm__fits cd__fits ct__fits : Value}
    {od__check_places an__check_places : Option Addr} {sl__check_places : Array (Option Value)} {oc__check_places kV__check_places dc__check_places pm__check_places cd__check_places ct__check_places : Value}
    {od_memory_of an_memory_of : Option Addr} {sl_memory_of : Array (Option Value)} {oc_memory_of kV_memory_of dc_memory_of pm_memory_of cd_memory_of ct_memory_of : Value}
    {od__law_error_of an__law_error_of : Option Addr} {sl__law_error_of : Array (Option Value)} {oc__law_error_of kV__law_error_of dc__law_error_of pm__law_error_of cd__law_error_of ct__law_error_of : Value}
    {od__law_all_raise an__law_all_raise : Option Addr} {sl__law_all_raise : Array (Option Value)} {oc__law_all_raise kV__law_all_raise dc__law_all_raise pm__law_all_raise cd__law_all_raise ct__law_all_raise : Value}
    {od_loops an_loops : Option Addr} {sl_loops : Array (Option Value)} {oc_loops kV_loops dc_loops pm_loops cd_loops ct_loops : Value}
    {od_travel an_travel : Option Addr} {sl_travel : Array (Option Value)} {oc_travel kV_travel dc_travel pm_travel cd_travel ct_travel : Value}
    {od_recorded an_recorded : Option Addr} {sl_recorded : Array (Option Value)} {oc_recorded kV_recorded dc_recorded pm_recorded cd_recorded ct_recorded : Value}
    {od__check_moves an__check_moves : Option Addr} {sl__check_moves : Array (Option Value)} {oc__check_moves kV__check_moves dc__check_moves pm__check_moves cd__check_moves ct__check_moves : Value}
    {od_law an_law : Option Addr} {sl_law : Array (Option Value)} {oc_law kV_law dc_law pm_law cd_law ct_law : Value}
    {od_Rig__init_ an_Rig__init_ : Option Addr} {sl_Rig__init_ : Array (Option Value)} {oc_Rig__init_ kV_Rig__init_ dc_Rig__init_ pm_Rig__init_ cd_Rig__init_ ct_Rig__init_ : Value}
    {od_Rig__call_ an_Rig__call_ : Option Addr} {sl_Rig__call_ : Array (Option Value)} {oc_Rig__call_ kV_Rig__call_ dc_Rig__call_ pm_Rig__call_ cd_Rig__call_ ct_Rig__call_ : Value}
    {od_Memory__init_ an_Memory__init_ : Option Addr} {sl_Memory__init_ : Array (Option Value)} {oc_Memory__init_ kV_Memory__init_ dc_Memory__init_ pm_Memory__init_ cd_Memory__init_ ct_Memory__init_ : Value}
    {r_Memory_places : List Value}
    {od_Memory_places an_Memory_places : Option Addr} {sl_Memory_places : Array (Option Value)} {oc_Memory_places kV_Memory_places dc_Memory_places pm_Memory_places cd_Memory_places ct_Memory_places : Value}
    {od_Repeated__init_ an_Repeated__init_ : Option Addr} {sl_Repeated__init_ : Array (Option Value)} {oc_Repeated__init_ kV_Repeated__init_ dc_Repeated__init_ pm_Repeated__init_ cd_Repeated__init_ ct_Repeated__init_ : Value}
    {ok_law : Value} {dk_law : Option Addr} {vk_law : Array Value} {sk_law : Array (Option Value)}
    {oc_InvalidRow__init_ kV_InvalidRow__init_ dc_InvalidRow__init_ pm_InvalidRow__init_ ct_InvalidRow__init_ ccl_InvalidRow__init_ cl_InvalidRow__init_ : Value} {od_InvalidRow__init_ an_InvalidRow__init_ cdd_InvalidRow__init_ cld_InvalidRow__init_ : Option Addr} {osl_InvalidRow__init_ ccs_InvalidRow__init_ csl_InvalidRow__init_ : Array (Option Value)} {vs_InvalidRow__init_ : Array Value} {file_InvalidRow__init_ : Str} {tf_InvalidRow__init_ : Tok}
    {u_FARTHEST : Value}
    {u_LONGEST_ROW : Value}
    {u_GREATEST_ROD : Value}
    {u_GREATEST_TIMES : Value}
    {u_GREATEST_SLACK : Value}
    {u_GREATEST_ARM : Value}
    {u_MOST_ARMS : Value}
    (a__law_random : PySem.W.nsIn K mainGlobals "_law_random" = some (some (.ref f__law_random)))
    (l__law_random : K.lookup f__law_random = some ⟨oc__law_random, od__law_random, .func (PySem.W.fnOf "_law_random" "_law_random" (defArgs s__law_random) (defBody s__law_random) (defScope s__law_random) .none kV__law_random dc__law_random pm__law_random an__law_random cd__law_random ct__law_random), sl__law_random⟩)
    (c__law_random : PySem.W.codeIn K cd__law_random "_law_random" = true)
    (k__law_random : PySem.W.keepIn K (.ref f__law_random) = true)
    (a__law_below : PySem.W.nsIn K mainGlobals "_law_below" = some (some (.ref f__law_below)))
    (l__law_below : K.lookup f__law_below = some ⟨oc__law_below, od__law_below, .func (PySem.W.fnOf "_law_below" "_law_below" (defArgs s__law_below) (defBody s__law_below) (defScope s__law_below) .none kV__law_below dc__law_below pm__law_below an__law_below cd__law_below ct__law_below), sl__law_below⟩)
    (c__law_below : PySem.W.codeIn K cd__law_below "_law_below" = true)
    (k__law_below : PySem.W.keepIn K (.ref f__law_below) = true)
    (a__law_row : PySem.W.nsIn K mainGlobals "_law_row" = some (some (.ref f__law_row)))
    (l__law_row : K.lookup f__law_row = some ⟨oc__law_row, od__law_row, .func (PySem.W.fnOf "_law_row" "_law_row" (defArgs s__law_row) (defBody s__law_row) (defScope s__law_row) .none kV__law_row dc__law_row pm__law_row an__law_row cd__law_row ct__law_row), sl__law_row⟩)
    (c__law_row : PySem.W.codeIn K cd__law_row "_law_row" = true)
    (k__law_row : PySem.W.keepIn K (.ref f__law_row) = true)
    (a_is_whole_number : PySem.W.nsIn K mainGlobals "is_whole_number" = some (some (.ref f_is_whole_number)))
    (l_is_whole_number : K.lookup f_is_whole_number = some ⟨oc_is_whole_number, od_is_whole_number, .func (PySem.W.fnOf "is_whole_number" "is_whole_number" (defArgs s_is_whole_number) (defBody s_is_whole_number) (defScope s_is_whole_number) .none kV_is_whole_number dc_is_whole_number pm_is_whole_number an_is_whole_number cd_is_whole_number ct_is_whole_number), sl_is_whole_number⟩)
    (c_is_whole_number : PySem.W.codeIn K cd_is_whole_number "is_whole_number" = true)
    (k_is_whole_number : PySem.W.keepIn K (.ref f_is_whole_number) = true)
    (a_is_number : PySem.W.nsIn K mainGlobals "is_number" = some (some (.ref f_is_number)))
    (l_is_number : K.lookup f_is_number = some ⟨oc_is_number, od_is_number, .func (PySem.W.fnOf "is_number" "is_number" (defArgs s_is_number) (defBody s_is_number) (defScope s_is_number) .none kV_is_number dc_is_number pm_is_number an_is_number cd_is_number ct_is_number), sl_is_number⟩)
    (c_is_number : PySem.W.codeIn K cd_is_number "is_number" = true)
    (k_is_number : PySem.W.keepIn K (.ref f_is_number) = true)
    (a__check_arms : PySem.W.nsIn K mainGlobals "_check_arms" = some (some (.ref f__check_arms)))
    (l__check_arms : K.lookup f__check_arms = some ⟨oc__check_arms, od__check_arms, .func (PySem.W.fnOf "_check_arms" "_check_arms" (defArgs s__check_arms) (defBody s__check_arms) (defScope s__check_arms) .none kV__check_arms dc__check_arms pm__check_arms an__check_arms cd__check_arms ct__check_arms), sl__check_arms⟩)
    (c__check_arms : PySem.W.codeIn K cd__check_arms "_check_arms" = true)
    (k__check_arms : PySem.W.keepIn K (.ref f__check_arms) = true)
    (a_rod : PySem.W.nsIn K mainGlobals "rod" = some (some (.ref f_rod)))
    (l_rod : K.lookup f_rod = some ⟨oc_rod, od_rod, .func (PySem.W.fnOf "rod" "rod" (defArgs s_rod) (defBody s_rod) (defScope s_rod) .none kV_rod dc_rod pm_rod an_rod cd_rod ct_rod), sl_rod⟩)
    (c_rod : PySem.W.codeIn K cd_rod "rod" = true)
    (k_rod : PySem.W.keepIn K (.ref f_rod) = true)
    (a_is_place : PySem.W.nsIn K mainGlobals "is_place" = some (some (.ref f_is_place)))
    (l_is_place : K.lookup f_is_place = some ⟨oc_is_place, od_is_place, .func (PySem.W.fnOf "is_place" "is_place" (defArgs s_is_place) (defBody s_is_place) (defScope s_is_place) .none kV_is_place dc_is_place pm_is_place an_is_place cd_is_place ct_is_place), sl_is_place⟩)
    (c_is_place : PySem.W.codeIn K cd_is_place "is_place" = true)
    (k_is_place : PySem.W.keepIn K (.ref f_is_place) = true)
    (a_check_row : PySem.W.nsIn K mainGlobals "check_row" = some (some (.ref f_check_row)))
    (l_check_row : K.lookup f_check_row = some ⟨oc_check_row, od_check_row, .func (PySem.W.fnOf "check_row" "check_row" (defArgs s_check_row) (defBody s_check_row) (defScope s_check_row) .none kV_check_row dc_check_row pm_check_row an_check_row cd_check_row ct_check_row), sl_check_row⟩)
    (c_check_row : PySem.W.codeIn K cd_check_row "check_row" = true)
    (k_check_row : PySem.W.keepIn K (.ref f_check_row) = true)
    (a_ends_of_rod : PySem.W.nsIn K mainGlobals "ends_of_rod" = some (some (.ref f_ends_of_rod)))
    (l_ends_of_rod : K.lookup f_ends_of_rod = some ⟨oc_ends_of_rod, od_ends_of_rod, .func (PySem.W.fnOf "ends_of_rod" "ends_of_rod" (defArgs s_ends_of_rod) (defBody s_ends_of_rod) (defScope s_ends_of_rod) .none kV_ends_of_rod dc_ends_of_rod pm_ends_of_rod an_ends_of_rod cd_ends_of_rod ct_ends_of_rod), sl_ends_of_rod⟩)
    (c_ends_of_rod : PySem.W.codeIn K cd_ends_of_rod "ends_of_rod" = true)
    (k_ends_of_rod : PySem.W.keepIn K (.ref f_ends_of_rod) = true)
    (a_ends_of_arms : PySem.W.nsIn K mainGlobals "ends_of_arms" = some (some (.ref f_ends_of_arms)))
    (l_ends_of_arms : K.lookup f_ends_of_arms = some ⟨oc_ends_of_arms, od_ends_of_arms, .func (PySem.W.fnOf "ends_of_arms" "ends_of_arms" (defArgs s_ends_of_arms) (defBody s_ends_of_arms) (defScope s_ends_of_arms) .none kV_ends_of_arms dc_ends_of_arms pm_ends_of_arms an_ends_of_arms cd_ends_of_arms ct_ends_of_arms), sl_ends_of_arms⟩)
    (c_ends_of_arms : PySem.W.codeIn K cd_ends_of_arms "ends_of_arms" = true)
    (k_ends_of_arms : PySem.W.keepIn K (.ref f_ends_of_arms) = true)
    (a__is_between : PySem.W.nsIn K mainGlobals "_is_between" = some (some (.ref f__is_between)))
    (l__is_between : K.lookup f__is_between = some ⟨oc__is_between, od__is_between, .func (PySem.W.fnOf "_is_between" "_is_between" (defArgs s__is_between) (defBody s__is_between) (defScope s__is_between) .none kV__is_between dc__is_between pm__is_between an__is_between cd__is_between ct__is_between), sl__is_between⟩)
    (c__is_between : PySem.W.codeIn K cd__is_between "_is_between" = true)
    (k__is_between : PySem.W.keepIn K (.ref f__is_between) = true)
    (a_count_kept : PySem.W.nsIn K mainGlobals "count_kept" = some (some (.ref f_count_kept)))
    (l_count_kept : K.lookup f_count_kept = some ⟨oc_count_kept, od_count_kept, .func (PySem.W.fnOf "count_kept" "count_kept" (defArgs s_count_kept) (defBody s_count_kept) (defScope s_count_kept) .none kV_count_kept dc_count_kept pm_count_kept an_count_kept cd_count_kept ct_count_kept), sl_count_kept⟩)
    (c_count_kept : PySem.W.codeIn K cd_count_kept "count_kept" = true)
    (k_count_kept : PySem.W.keepIn K (.ref f_count_kept) = true)
    (a_after_move : PySem.W.nsIn K mainGlobals "after_move" = some (some (.ref f_after_move)))
    (l_after_move : K.lookup f_after_move = some ⟨oc_after_move, od_after_move, .func (PySem.W.fnOf "after_move" "after_move" (defArgs s_after_move) (defBody s_after_move) (defScope s_after_move) .none kV_after_move dc_after_move pm_after_move an_after_move cd_after_move ct_after_move), sl_after_move⟩)
    (c_after_move : PySem.W.codeIn K cd_after_move "after_move" = true)
    (k_after_move : PySem.W.keepIn K (.ref f_after_move) = true)
    (a__fits : PySem.W.nsIn K mainGlobals "_fits" = some (some (.ref f__fits)))
    (l__fits : K.lookup f__fits = some ⟨oc__fits, od__fits, .func (PySem.W.fnOf "_fits" "_fits" (defArgs s__fits) (defBody s__fits) (defScope s__fits) .none kV__fits dc__fits pm__fits an__fits cd__fits ct__fits), sl__fits⟩)
    (c__fits : PySem.W.codeIn K cd__fits "_fits" = true)
    (k__fits : PySem.W.keepIn K (.ref f__fits) = true)
    (a__check_places : PySem.W.nsIn K mainGlobals "_check_places" = some (some (.ref f__check_places)))
    (l__check_places : K.lookup f__check_places = some ⟨oc__check_places, od__check_places, .func (PySem.W.fnOf "_check_places" "_check_places" (defArgs s__check_places) (defBody s__check_places) (defScope s__check_places) .none kV__check_places dc__check_places pm__check_places an__check_places cd__check_places ct__check_places), sl__check_places⟩)
    (c__check_places : PySem.W.codeIn K cd__check_places "_check_places" = true)
    (k__check_places : PySem.W.keepIn K (.ref f__check_places) = true)
    (a_memory_of : PySem.W.nsIn K mainGlobals "memory_of" = some (some (.ref f_memory_of)))
    (l_memory_of : K.lookup f_memory_of = some ⟨oc_memory_of, od_memory_of, .func (PySem.W.fnOf "memory_of" "memory_of" (defArgs s_memory_of) (defBody s_memory_of) (defScope s_memory_of) .none kV_memory_of dc_memory_of pm_memory_of an_memory_of cd_memory_of ct_memory_of), sl_memory_of⟩)
    (c_memory_of : PySem.W.codeIn K cd_memory_of "memory_of" = true)
    (k_memory_of : PySem.W.keepIn K (.ref f_memory_of) = true)
    (a__law_error_of : PySem.W.nsIn K mainGlobals "_law_error_of" = some (some (.ref f__law_error_of)))
    (l__law_error_of : K.lookup f__law_error_of = some ⟨oc__law_error_of, od__law_error_of, .func (PySem.W.fnOf "_law_error_of" "_law_error_of" (defArgs s__law_error_of) (defBody s__law_error_of) (defScope s__law_error_of) .none kV__law_error_of dc__law_error_of pm__law_error_of an__law_error_of cd__law_error_of ct__law_error_of), sl__law_error_of⟩)
    (c__law_error_of : PySem.W.codeIn K cd__law_error_of "_law_error_of" = true)
    (k__law_error_of : PySem.W.keepIn K (.ref f__law_error_of) = true)
    (a__law_all_raise : PySem.W.nsIn K mainGlobals "_law_all_raise" = some (some (.ref f__law_all_raise)))
    (l__law_all_raise : K.lookup f__law_all_raise = some ⟨oc__law_all_raise, od__law_all_raise, .func (PySem.W.fnOf "_law_all_raise" "_law_all_raise" (defArgs s__law_all_raise) (defBody s__law_all_raise) (defScope s__law_all_raise) .none kV__law_all_raise dc__law_all_raise pm__law_all_raise an__law_all_raise cd__law_all_raise ct__law_all_raise), sl__law_all_raise⟩)
    (c__law_all_raise : PySem.W.codeIn K cd__law_all_raise "_law_all_raise" = true)
    (k__law_all_raise : PySem.W.keepIn K (.ref f__law_all_raise) = true)
    (a_loops : PySem.W.nsIn K mainGlobals "loops" = some (some (.ref f_loops)))
    (l_loops : K.lookup f_loops = some ⟨oc_loops, od_loops, .func (PySem.W.fnOf "loops" "loops" (defArgs s_loops) (defBody s_loops) (defScope s_loops) .none kV_loops dc_loops pm_loops an_loops cd_loops ct_loops), sl_loops⟩)
    (c_loops : PySem.W.codeIn K cd_loops "loops" = true)
    (k_loops : PySem.W.keepIn K (.ref f_loops) = true)
    (a_travel : PySem.W.nsIn K mainGlobals "travel" = some (some (.ref f_travel)))
    (l_travel : K.lookup f_travel = some ⟨oc_travel, od_travel, .func (PySem.W.fnOf "travel" "travel" (defArgs s_travel) (defBody s_travel) (defScope s_travel) .none kV_travel dc_travel pm_travel an_travel cd_travel ct_travel), sl_travel⟩)
    (c_travel : PySem.W.codeIn K cd_travel "travel" = true)
    (k_travel : PySem.W.keepIn K (.ref f_travel) = true)
    (a_recorded : PySem.W.nsIn K mainGlobals "recorded" = some (some (.ref f_recorded)))
    (l_recorded : K.lookup f_recorded = some ⟨oc_recorded, od_recorded, .func (PySem.W.fnOf "recorded" "recorded" (defArgs s_recorded) (defBody s_recorded) (defScope s_recorded) .none kV_recorded dc_recorded pm_recorded an_recorded cd_recorded ct_recorded), sl_recorded⟩)
    (c_recorded : PySem.W.codeIn K cd_recorded "recorded" = true)
    (k_recorded : PySem.W.keepIn K (.ref f_recorded) = true)
    (a__check_moves : PySem.W.nsIn K mainGlobals "_check_moves" = some (some (.ref f__check_moves)))
    (l__check_moves : K.lookup f__check_moves = some ⟨oc__check_moves, od__check_moves, .func (PySem.W.fnOf "_check_moves" "_check_moves" (defArgs s__check_moves) (defBody s__check_moves) (defScope s__check_moves) .none kV__check_moves dc__check_moves pm__check_moves an__check_moves cd__check_moves ct__check_moves), sl__check_moves⟩)
    (c__check_moves : PySem.W.codeIn K cd__check_moves "_check_moves" = true)
    (k__check_moves : PySem.W.keepIn K (.ref f__check_moves) = true)
    (a_law : PySem.W.nsIn K mainGlobals "law" = some (some (.ref f_law)))
    (l_law : K.lookup f_law = some ⟨oc_law, od_law, .func (PySem.W.fnOf "law" "law" (defArgs s_law) (defBody s_law) (defScope s_law) .none kV_law dc_law pm_law an_law cd_law ct_law), sl_law⟩)
    (c_law : PySem.W.codeIn K cd_law "law" = true)
    (k_law : PySem.W.keepIn K (.ref f_law) = true)
    (aC_Rig : PySem.W.nsIn K mainGlobals "Rig" = some (some (.ref C_Rig)))
    (pg_Rig : PySem.W.plainGet K C_Rig Str.empty = true)
    (hd_Rig : PySem.W.hasDictIn K C_Rig = true)
    (po_Rig : PySem.W.plainOver K C_Rig = true)
    (sa_Rig : PySem.W.findIn K (.ref C_Rig) "__setattr__" = some (some (.builtin "object.__setattr__")))
    (na_Rig : PySem.W.findIn K (.ref C_Rig) "_arms" = some none)
    (ha_Rig : PySem.W.findIn K (.ref C_Rig) "__class__" = some (some (.builtin "object.__class__")))
    (hn_Rig : PySem.W.specialIn K (.builtin "object.__class__") "__get__" = some (some (.builtin "getset_descriptor.__get__")))
    (ht_Rig : PySem.W.takesIn K (.builtin "object.__class__") = some true)
    (hm_Rig : PySem.W.mroIn K C_Rig (.type "object") = some true)
    (ne_Rig : PySem.W.findIn K (.ref C_Rig) "__ne__" = some (some (.builtin "object.__ne__")))
    (ic_Rig : PySem.W.isClsIn K C_Rig = true)
    (ty_Rig : PySem.W.typeIn K (.ref C_Rig) = some (.type "type"))
    (st_Rig : PySem.W.subIn K (.type "tuple") (.ref C_Rig) = some false)
    (mk_Rig : PySem.W.makesIn K C_Rig = true)
    (kc_Rig : PySem.W.keepIn K (.ref C_Rig) = true)
    (a_Rig__init_ : PySem.W.findIn K (.ref C_Rig) "__init__" = some (some (.ref f_Rig__init_)))
    (i_Rig__init_ : PySem.W.isFn K (.ref f_Rig__init_) = true)
    (fi_Rig__init_ : PySem.W.fnIn K f_Rig__init_ = true)
    (l_Rig__init_ : K.lookup f_Rig__init_ = some ⟨oc_Rig__init_, od_Rig__init_, .func (PySem.W.fnOf "__init__" "Rig.__init__" (defArgs s_Rig__init_) (defBody s_Rig__init_) (defScope s_Rig__init_) .none kV_Rig__init_ dc_Rig__init_ pm_Rig__init_ an_Rig__init_ cd_Rig__init_ ct_Rig__init_), sl_Rig__init_⟩)
    (c_Rig__init_ : PySem.W.codeIn K cd_Rig__init_ "Rig.__init__" = true)
    (k_Rig__init_ : PySem.W.keepIn K (.ref f_Rig__init_) = true)
    (a_Rig__call_ : PySem.W.findIn K (.ref C_Rig) "__call__" = some (some (.ref f_Rig__call_)))
    (i_Rig__call_ : PySem.W.isFn K (.ref f_Rig__call_) = true)
    (fi_Rig__call_ : PySem.W.fnIn K f_Rig__call_ = true)
    (l_Rig__call_ : K.lookup f_Rig__call_ = some ⟨oc_Rig__call_, od_Rig__call_, .func (PySem.W.fnOf "__call__" "Rig.__call__" (defArgs s_Rig__call_) (defBody s_Rig__call_) (defScope s_Rig__call_) .none kV_Rig__call_ dc_Rig__call_ pm_Rig__call_ an_Rig__call_ cd_Rig__call_ ct_Rig__call_), sl_Rig__call_⟩)
    (c_Rig__call_ : PySem.W.codeIn K cd_Rig__call_ "Rig.__call__" = true)
    (k_Rig__call_ : PySem.W.keepIn K (.ref f_Rig__call_) = true)
    (aC_Memory : PySem.W.nsIn K mainGlobals "Memory" = some (some (.ref C_Memory)))
    (pg_Memory : PySem.W.plainGet K C_Memory Str.empty = true)
    (hd_Memory : PySem.W.hasDictIn K C_Memory = true)
    (po_Memory : PySem.W.plainOver K C_Memory = true)
    (sa_Memory : PySem.W.findIn K (.ref C_Memory) "__setattr__" = some (some (.builtin "object.__setattr__")))
    (na_Memory : PySem.W.findIn K (.ref C_Memory) "_places" = some none)
    (ha_Memory : PySem.W.findIn K (.ref C_Memory) "__class__" = some (some (.builtin "object.__class__")))
    (hn_Memory : PySem.W.specialIn K (.builtin "object.__class__") "__get__" = some (some (.builtin "getset_descriptor.__get__")))
    (ht_Memory : PySem.W.takesIn K (.builtin "object.__class__") = some true)
    (hm_Memory : PySem.W.mroIn K C_Memory (.type "object") = some true)
    (ne_Memory : PySem.W.findIn K (.ref C_Memory) "__ne__" = some (some (.builtin "object.__ne__")))
    (ic_Memory : PySem.W.isClsIn K C_Memory = true)
    (ty_Memory : PySem.W.typeIn K (.ref C_Memory) = some (.type "type"))
    (st_Memory : PySem.W.subIn K (.type "tuple") (.ref C_Memory) = some false)
    (mk_Memory : PySem.W.makesIn K C_Memory = true)
    (kc_Memory : PySem.W.keepIn K (.ref C_Memory) = true)
    (a_Memory__init_ : PySem.W.findIn K (.ref C_Memory) "__init__" = some (some (.ref f_Memory__init_)))
    (i_Memory__init_ : PySem.W.isFn K (.ref f_Memory__init_) = true)
    (fi_Memory__init_ : PySem.W.fnIn K f_Memory__init_ = true)
    (l_Memory__init_ : K.lookup f_Memory__init_ = some ⟨oc_Memory__init_, od_Memory__init_, .func (PySem.W.fnOf "__init__" "Memory.__init__" (defArgs s_Memory__init_) (defBody s_Memory__init_) (defScope s_Memory__init_) .none kV_Memory__init_ dc_Memory__init_ pm_Memory__init_ an_Memory__init_ cd_Memory__init_ ct_Memory__init_), sl_Memory__init_⟩)
    (c_Memory__init_ : PySem.W.codeIn K cd_Memory__init_ "Memory.__init__" = true)
    (k_Memory__init_ : PySem.W.keepIn K (.ref f_Memory__init_) = true)
    (a_Memory_places : PySem.W.findIn K (.ref C_Memory) "places" = some (some (.ref p_Memory_places)))
    (g_Memory_places : PySem.W.specialIn K (.ref p_Memory_places) "__get__" = some (some (.builtin "property.__get__")))
    (t_Memory_places : PySem.W.takesIn K (.ref p_Memory_places) = some true)
    (r_Memory_places_ : PySem.W.recIn K p_Memory_places "property" = some (.ref f_Memory_places :: r_Memory_places))
    (l_Memory_places : K.lookup f_Memory_places = some ⟨oc_Memory_places, od_Memory_places, .func (PySem.W.fnOf "places" "Memory.places" (defArgs s_Memory_places) (defBody s_Memory_places) (defScope s_Memory_places) .none kV_Memory_places dc_Memory_places pm_Memory_places an_Memory_places cd_Memory_places ct_Memory_places), sl_Memory_places⟩)
    (c_Memory_places : PySem.W.codeIn K cd_Memory_places "Memory.places" = true)
    (k_Memory_places : PySem.W.keepIn K (.ref f_Memory_places) = true)
    (aC_Repeated : PySem.W.nsIn K mainGlobals "Repeated" = some (some (.ref C_Repeated)))
    (pg_Repeated : PySem.W.plainGet K C_Repeated Str.empty = true)
    (hd_Repeated : PySem.W.hasDictIn K C_Repeated = true)
    (po_Repeated : PySem.W.plainOver K C_Repeated = true)
    (sa_Repeated : PySem.W.findIn K (.ref C_Repeated) "__setattr__" = some (some (.builtin "object.__setattr__")))
    (na_Repeated : PySem.W.findIn K (.ref C_Repeated) "_ends" = some none)
    (ha_Repeated : PySem.W.findIn K (.ref C_Repeated) "__class__" = some (some (.builtin "object.__class__")))
    (hn_Repeated : PySem.W.specialIn K (.builtin "object.__class__") "__get__" = some (some (.builtin "getset_descriptor.__get__")))
    (ht_Repeated : PySem.W.takesIn K (.builtin "object.__class__") = some true)
    (hm_Repeated : PySem.W.mroIn K C_Repeated (.type "object") = some true)
    (ne_Repeated : PySem.W.findIn K (.ref C_Repeated) "__ne__" = some (some (.builtin "object.__ne__")))
    (ic_Repeated : PySem.W.isClsIn K C_Repeated = true)
    (ty_Repeated : PySem.W.typeIn K (.ref C_Repeated) = some (.type "type"))
    (st_Repeated : PySem.W.subIn K (.type "tuple") (.ref C_Repeated) = some false)
    (mk_Repeated : PySem.W.makesIn K C_Repeated = true)
    (kc_Repeated : PySem.W.keepIn K (.ref C_Repeated) = true)
    (a_Repeated__init_ : PySem.W.findIn K (.ref C_Repeated) "__init__" = some (some (.ref f_Repeated__init_)))
    (i_Repeated__init_ : PySem.W.isFn K (.ref f_Repeated__init_) = true)
    (fi_Repeated__init_ : PySem.W.fnIn K f_Repeated__init_ = true)
    (l_Repeated__init_ : K.lookup f_Repeated__init_ = some ⟨oc_Repeated__init_, od_Repeated__init_, .func (PySem.W.fnOf "__init__" "Repeated.__init__" (defArgs s_Repeated__init_) (defBody s_Repeated__init_) (defScope s_Repeated__init_) .none kV_Repeated__init_ dc_Repeated__init_ pm_Repeated__init_ an_Repeated__init_ cd_Repeated__init_ ct_Repeated__init_), sl_Repeated__init_⟩)
    (c_Repeated__init_ : PySem.W.codeIn K cd_Repeated__init_ "Repeated.__init__" = true)
    (k_Repeated__init_ : PySem.W.keepIn K (.ref f_Repeated__init_) = true)
    (q_law : cd_law = .ref c0_law)
    (lk_law : K.lookup c0_law = some ⟨ok_law, dk_law, .fields vk_law, sk_law⟩)
    (tk_law : vk_law[11]? = some (.ref Pt_law))
    (nk_law : K.lookup Pt_law = none)
    (hk_law : PySem.W.codeHdIn K c0_law Pt_law = true)
    (e_InvalidSlack : PySem.W.nsIn K mainGlobals "InvalidSlack" = some (some (.ref E_InvalidSlack)))
    (e_InvalidTimes : PySem.W.nsIn K mainGlobals "InvalidTimes" = some (some (.ref E_InvalidTimes)))
    (e_NotForward : PySem.W.nsIn K mainGlobals "NotForward" = some (some (.ref E_NotForward)))
    (e_TooGreat : PySem.W.nsIn K mainGlobals "TooGreat" = some (some (.ref E_TooGreat)))
    (e_InvalidPlace : PySem.W.nsIn K mainGlobals "InvalidPlace" = some (some (.ref E_InvalidPlace)))
    (e_InvalidCount : PySem.W.nsIn K mainGlobals "InvalidCount" = some (some (.ref E_InvalidCount)))
    (e_InvalidRange : PySem.W.nsIn K mainGlobals "InvalidRange" = some (some (.ref E_InvalidRange)))
    (e_OutOfBound : PySem.W.nsIn K mainGlobals "OutOfBound" = some (some (.ref E_OutOfBound)))
    (e_Contradiction : PySem.W.nsIn K mainGlobals "Contradiction" = some (some (.ref E_Contradiction)))
    (e_InvalidName : PySem.W.nsIn K mainGlobals "InvalidName" = some (some (.ref E_InvalidName)))
    (e_UnknownName : PySem.W.nsIn K mainGlobals "UnknownName" = some (some (.ref E_UnknownName)))
    (e_InvalidPanel : PySem.W.nsIn K mainGlobals "InvalidPanel" = some (some (.ref E_InvalidPanel)))
    (e_UnlikeRigs : PySem.W.nsIn K mainGlobals "UnlikeRigs" = some (some (.ref E_UnlikeRigs)))
    (e_InvalidRow : PySem.W.nsIn K mainGlobals "InvalidRow" = some (some (.ref E_InvalidRow)))
    (e_InvalidEnds : PySem.W.nsIn K mainGlobals "InvalidEnds" = some (some (.ref E_InvalidEnds)))
    (e_InvalidMemory : PySem.W.nsIn K mainGlobals "InvalidMemory" = some (some (.ref E_InvalidMemory)))
    (e_InvalidOperation : PySem.W.nsIn K mainGlobals "InvalidOperation" = some (some (.ref E_InvalidOperation)))
    (e_InvalidRecording : PySem.W.nsIn K mainGlobals "InvalidRecording" = some (some (.ref E_InvalidRecording)))
    (e_NotationError : PySem.W.nsIn K mainGlobals "NotationError" = some (some (.ref E_NotationError)))
    (e_DecodeError : PySem.W.nsIn K mainGlobals "DecodeError" = some (some (.ref E_DecodeError)))
    (e_RodError : PySem.W.nsIn K mainGlobals "RodError" = some (some (.ref E_RodError)))
    (xn_InvalidRow : xnB K (erOf erAll [E_InvalidSlack, E_InvalidTimes, E_NotForward, E_TooGreat, E_InvalidPlace, E_InvalidCount, E_InvalidRange, E_OutOfBound, E_Contradiction, E_InvalidName, E_UnknownName, E_InvalidPanel, E_UnlikeRigs, E_InvalidRow, E_InvalidEnds, E_InvalidMemory, E_InvalidOperation, E_InvalidRecording, E_NotationError, E_DecodeError, E_RodError]) "InvalidRow" = true)
    (in_InvalidRow__init_ : PySem.W.findIn K (.ref E_InvalidRow) "__init__" = some (some (.ref f_InvalidRow__init_)))
    (l_InvalidRow__init_ : K.lookup f_InvalidRow__init_ = some ⟨oc_InvalidRow__init_, od_InvalidRow__init_, .func (PySem.W.ksFn "__init__" "InvalidRow.__init__" (defArgs s_InvalidRow__init_) (defBody s_InvalidRow__init_) (defScope s_InvalidRow__init_) .none kV_InvalidRow__init_ dc_InvalidRow__init_ pm_InvalidRow__init_ an_InvalidRow__init_ (.ref cda_InvalidRow__init_) ct_InvalidRow__init_ cc_InvalidRow__init_), osl_InvalidRow__init_⟩)
    (c_InvalidRow__init_ : PySem.W.codeIn K (.ref cda_InvalidRow__init_) "InvalidRow.__init__" = true)
    (ld_InvalidRow__init_ : K.lookup cda_InvalidRow__init_ = some ⟨ccl_InvalidRow__init_, cdd_InvalidRow__init_, .fields vs_InvalidRow__init_, ccs_InvalidRow__init_⟩)
    (hv_InvalidRow__init_ : vs_InvalidRow__init_[2]? = some (.str file_InvalidRow__init_ tf_InvalidRow__init_))
    (hf_InvalidRow__init_ : ((l.prog.main.file : Str) == file_InvalidRow__init_) = true)
    (lc_InvalidRow__init_ : K.lookup cc_InvalidRow__init_ = some ⟨cl_InvalidRow__init_, cld_InvalidRow__init_, .cell (some (.ref E_InvalidRow)), csl_InvalidRow__init_⟩)
    (sb_InvalidRow__init_ : supB K E_InvalidRow f_InvalidRow__init_ "index" = true)
    (tp_InvalidRow__init_ : (l.prog.main.scope.names.lookup ("super" : Str)).isSome = false)
    (z_len : PySem.W.nsIn K mainGlobals "len" = some none)
    (z_isinstance : PySem.W.nsIn K mainGlobals "isinstance" = some none)
    (z_min : PySem.W.nsIn K mainGlobals "min" = some none)
    (z_max : PySem.W.nsIn K mainGlobals "max" = some none)
    (z_abs : PySem.W.nsIn K mainGlobals "abs" = some none)
    (z_sum : PySem.W.nsIn K mainGlobals "sum" = some none)
    (z_int : PySem.W.nsIn K mainGlobals "int" = some none)
    (z_bool : PySem.W.nsIn K mainGlobals "bool" = some none)
    (z_list : PySem.W.nsIn K mainGlobals "list" = some none)
    (z_tuple : PySem.W.nsIn K mainGlobals "tuple" = some none)
    (z_dict : PySem.W.nsIn K mainGlobals "dict" = some none)
    (z_range : PySem.W.nsIn K mainGlobals "range" = some none)
    (z_enumerate : PySem.W.nsIn K mainGlobals "enumerate" = some none)
    (z_zip : PySem.W.nsIn K mainGlobals "zip" = some none)
    (z_sorted : PySem.W.nsIn K mainGlobals "sorted" = some none)
    (z_ValueError : PySem.W.nsIn K mainGlobals "ValueError" = some none)
    (z_FARTHEST : PySem.W.nsIn K mainGlobals "FARTHEST" = some (some u_FARTHEST))
    (v_FARTHEST : RelV (.int 1000000) u_FARTHEST)
    (z_LONGEST_ROW : PySem.W.nsIn K mainGlobals "LONGEST_ROW" = some (some u_LONGEST_ROW))
    (v_LONGEST_ROW : RelV (.int 1000) u_LONGEST_ROW)
    (z_GREATEST_ROD : PySem.W.nsIn K mainGlobals "GREATEST_ROD" = some (some u_GREATEST_ROD))
    (v_GREATEST_ROD : RelV (.int 99) u_GREATEST_ROD)
    (z_GREATEST_TIMES : PySem.W.nsIn K mainGlobals "GREATEST_TIMES" = some (some u_GREATEST_TIMES))
    (v_GREATEST_TIMES : RelV (.int 99) u_GREATEST_TIMES)
    (z_GREATEST_SLACK : PySem.W.nsIn K mainGlobals "GREATEST_SLACK" = some (some u_GREATEST_SLACK))
    (v_GREATEST_SLACK : RelV (.int 999) u_GREATEST_SLACK)
    (z_GREATEST_ARM : PySem.W.nsIn K mainGlobals "GREATEST_ARM" = some (some u_GREATEST_ARM))
    (v_GREATEST_ARM : RelV (.int 1000000) u_GREATEST_ARM)
    (z_MOST_ARMS : PySem.W.nsIn K mainGlobals "MOST_ARMS" = some (some u_MOST_ARMS))
    (v_MOST_ARMS : RelV (.int 60) u_MOST_ARMS)
    : LawT l w K mg fa 18 := by
  have e := hfa.symm.trans (PySem.W.mg_of X G a_law)
  cases e
  subst q_law
  let c : Z.Cl := ⟨C_Memory, C_Rig, C_Repeated, [], (erOf erAll [E_InvalidSlack, E_InvalidTimes, E_NotForward, E_TooGreat, E_InvalidPlace, E_InvalidCount, E_InvalidRange, E_OutOfBound, E_Contradiction, E_InvalidName, E_UnknownName, E_InvalidPanel, E_UnlikeRigs, E_InvalidRow, E_InvalidEnds, E_InvalidMemory, E_InvalidOperation, E_InvalidRecording, E_NotationError, E_DecodeError, E_RodError])⟩
  have xg : XgC mg c := xg_of rfl (.cons (PySem.W.mg_of X G e_InvalidSlack) (.cons (PySem.W.mg_of X G e_InvalidTimes) (.cons (PySem.W.mg_of X G e_NotForward) (.cons (PySem.W.mg_of X G e_TooGreat) (.cons (PySem.W.mg_of X G e_InvalidPlace) (.cons (PySem.W.mg_of X G e_InvalidCount) (.cons (PySem.W.mg_of X G e_InvalidRange) (.cons (PySem.W.mg_of X G e_OutOfBound) (.cons (PySem.W.mg_of X G e_Contradiction) (.cons (PySem.W.mg_of X G e_InvalidName) (.cons (PySem.W.mg_of X G e_UnknownName) (.cons (PySem.W.mg_of X G e_InvalidPanel) (.cons (PySem.W.mg_of X G e_UnlikeRigs) (.cons (PySem.W.mg_of X G e_InvalidRow) (.cons (PySem.W.mg_of X G e_InvalidEnds) (.cons (PySem.W.mg_of X G e_InvalidMemory) (.cons (PySem.W.mg_of X G e_InvalidOperation) (.cons (PySem.W.mg_of X G e_InvalidRecording) (.cons (PySem.W.mg_of X G e_NotationError) (.cons (PySem.W.mg_of X G e_DecodeError) (.cons (PySem.W.mg_of X G e_RodError) .nil)))))))))))))))))))))
  have d__law_random : Dn K mg "_law_random" s__law_random P__law_random := ⟨f__law_random, _, fun_mk (st := s__law_random) l__law_random c__law_random k__law_random, PySem.W.mg_of X G a__law_random, (fun_mk (st := s__law_random) l__law_random c__law_random k__law_random).binds (ps := P__law_random) fun _ _ _ _ _ _ us hl => match us, hl with | [_, _], _ => rfl⟩
  have d__law_below : Dn K mg "_law_below" s__law_below P__law_below := ⟨f__law_below, _, fun_mk (st := s__law_below) l__law_below c__law_below k__law_below, PySem.W.mg_of X G a__law_below, (fun_mk (st := s__law_below) l__law_below c__law_below k__law_below).binds (ps := P__law_below) fun _ _ _ _ _ _ us hl => match us, hl with | [_, _], _ => rfl⟩
  have d__law_row : Dn K mg "_law_row" s__law_row P__law_row := ⟨f__law_row, _, fun_mk (st := s__law_row) l__law_row c__law_row k__law_row, PySem.W.mg_of X G a__law_row, (fun_mk (st := s__law_row) l__law_row c__law_row k__law_row).binds (ps := P__law_row) fun _ _ _ _ _ _ us hl => match us, hl with | [_, _, _], _ => rfl⟩
  have d_is_whole_number : Dn K mg "is_whole_number" s_is_whole_number P_is_whole_number := ⟨f_is_whole_number, _, fun_mk (st := s_is_whole_number) l_is_whole_number c_is_whole_number k_is_whole_number, PySem.W.mg_of X G a_is_whole_number, (fun_mk (st := s_is_whole_number) l_is_whole_number c_is_whole_number k_is_whole_number).binds (ps := P_is_whole_number) fun _ _ _ _ _ _ us hl => match us, hl with | [_], _ => rfl⟩
  have d_is_number : Dn K mg "is_number" s_is_number P_is_number := ⟨f_is_number, _, fun_mk (st := s_is_number) l_is_number c_is_number k_is_number, PySem.W.mg_of X G a_is_number, (fun_mk (st := s_is_number) l_is_number c_is_number k_is_number).binds (ps := P_is_number) fun _ _ _ _ _ _ us hl => match us, hl with | [_, _, _], _ => rfl⟩
  have d__check_arms : Dn K mg "_check_arms" s__check_arms P__check_arms := ⟨f__check_arms, _, fun_mk (st := s__check_arms) l__check_arms c__check_arms k__check_arms, PySem.W.mg_of X G a__check_arms, (fun_mk (st := s__check_arms) l__check_arms c__check_arms k__check_arms).binds (ps := P__check_arms) fun _ _ _ _ _ _ us hl => match us, hl with | [_], _ => rfl⟩
  have d_rod : Dn K mg "rod" s_rod P_rod := ⟨f_rod, _, fun_mk (st := s_rod) l_rod c_rod k_rod, PySem.W.mg_of X G a_rod, (fun_mk (st := s_rod) l_rod c_rod k_rod).binds (ps := P_rod) fun _ _ _ _ _ _ us hl => match us, hl with | [_], _ => rfl⟩
  have d_is_place : Dn K mg "is_place" s_is_place P_is_place := ⟨f_is_place, _, fun_mk (st := s_is_place) l_is_place c_is_place k_is_place, PySem.W.mg_of X G a_is_place, (fun_mk (st := s_is_place) l_is_place c_is_place k_is_place).binds (ps := P_is_place) fun _ _ _ _ _ _ us hl => match us, hl with | [_], _ => rfl⟩
  have d_check_row : Dn K mg "check_row" s_check_row P_check_row := ⟨f_check_row, _, fun_mk (st := s_check_row) l_check_row c_check_row k_check_row, PySem.W.mg_of X G a_check_row, (fun_mk (st := s_check_row) l_check_row c_check_row k_check_row).binds (ps := P_check_row) fun _ _ _ _ _ _ us hl => match us, hl with | [_], _ => rfl⟩
  have d_ends_of_rod : Dn K mg "ends_of_rod" s_ends_of_rod P_ends_of_rod := ⟨f_ends_of_rod, _, fun_mk (st := s_ends_of_rod) l_ends_of_rod c_ends_of_rod k_ends_of_rod, PySem.W.mg_of X G a_ends_of_rod, (fun_mk (st := s_ends_of_rod) l_ends_of_rod c_ends_of_rod k_ends_of_rod).binds (ps := P_ends_of_rod) fun _ _ _ _ _ _ us hl => match us, hl with | [_, _, _], _ => rfl⟩
  have d_ends_of_arms : Dn K mg "ends_of_arms" s_ends_of_arms P_ends_of_arms := ⟨f_ends_of_arms, _, fun_mk (st := s_ends_of_arms) l_ends_of_arms c_ends_of_arms k_ends_of_arms, PySem.W.mg_of X G a_ends_of_arms, (fun_mk (st := s_ends_of_arms) l_ends_of_arms c_ends_of_arms k_ends_of_arms).binds (ps := P_ends_of_arms) fun _ _ _ _ _ _ us hl => match us, hl with | [_, _], _ => rfl⟩
  have d__is_between : Dn K mg "_is_between" s__is_between P__is_between := ⟨f__is_between, _, fun_mk (st := s__is_between) l__is_between c__is_between k__is_between, PySem.W.mg_of X G a__is_between, (fun_mk (st := s__is_between) l__is_between c__is_between k__is_between).binds (ps := P__is_between) fun _ _ _ _ _ _ us hl => match us, hl with | [_, _, _], _ => rfl⟩
  have d_count_kept : Dn K mg "count_kept" s_count_kept P_count_kept := ⟨f_count_kept, _, fun_mk (st := s_count_kept) l_count_kept c_count_kept k_count_kept, PySem.W.mg_of X G a_count_kept, (fun_mk (st := s_count_kept) l_count_kept c_count_kept k_count_kept).binds (ps := P_count_kept) fun _ _ _ _ _ _ us hl => match us, hl with | [_, _], _ => rfl⟩
  have d_after_move : Dn K mg "after_move" s_after_move P_after_move := ⟨f_after_move, _, fun_mk (st := s_after_move) l_after_move c_after_move k_after_move, PySem.W.mg_of X G a_after_move, (fun_mk (st := s_after_move) l_after_move c_after_move k_after_move).binds (ps := P_after_move) fun _ _ _ _ _ _ us hl => match us, hl with | [_, _], _ => rfl⟩
  have d__fits : Dn K mg "_fits" s__fits P__fits := ⟨f__fits, _, fun_mk (st := s__fits) l__fits c__fits k__fits, PySem.W.mg_of X G a__fits, (fun_mk (st := s__fits) l__fits c__fits k__fits).binds (ps := P__fits) fun _ _ _ _ _ _ us hl => match us, hl with | [_, _], _ => rfl⟩
  have d__check_places : Dn K mg "_check_places" s__check_places P__check_places := ⟨f__check_places, _, fun_mk (st := s__check_places) l__check_places c__check_places k__check_places, PySem.W.mg_of X G a__check_places, (fun_mk (st := s__check_places) l__check_places c__check_places k__check_places).binds (ps := P__check_places) fun _ _ _ _ _ _ us hl => match us, hl with | [_], _ => rfl⟩
  have d_memory_of : Dn K mg "memory_of" s_memory_of P_memory_of := ⟨f_memory_of, _, fun_mk (st := s_memory_of) l_memory_of c_memory_of k_memory_of, PySem.W.mg_of X G a_memory_of, (fun_mk (st := s_memory_of) l_memory_of c_memory_of k_memory_of).binds (ps := P_memory_of) fun _ _ _ _ _ _ us hl => match us, hl with | [_], _ => rfl⟩
  have d__law_error_of : Dn K mg "_law_error_of" s__law_error_of P__law_error_of := ⟨f__law_error_of, _, fun_mk (st := s__law_error_of) l__law_error_of c__law_error_of k__law_error_of, PySem.W.mg_of X G a__law_error_of, (fun_mk (st := s__law_error_of) l__law_error_of c__law_error_of k__law_error_of).binds (ps := P__law_error_of) fun _ _ _ _ _ _ us hl => match us, hl with | [_], _ => rfl⟩
  have d__law_all_raise : Dn K mg "_law_all_raise" s__law_all_raise P__law_all_raise := ⟨f__law_all_raise, _, fun_mk (st := s__law_all_raise) l__law_all_raise c__law_all_raise k__law_all_raise, PySem.W.mg_of X G a__law_all_raise, (fun_mk (st := s__law_all_raise) l__law_all_raise c__law_all_raise k__law_all_raise).binds (ps := P__law_all_raise) fun _ _ _ _ _ _ us hl => match us, hl with | [_, _], _ => rfl⟩
  have d_loops : Dn K mg "loops" s_loops P_loops := ⟨f_loops, _, fun_mk (st := s_loops) l_loops c_loops k_loops, PySem.W.mg_of X G a_loops, (fun_mk (st := s_loops) l_loops c_loops k_loops).binds (ps := P_loops) fun _ _ _ _ _ _ us hl => match us, hl with | [_], _ => rfl⟩
  have d_travel : Dn K mg "travel" s_travel P_travel := ⟨f_travel, _, fun_mk (st := s_travel) l_travel c_travel k_travel, PySem.W.mg_of X G a_travel, (fun_mk (st := s_travel) l_travel c_travel k_travel).binds (ps := P_travel) fun _ _ _ _ _ _ us hl => match us, hl with | [_, _], _ => rfl⟩
  have d_recorded : Dn K mg "recorded" s_recorded P_recorded := ⟨f_recorded, _, fun_mk (st := s_recorded) l_recorded c_recorded k_recorded, PySem.W.mg_of X G a_recorded, (fun_mk (st := s_recorded) l_recorded c_recorded k_recorded).binds (ps := P_recorded) fun _ _ _ _ _ _ us hl => match us, hl with | [_, _], _ => rfl⟩
  have d__check_moves : Dn K mg "_check_moves" s__check_moves P__check_moves := ⟨f__check_moves, _, fun_mk (st := s__check_moves) l__check_moves c__check_moves k__check_moves, PySem.W.mg_of X G a__check_moves, (fun_mk (st := s__check_moves) l__check_moves c__check_moves k__check_moves).binds (ps := P__check_moves) fun _ _ _ _ _ _ us hl => match us, hl with | [_], _ => rfl⟩
  have ck_Rig : CK K C_Rig "_arms" := ⟨⟨pg_Rig, hd_Rig, po_Rig, sa_Rig⟩, na_Rig, ha_Rig, hn_Rig, ht_Rig, hm_Rig, ne_Rig, ic_Rig, ty_Rig, st_Rig⟩
  have g_Rig : mg "Rig" = some (.ref C_Rig) := PySem.W.mg_of X G aC_Rig
  have d_Rig__init_ : Dm K "__init__" "Rig.__init__" s_Rig__init_ P_Rig__init_ f_Rig__init_ := ⟨_, fun_mk (st := s_Rig__init_) l_Rig__init_ c_Rig__init_ k_Rig__init_, (fun_mk (st := s_Rig__init_) l_Rig__init_ c_Rig__init_ k_Rig__init_).binds (ps := P_Rig__init_) fun _ _ _ _ _ _ us hl => match us, hl with | [_, _], _ => rfl⟩
  have mk_Rig_ : Mk K C_Rig f_Rig__init_ := ⟨mk_Rig, a_Rig__init_, i_Rig__init_, kc_Rig⟩
  have d_Rig__call_ : Dm K "__call__" "Rig.__call__" s_Rig__call_ P_Rig__call_ f_Rig__call_ := ⟨_, fun_mk (st := s_Rig__call_) l_Rig__call_ c_Rig__call_ k_Rig__call_, (fun_mk (st := s_Rig__call_) l_Rig__call_ c_Rig__call_ k_Rig__call_).binds (ps := P_Rig__call_) fun _ _ _ _ _ _ us hl => match us, hl with | [_, _], _ => rfl⟩
  have mt_Rig__call_ : Mt K C_Rig "__call__" f_Rig__call_ := ⟨a_Rig__call_, i_Rig__call_, fi_Rig__call_⟩
  have ck_Memory : CK K C_Memory "_places" := ⟨⟨pg_Memory, hd_Memory, po_Memory, sa_Memory⟩, na_Memory, ha_Memory, hn_Memory, ht_Memory, hm_Memory, ne_Memory, ic_Memory, ty_Memory, st_Memory⟩
  have g_Memory : mg "Memory" = some (.ref C_Memory) := PySem.W.mg_of X G aC_Memory
  have d_Memory__init_ : Dm K "__init__" "Memory.__init__" s_Memory__init_ P_Memory__init_ f_Memory__init_ := ⟨_, fun_mk (st := s_Memory__init_) l_Memory__init_ c_Memory__init_ k_Memory__init_, (fun_mk (st := s_Memory__init_) l_Memory__init_ c_Memory__init_ k_Memory__init_).binds (ps := P_Memory__init_) fun _ _ _ _ _ _ us hl => match us, hl with | [_, _], _ => rfl⟩
  have mk_Memory_ : Mk K C_Memory f_Memory__init_ := ⟨mk_Memory, a_Memory__init_, i_Memory__init_, kc_Memory⟩
  have po_Memory_places : PropOf K C_Memory "places" p_Memory_places f_Memory_places := ⟨a_Memory_places, g_Memory_places, t_Memory_places, ⟨_, r_Memory_places_⟩⟩
  have d_Memory_places : Dm K "places" "Memory.places" s_Memory_places P_Memory_places f_Memory_places := ⟨_, fun_mk (st := s_Memory_places) l_Memory_places c_Memory_places k_Memory_places, (fun_mk (st := s_Memory_places) l_Memory_places c_Memory_places k_Memory_places).binds (ps := P_Memory_places) fun _ _ _ _ _ _ us hl => match us, hl with | [_], _ => rfl⟩
  have ck_Repeated : CK K C_Repeated "_ends" := ⟨⟨pg_Repeated, hd_Repeated, po_Repeated, sa_Repeated⟩, na_Repeated, ha_Repeated, hn_Repeated, ht_Repeated, hm_Repeated, ne_Repeated, ic_Repeated, ty_Repeated, st_Repeated⟩
  have g_Repeated : mg "Repeated" = some (.ref C_Repeated) := PySem.W.mg_of X G aC_Repeated
  have d_Repeated__init_ : Dm K "__init__" "Repeated.__init__" s_Repeated__init_ P_Repeated__init_ f_Repeated__init_ := ⟨_, fun_mk (st := s_Repeated__init_) l_Repeated__init_ c_Repeated__init_ k_Repeated__init_, (fun_mk (st := s_Repeated__init_) l_Repeated__init_ c_Repeated__init_ k_Repeated__init_).binds (ps := P_Repeated__init_) fun _ _ _ _ _ _ us hl => match us, hl with | [_, _, _], _ => rfl⟩
  have mk_Repeated_ : Mk K C_Repeated f_Repeated__init_ := ⟨mk_Repeated, a_Repeated__init_, i_Repeated__init_, kc_Repeated⟩
  have xn_InvalidRow : XnC K c "InvalidRow" := xnB_ok xn_InvalidRow
  have sc_InvalidRow__init_ : SupC l.prog K (c.er "InvalidRow") f_InvalidRow__init_ (xfn "InvalidRow") _ s_InvalidRow__init_ := supC_of (m := L.m_InvalidRow) sb_InvalidRow__init_ tp_InvalidRow__init_ l_InvalidRow__init_ c_InvalidRow__init_ ld_InvalidRow__init_ hv_InvalidRow__init_ hf_InvalidRow__init_ lc_InvalidRow__init_
  have tx : Tx mg := ⟨PySem.W.mg_none_of X G z_len, PySem.W.mg_none_of X G z_isinstance, PySem.W.mg_none_of X G z_min, PySem.W.mg_none_of X G z_max, PySem.W.mg_none_of X G z_abs, PySem.W.mg_none_of X G z_sum, PySem.W.mg_none_of X G z_int, PySem.W.mg_none_of X G z_bool, PySem.W.mg_none_of X G z_list, PySem.W.mg_none_of X G z_tuple, PySem.W.mg_none_of X G z_dict, PySem.W.mg_none_of X G z_range, PySem.W.mg_none_of X G z_enumerate, PySem.W.mg_none_of X G z_zip, PySem.W.mg_none_of X G z_sorted, PySem.W.mg_none_of X G z_ValueError, ⟨_, PySem.W.mg_of X G z_FARTHEST, v_FARTHEST⟩, ⟨_, PySem.W.mg_of X G z_LONGEST_ROW, v_LONGEST_ROW⟩, ⟨_, PySem.W.mg_of X G z_GREATEST_ROD, v_GREATEST_ROD⟩, ⟨_, PySem.W.mg_of X G z_GREATEST_TIMES, v_GREATEST_TIMES⟩, ⟨_, PySem.W.mg_of X G z_GREATEST_SLACK, v_GREATEST_SLACK⟩, ⟨_, PySem.W.mg_of X G z_GREATEST_ARM, v_GREATEST_ARM⟩, ⟨_, PySem.W.mg_of X G z_MOST_ARMS, v_MOST_ARMS⟩⟩
  refine ⟨c, PySem.W.fnOf "law" "law" (defArgs s_law) (defBody s_law) (defScope s_law) .none kV_law dc_law pm_law an_law (.ref c0_law) ct_law, c0_law, Pt_law, fun s v => .of_eq rfl, rfl, ⟨_, l_law, rfl⟩, ⟨_, _, _, _, lk_law, tk_law⟩, nk_law, hk_law, fun base _ _ TB => ?_⟩
  have ckR : CK K c.R "_arms" := ck_Rig
  have ckM : CK K c.C "_places" := ck_Memory
  have c__law_random := L.ok_law_random (P := l.prog) (w := w) (base := base) (c := c) tx d__law_random
  have c__law_below := L.ok_law_below (P := l.prog) (w := w) (base := base) (c := c) tx d__law_below
  have c__law_row := L.ok_law_row tx d__law_row c__law_below
  have c_is_whole_number := ok_is_whole (P := l.prog) (w := w) (base := base) (c := c) tx d_is_whole_number
  have c_is_number := ok_is_number tx d_is_number c_is_whole_number
  have c_ca := ok_check_arms (P := l.prog) (w := w) (base := base) (c := c) tx d__check_arms
  have m_Rig := ix_of (x := "Rig") mk_Rig_ g_Rig (ok_rig_init ckR d_Rig__init_ c_ca)
  have c_rod := (ok_rod tx d_rod c_is_number m_Rig).imp L.le_rod
  have c_is_place := ok_is_place tx d_is_place c_is_number
  have c_check_row := ok_check_row tx d_check_row c_is_place
  have c_ends_of_rod := ok_ends_of_rod (P := l.prog) (w := w) (base := base) (c := c) tx d_ends_of_rod
  have c_ends_of_arms := ok_ends_of_arms tx d_ends_of_arms c_ends_of_rod
  have r_call := L.mx_le (mt_Rig__call_.mx (ok_rig_call tx ckR d_Rig__call_ c_check_row c_ends_of_arms)) L.le_call
  have c__is_between := ok_is_between (P := l.prog) (w := w) (base := base) (c := c) tx d__is_between
  have c_count_kept := ok_count_kept tx d_count_kept c__is_between
  have c_after_move := ok_after_move tx d_after_move c_count_kept
  have c__fits := ok_fits tx d__fits c_is_place c__is_between
  have c__check_places := ok_check_places tx d__check_places c__fits
  have m_Memory := ix_of (x := "Memory") mk_Memory_ g_Memory (ok_mem_init ckM d_Memory__init_ c__check_places)
  have c_memory_of := ok_memory_of tx d_memory_of c_check_row c_after_move m_Memory
  have gx_places := gx_of po_Memory_places (ok_mem_places (P := l.prog) (w := w) (mg := mg) (base := base) tx ckM d_Memory_places)
  have e_err : ErrK l.prog w K mg base c L.okE "_law_error_of" := L.ok_err tx xg (fun n i h => by obtain ⟨rfl, h⟩ := h; exact ⟨xn_InvalidRow, .inr (.inl ⟨by decide +kernel, h⟩)⟩) d__law_error_of
  have c__law_error_of := errK_fx (k := 12) e_err
  have c__law_all_raise := L.ok_all_raise (fun n i h => by obtain ⟨rfl, h⟩ := h; exact pl_told (by decide +kernel)) d__law_all_raise c__law_error_of
  have xi_InvalidRow : XiC l.prog w K mg base c "InvalidRow" := xiC_of (xg "InvalidRow" (.inl xn_InvalidRow.mem)) L.ss_InvalidRow sc_InvalidRow__init_
  have x_check_row := L.oe_check_row tx d_check_row xi_InvalidRow c_is_place
  have x_rcall := mt_Rig__call_.mxX (L.oe_rig_call d_Rig__call_ x_check_row)
  have x_memory_of := L.oe_memory_of d_memory_of x_check_row
  have x_loops := L.oe_loops d_loops x_check_row
  have x_travel := L.oe_travel d_travel x_check_row
  have x_recorded := L.oe_recorded (c := c) d_recorded x_rcall
  have x__check_moves := L.oe_check_moves d__check_moves x_check_row
  have x_Repeated := ixI_of (x := "Repeated") mk_Repeated_ g_Repeated (L.oe_rep_init d_Repeated__init_ x__check_moves)
  exact L.ok_law tx ckR ckM (fun_mk (st := s_law) l_law c_law k_law) c__law_random c__law_below c__law_row c_rod r_call c_memory_of gx_places rfl TB c__law_error_of c__law_all_raise x_rcall x_memory_of x_loops x_travel x_recorded x_Repeated
end Pf
namespace HdX
open PySem PySem.W PySem.Calls PyProof.Rows
theorem head_k {r : OpenRow} {q : Program} {H : Hook} {K : Params → Frag} {as : List Addr} {e : ∀ P, as = (K P).map (·.1)} {M : Nat} {loose : List PySem.Str} {d : DefRec} {kwd : List (PySem.Str × PySem.Expr)} (hH : H = kHook K as e)
    (e0 : opening r.prog = plainProg r.prog.main.scope.names) (f : ∀ s, fenceModules? r.prog s = some s) (run : ∀ w, HandSHeadRun.RunEq r q (kHook K as e) (fun s => as.map (HandSHeadRun.getT s)) M loose w)
    (hdef : defOf q r.name = some (d, kwd)) (hp : r.prog.theDef r.name = some (d.params, d.body, d.scope)) (hk : kwWritten? d.params.kwonlyargs d.params.kw_defaults = some kwd)
    (hwr : (!r.writes || r.records.isEmpty) = true) (k1 : r.wellSaid = true) (ok : (chainsOk q && opensWell r.prog && (frees r.toRowW && r.within.isEmpty)) = true) (hb : r.prog.bare) (hw : r.toRowW.promised)
    (call : WalkO q loose (XL q []) H.says r.toRowW d kwd fun f vs => PySem.call f vs) : r.Holds := by
  subst hH
  refine HandSHeadRun.head_any (fun s => ?_) e0 f run hdef hp hk hwr k1 ok hb hw call
  have g : HandSHeadRun.getT s = s.abs.heap.get? := funext (HandSHeadRun.getT_eq s)
  rw [g]; rfl
theorem head_km {r : OpenRow} {q : Program} {H : Hook} {K : Params → Frag} {as : List Addr} {e : ∀ P, as = (K P).map (·.1)} {ts : List Addr} {M : Nat} {loose : List PySem.Str} {d : DefRec} {kwd : List (PySem.Str × PySem.Expr)} (hH : H = kmHook K as e ts)
    (e0 : opening r.prog = plainProg r.prog.main.scope.names) (f : ∀ s, fenceModules? r.prog s = some s) (run : ∀ w, HandSHeadRun.RunEq r q (kmHook K as e ts) (fun s => (as.map (HandSHeadRun.getT s), ts.map (HandSHeadRun.getT s))) M loose w)
    (hdef : defOf q r.name = some (d, kwd)) (hp : r.prog.theDef r.name = some (d.params, d.body, d.scope)) (hk : kwWritten? d.params.kwonlyargs d.params.kw_defaults = some kwd)
    (hwr : (!r.writes || r.records.isEmpty) = true) (k1 : r.wellSaid = true) (ok : (chainsOk q && opensWell r.prog && (frees r.toRowW && r.within.isEmpty)) = true) (hb : r.prog.bare) (hw : r.toRowW.promised)
    (call : WalkO q loose (XL q []) H.says r.toRowW d kwd fun f vs => PySem.call f vs) : r.Holds := by
  subst hH
  refine HandSHeadRun.head_any (fun s => ?_) e0 f run hdef hp hk hwr k1 ok hb hw call
  have g : HandSHeadRun.getT s = s.abs.heap.get? := funext (HandSHeadRun.getT_eq s)
  rw [g]; rfl
end HdX
namespace HdN
open PySem PySem.W PySem.Calls PyProof.Rows
abbrev R : OpenRow := OpenLaw.row PySem.Challenge.rw_slackrods_k07_rows_refused
abbrev qv : Program := view R.prog [78]
def names0 : List PySem.Str := ["_wall", "RodError", "InvalidSlack", "InvalidTimes", "NotForward", "TooGreat", "InvalidRow", "InvalidPlace", "InvalidEnds", "InvalidMemory", "InvalidCount", "InvalidRange"]
def names1 : List PySem.Str := ["OutOfBound", "Contradiction", "NotationError", "DecodeError", "InvalidOperation", "InvalidName", "UnknownName", "InvalidRecording", "InvalidPanel", "UnlikeRigs", "FARTHEST", "LONGEST_ROW"]
def names2 : List PySem.Str := ["is_whole_number", "is_number", "is_place", "check_place", "check_row", "check_count", "_is_between", "_fits", "_check_places", "count_kept", "after_move", "Memory"]
def names3 : List PySem.Str := ["memory_of", "ends_of_rod", "ends_of_arms", "_swings", "closed_heights", "count_heights", "loops", "_travel_of_move", "travels", "travel", "recorded", "MOST_PASSES"]
def names4 : List PySem.Str := ["_check_moves", "Repeated", "GREATEST_ROD", "GREATEST_TIMES", "GREATEST_SLACK", "GREATEST_ARM", "MOST_ARMS", "_check_arms", "_sum_of_arms", "_height_of_end", "_curve_up_to", "_arms_of_curve"]
def names5 : List PySem.Str := ["_greatest_slack", "_chain_of_arms", "Rig", "rod", "_law_random", "_law_below", "_law_row", "_law_error_of", "_law_all_raise"]
def names : List PySem.Str := names0 ++ names1 ++ names2 ++ names3 ++ names4 ++ names5
end HdN
local macro_rules | `(tactic| o_head $H) => `(tactic| first | refine HdX.head_km (r := HdN.R) (q := HdN.qv) (H := $H) (M := 20000) (loose := HdN.names) (kwd := []) rfl (by kernel_rfl) (fun s => by kernel_rfl) (fun w => by intro os; kernel_rfl) (by rfl) (by rfl) (by rfl) (by rfl) (by first | assumption | decide +kernel) (by decide +kernel) ⟨rfl, rfl, rfl, rfl, rfl, by decide +kernel⟩ ?hw ?hc | refine HdX.head_k (r := HdN.R) (q := HdN.qv) (H := $H) (M := 20000) (loose := HdN.names) (kwd := []) rfl (by kernel_rfl) (fun s => by kernel_rfl) (fun w => by intro os; kernel_rfl) (by rfl) (by rfl) (by rfl) (by rfl) (by first | assumption | decide +kernel) (by decide +kernel) ⟨rfl, rfl, rfl, rfl, rfl, by decide +kernel⟩ ?hw ?hc)
open PySem PySem.W PyProof.Rows in
set_option maxRecDepth 100000 in
set_option maxHeartbeats 0 in
theorem PySem.Challenge.cw_slackrods_k07_rows_refused_holds : PySem.Challenge.rw_slackrods_k07_rows_refused.Holds := by
  w_on; o_law; k_head; (case hw => w_witness2)
  k_fill
  refine Z.walk_svT (k := 18) (l := PySem.Challenge.rw_slackrods_k07_rows_refused) rfl rfl ⟨rfl, by decide, by decide⟩ (by kernel_rfl) (fun w h Y => by first | exact PySem.W.kIn_of Y | exact PySem.W.km_in_of Y) ?F
  case F =>
    intro w mg fa h KX G hmg
    refine' Pf.all_mk KX G hmg ?a__law_random ?l__law_random ?c__law_random ?k__law_random ?a__law_below ?l__law_below ?c__law_below ?k__law_below ?a__law_row ?l__law_row ?c__law_row ?k__law_row ?a_is_whole_number ?l_is_whole_number ?c_is_whole_number ?k_is_whole_number ?a_is_number ?l_is_number ?c_is_number ?k_is_number ?a__check_arms ?l__check_arms ?c__check_arms ?k__check_arms ?a_rod ?l_rod ?c_rod ?k_rod ?a_is_place ?l_is_place ?c_is_place ?k_is_place ?a_check_row ?l_check_row ?c_check_row ?k_check_row ?a_ends_of_rod ?l_ends_of_rod ?c_ends_of_rod ?k_ends_of_rod ?a_ends_of_arms ?l_ends_of_arms ?c_ends_of_arms ?k_ends_of_arms ?a__is_between ?l__is_between ?c__is_between ?k__is_between ?a_count_kept ?l_count_kept ?c_count_kept ?k_count_kept ?a_after_move ?l_after_move ?c_after_move ?k_after_move ?a__fits ?l__fits ?c__fits ?k__fits ?a__check_places ?l__check_places ?c__check_places ?k__check_places ?a_memory_of ?l_memory_of ?c_memory_of ?k_memory_of ?a__law_error_of ?l__law_error_of ?c__law_error_of ?k__law_error_of ?a__law_all_raise ?l__law_all_raise ?c__law_all_raise ?k__law_all_raise ?a_loops ?l_loops ?c_loops ?k_loops ?a_travel ?l_travel ?c_travel ?k_travel ?a_recorded ?l_recorded ?c_recorded ?k_recorded ?a__check_moves ?l__check_moves ?c__check_moves ?k__check_moves ?a_law ?l_law ?c_law ?k_law ?aC_Rig ?pg_Rig ?hd_Rig ?po_Rig ?sa_Rig ?na_Rig ?ha_Rig ?hn_Rig ?ht_Rig ?hm_Rig ?ne_Rig ?ic_Rig ?ty_Rig ?st_Rig ?mk_Rig ?kc_Rig ?a_Rig__init_ ?i_Rig__init_ ?fi_Rig__init_ ?l_Rig__init_ ?c_Rig__init_ ?k_Rig__init_ ?a_Rig__call_ ?i_Rig__call_ ?fi_Rig__call_ ?l_Rig__call_ ?c_Rig__call_ ?k_Rig__call_ ?aC_Memory ?pg_Memory ?hd_Memory ?po_Memory ?sa_Memory ?na_Memory ?ha_Memory ?hn_Memory ?ht_Memory ?hm_Memory ?ne_Memory ?ic_Memory ?ty_Memory ?st_Memory ?mk_Memory ?kc_Memory ?a_Memory__init_ ?i_Memory__init_ ?fi_Memory__init_ ?l_Memory__init_ ?c_Memory__init_ ?k_Memory__init_ ?a_Memory_places ?g_Memory_places ?t_Memory_places ?r_Memory_places_ ?l_Memory_places ?c_Memory_places ?k_Memory_places ?aC_Repeated ?pg_Repeated ?hd_Repeated ?po_Repeated ?sa_Repeated ?na_Repeated ?ha_Repeated ?hn_Repeated ?ht_Repeated ?hm_Repeated ?ne_Repeated ?ic_Repeated ?ty_Repeated ?st_Repeated ?mk_Repeated ?kc_Repeated ?a_Repeated__init_ ?i_Repeated__init_ ?fi_Repeated__init_ ?l_Repeated__init_ ?c_Repeated__init_ ?k_Repeated__init_ ?q_law ?lk_law ?tk_law ?nk_law ?hk_law ?e_InvalidSlack ?e_InvalidTimes ?e_NotForward ?e_TooGreat ?e_InvalidPlace ?e_InvalidCount ?e_InvalidRange ?e_OutOfBound ?e_Contradiction ?e_InvalidName ?e_UnknownName ?e_InvalidPanel ?e_UnlikeRigs ?e_InvalidRow ?e_InvalidEnds ?e_InvalidMemory ?e_InvalidOperation ?e_InvalidRecording ?e_NotationError ?e_DecodeError ?e_RodError ?xn_InvalidRow ?in_InvalidRow__init_ ?l_InvalidRow__init_ ?c_InvalidRow__init_ ?ld_InvalidRow__init_ ?hv_InvalidRow__init_ ?hf_InvalidRow__init_ ?lc_InvalidRow__init_ ?sb_InvalidRow__init_ ?tp_InvalidRow__init_ ?z_len ?z_isinstance ?z_min ?z_max ?z_abs ?z_sum ?z_int ?z_bool ?z_list ?z_tuple ?z_dict ?z_range ?z_enumerate ?z_zip ?z_sorted ?z_ValueError ?z_FARTHEST ?v_FARTHEST ?z_LONGEST_ROW ?v_LONGEST_ROW ?z_GREATEST_ROD ?v_GREATEST_ROD ?z_GREATEST_TIMES ?v_GREATEST_TIMES ?z_GREATEST_SLACK ?v_GREATEST_SLACK ?z_GREATEST_ARM ?v_GREATEST_ARM ?z_MOST_ARMS ?v_MOST_ARMS
    (case a__law_random => k_is)
    (case l__law_random => k_is)
    (case c__law_random => k_is)
    (case k__law_random => k_is)
    (case a__law_below => k_is)
    (case l__law_below => k_is)
    (case c__law_below => k_is)
    (case k__law_below => k_is)
    (case a__law_row => k_is)
    (case l__law_row => k_is)
    (case c__law_row => k_is)
    (case k__law_row => k_is)
    (case a_is_whole_number => k_is)
    (case l_is_whole_number => k_is)
    (case c_is_whole_number => k_is)
    (case k_is_whole_number => k_is)
    (case a_is_number => k_is)
    (case l_is_number => k_is)
    (case c_is_number => k_is)
    (case k_is_number => k_is)
    (case a__check_arms => k_is)
    (case l__check_arms => k_is)
    (case c__check_arms => k_is)
    (case k__check_arms => k_is)
    (case a_rod => k_is)
    (case l_rod => k_is)
    (case c_rod => k_is)
    (case k_rod => k_is)
    (case a_is_place => k_is)
    (case l_is_place => k_is)
    (case c_is_place => k_is)
    (case k_is_place => k_is)
    (case a_check_row => k_is)
    (case l_check_row => k_is)
    (case c_check_row => k_is)
    (case k_check_row => k_is)
    (case a_ends_of_rod => k_is)
    (case l_ends_of_rod => k_is)
    (case c_ends_of_rod => k_is)
    (case k_ends_of_rod => k_is)
    (case a_ends_of_arms => k_is)
    (case l_ends_of_arms => k_is)
    (case c_ends_of_arms => k_is)
    (case k_ends_of_arms => k_is)
    (case a__is_between => k_is)
    (case l__is_between => k_is)
    (case c__is_between => k_is)
    (case k__is_between => k_is)
    (case a_count_kept => k_is)
    (case l_count_kept => k_is)
    (case c_count_kept => k_is)
    (case k_count_kept => k_is)
    (case a_after_move => k_is)
    (case l_after_move => k_is)
    (case c_after_move => k_is)
    (case k_after_move => k_is)
    (case a__fits => k_is)
    (case l__fits => k_is)
    (case c__fits => k_is)
    (case k__fits => k_is)
    (case a__check_places => k_is)
    (case l__check_places => k_is)
    (case c__check_places => k_is)
    (case k__check_places => k_is)
    (case a_memory_of => k_is)
    (case l_memory_of => k_is)
    (case c_memory_of => k_is)
    (case k_memory_of => k_is)
    (case a__law_error_of => k_is)
    (case l__law_error_of => k_is)
    (case c__law_error_of => k_is)
    (case k__law_error_of => k_is)
    (case a__law_all_raise => k_is)
    (case l__law_all_raise => k_is)
    (case c__law_all_raise => k_is)
    (case k__law_all_raise => k_is)
    (case a_loops => k_is)
    (case l_loops => k_is)
    (case c_loops => k_is)
    (case k_loops => k_is)
    (case a_travel => k_is)
    (case l_travel => k_is)
    (case c_travel => k_is)
    (case k_travel => k_is)
    (case a_recorded => k_is)
    (case l_recorded => k_is)
    (case c_recorded => k_is)
    (case k_recorded => k_is)
    (case a__check_moves => k_is)
    (case l__check_moves => k_is)
    (case c__check_moves => k_is)
    (case k__check_moves => k_is)
    (case a_law => k_is)
    (case l_law => k_is)
    (case c_law => k_is)
    (case k_law => k_is)
    (case aC_Rig => k_is)
    (case pg_Rig => k_is)
    (case hd_Rig => k_is)
    (case po_Rig => k_is)
    (case sa_Rig => k_is)
    (case na_Rig => k_is)
    (case ha_Rig => k_is)
    (case hn_Rig => k_is)
    (case ht_Rig => k_is)
    (case hm_Rig => k_is)
    (case ne_Rig => k_is)
    (case ic_Rig => k_is)
    (case ty_Rig => k_is)
    (case st_Rig => k_is)
    (case mk_Rig => k_is)
    (case kc_Rig => k_is)
    (case a_Rig__init_ => k_is)
    (case i_Rig__init_ => k_is)
    (case fi_Rig__init_ => k_is)
    (case l_Rig__init_ => k_is)
    (case c_Rig__init_ => k_is)
    (case k_Rig__init_ => k_is)
    (case a_Rig__call_ => k_is)
    (case i_Rig__call_ => k_is)
    (case fi_Rig__call_ => k_is)
    (case l_Rig__call_ => k_is)
    (case c_Rig__call_ => k_is)
    (case k_Rig__call_ => k_is)
    (case aC_Memory => k_is)
    (case pg_Memory => k_is)
    (case hd_Memory => k_is)
    (case po_Memory => k_is)
    (case sa_Memory => k_is)
    (case na_Memory => k_is)
    (case ha_Memory => k_is)
    (case hn_Memory => k_is)
    (case ht_Memory => k_is)
    (case hm_Memory => k_is)
    (case ne_Memory => k_is)
    (case ic_Memory => k_is)
    (case ty_Memory => k_is)
    (case st_Memory => k_is)
    (case mk_Memory => k_is)
    (case kc_Memory => k_is)
    (case a_Memory__init_ => k_is)
    (case i_Memory__init_ => k_is)
    (case fi_Memory__init_ => k_is)
    (case l_Memory__init_ => k_is)
    (case c_Memory__init_ => k_is)
    (case k_Memory__init_ => k_is)
    (case a_Memory_places => k_is)
    (case g_Memory_places => k_is)
    (case t_Memory_places => k_is)
    (case r_Memory_places_ => k_is)
    (case l_Memory_places => k_is)
    (case c_Memory_places => k_is)
    (case k_Memory_places => k_is)
    (case aC_Repeated => k_is)
    (case pg_Repeated => k_is)
    (case hd_Repeated => k_is)
    (case po_Repeated => k_is)
    (case sa_Repeated => k_is)
    (case na_Repeated => k_is)
    (case ha_Repeated => k_is)
    (case hn_Repeated => k_is)
    (case ht_Repeated => k_is)
    (case hm_Repeated => k_is)
    (case ne_Repeated => k_is)
    (case ic_Repeated => k_is)
    (case ty_Repeated => k_is)
    (case st_Repeated => k_is)
    (case mk_Repeated => k_is)
    (case kc_Repeated => k_is)
    (case a_Repeated__init_ => k_is)
    (case i_Repeated__init_ => k_is)
    (case fi_Repeated__init_ => k_is)
    (case l_Repeated__init_ => k_is)
    (case c_Repeated__init_ => k_is)
    (case k_Repeated__init_ => k_is)
    (case q_law => rfl)
    (case lk_law => k_is)
    (case tk_law => rfl)
    (case nk_law => kernel_rfl)
    (case hk_law => kernel_rfl)
    (case e_InvalidSlack => k_is)
    (case e_InvalidTimes => k_is)
    (case e_NotForward => k_is)
    (case e_TooGreat => k_is)
    (case e_InvalidPlace => k_is)
    (case e_InvalidCount => k_is)
    (case e_InvalidRange => k_is)
    (case e_OutOfBound => k_is)
    (case e_Contradiction => k_is)
    (case e_InvalidName => k_is)
    (case e_UnknownName => k_is)
    (case e_InvalidPanel => k_is)
    (case e_UnlikeRigs => k_is)
    (case e_InvalidRow => k_is)
    (case e_InvalidEnds => k_is)
    (case e_InvalidMemory => k_is)
    (case e_InvalidOperation => k_is)
    (case e_InvalidRecording => k_is)
    (case e_NotationError => k_is)
    (case e_DecodeError => k_is)
    (case e_RodError => k_is)
    (case xn_InvalidRow => kernel_rfl)
    (case in_InvalidRow__init_ => k_is)
    (case l_InvalidRow__init_ => k_is)
    (case c_InvalidRow__init_ => k_is)
    (case ld_InvalidRow__init_ => k_is)
    (case hv_InvalidRow__init_ => rfl)
    (case hf_InvalidRow__init_ => first | rfl | kernel_rfl | decide +kernel)
    (case lc_InvalidRow__init_ => k_is)
    (case sb_InvalidRow__init_ => kernel_rfl)
    (case tp_InvalidRow__init_ => first | rfl | kernel_rfl | decide +kernel)
    (case z_len => k_is)
    (case z_isinstance => k_is)
    (case z_min => k_is)
    (case z_max => k_is)
    (case z_abs => k_is)
    (case z_sum => k_is)
    (case z_int => k_is)
    (case z_bool => k_is)
    (case z_list => k_is)
    (case z_tuple => k_is)
    (case z_dict => k_is)
    (case z_range => k_is)
    (case z_enumerate => k_is)
    (case z_zip => k_is)
    (case z_sorted => k_is)
    (case z_ValueError => k_is)
    (case z_FARTHEST => k_is)
    (case v_FARTHEST => exact ⟨_, rfl⟩)
    (case z_LONGEST_ROW => k_is)
    (case v_LONGEST_ROW => exact ⟨_, rfl⟩)
    (case z_GREATEST_ROD => k_is)
    (case v_GREATEST_ROD => exact ⟨_, rfl⟩)
    (case z_GREATEST_TIMES => k_is)
    (case v_GREATEST_TIMES => exact ⟨_, rfl⟩)
    (case z_GREATEST_SLACK => k_is)
    (case v_GREATEST_SLACK => exact ⟨_, rfl⟩)
    (case z_GREATEST_ARM => k_is)
    (case v_GREATEST_ARM => exact ⟨_, rfl⟩)
    (case z_MOST_ARMS => k_is)
    (case v_MOST_ARMS => exact ⟨_, rfl⟩)
#print axioms PySem.Challenge.cw_slackrods_k07_rows_refused_holds

