import PyProof.Rows.All
import Wide.All
import OpenK.AllK
import Wide.FinOn
import HandS.ForMost
import HandS.Evl
import HandS.Codes
import HandS.Conv
import HandS.IsInst
import HandS.Property
import HandS.Star
import HandS.TupAny
import HandS.Wide
import KE.KDictPairs
import HandS.Walk
import HandS.SortInts
import HandS.Style
import HandS.TryOnly
import OpenK.KMeth
import HandS.Deep
import PySem.Challenge.RW_slackrods_k16_whole_no_shorter_row
set_option Elab.async false
set_option linter.all false
set_option maxRecDepth 100000
set_option maxHeartbeats 4000000
namespace Z
open PySem L2
abbrev Ex := Evl.Ex
theorem Ex.rfl' {H : Hp} : Ex H H := fun _ _ h => h
/-- from the part h of the heap H to the part h' of H': all stands, what was outside of h is outside of h' -/
structure Stp (h H h' H' : Hp) : Prop where
  e : Ex H H'
  s : Ex h h'
  i : Ex h' H'
  f : ∀ b o, H b = some o → h b = none → h' b = none
theorem Stp.refl {h H : Hp} (x : Ex h H) : Stp h H h H := ⟨fun _ _ q => q, fun _ _ q => q, x, fun _ _ _ n => n⟩
theorem Stp.trans {h H h1 H1 h2 H2 : Hp} (a : Stp h H h1 H1) (b : Stp h1 H1 h2 H2) : Stp h H h2 H2 :=
  ⟨fun x o q => b.e x o (a.e x o q), fun x o q => b.s x o (a.s x o q), b.i, fun x o q n => b.f x o (a.e x o q) (a.f x o q n)⟩
/-- a new object -/
theorem Stp.new {h H : Hp} {p : Addr} {o : HO} (x : Ex h H) (n : H p = none) : Stp h H (upd h p o) (upd H p o) := by
  have hn : h p = none := by
    cases q : h p with
    | none => rfl
    | some u => rw [x p u q] at n; cases n
  refine ⟨fun b u q => ?_, fun b u q => ?_, fun b u q => ?_, fun b u q z => ?_⟩
  · rw [upd_ne (ne_of_none q n)]; exact q
  · rw [upd_ne (ne_of_none q hn)]; exact q
  · by_cases e : b = p
    · subst e; rw [upd_same] at q ⊢; exact q
    · rw [upd_ne e] at q ⊢; exact x b u q
  · rw [upd_ne (ne_of_none q n)]; exact z
structure Pr where
  p : V → Hp → Prop
  mono : ∀ {v : V} {h h' : Hp}, Ex h h' → p v h → p v h'
/-- there is an a such that -/
def Pr.some {α : Sort _} (f : α → Pr) : Pr := ⟨fun v h => ∃ a, (f a).p v h, fun e ⟨a, q⟩ => ⟨a, (f a).mono e q⟩⟩
def Pr.and (C : Prop) (P : Pr) : Pr := ⟨fun v h => C ∧ P.p v h, fun e ⟨c, q⟩ => ⟨c, P.mono e q⟩⟩
def Pr.any : Pr := ⟨fun _ _ => True, fun _ q => q⟩
def Pr.is (v : V) : Pr := ⟨fun u _ => u = v, fun _ q => q⟩

/-! ### data -/
theorem sqL_ex {K : PySem.W.Frag} {h h' : Hp} {a : Addr} {xs : List V} (e : Ex h h') (q : SqL K h a xs) : SqL K h' a xs := Evl.ex_l e q
theorem sqT_ex {K : PySem.W.Frag} {h h' : Hp} {a : Addr} {xs : List V} (e : Ex h h') (q : SqT K h a xs) : SqT K h' a xs := Evl.ex_t e q
mutual
/-- the value stands for the data; lists are the run's own -/
inductive Dq (K : PySem.W.Frag) (H : Hp) : V → PyData → Prop
  | non : Dq K H .non .none
  | bl (b : Bool) : Dq K H (.bl b) (.bool b)
  | int (i : Int) : Dq K H (.int i) (.int i)
  | str (x : Str) : Dq K H (.str x) (.str x)
  | lst {a : Addr} {xs : List V} {ds : List PyData} : H a = some (.lst xs) → DqAll K H xs ds → Dq K H (.ref a) (.list ds)
  | tup {a : Addr} {xs : List V} {ds : List PyData} : SqT K H a xs → DqAll K H xs ds → Dq K H (.ref a) (.tuple ds)
inductive DqAll (K : PySem.W.Frag) (H : Hp) : List V → List PyData → Prop
  | nil : DqAll K H [] []
  | cons {v : V} {vs : List V} {d : PyData} {ds : List PyData} : Dq K H v d → DqAll K H vs ds → DqAll K H (v :: vs) (d :: ds)
end
mutual
theorem dq_dp {K : PySem.W.Frag} {h : Hp} : ∀ {v : V} {d : PyData}, Dq K h v d → Dp K h v d
  | _, _, .non => .non
  | _, _, .bl b => .bl b
  | _, _, .int i => .int i
  | _, _, .str x => .str x
  | _, _, .lst q a => .lst (.inl (.inl q)) (dqa_dpa a)
  | _, _, .tup q a => .tup q (dqa_dpa a)
theorem dqa_dpa {K : PySem.W.Frag} {h : Hp} : ∀ {vs : List V} {ds : List PyData}, DqAll K h vs ds → DpAll K h vs ds
  | _, _, .nil => .nil
  | _, _, .cons a b => .cons (dq_dp a) (dqa_dpa b)
end
mutual
theorem dp_ex {K : PySem.W.Frag} {h h' : Hp} (e : Ex h h') : ∀ {v : V} {d : PyData}, Dq K h v d → Dq K h' v d
  | _, _, .non => .non
  | _, _, .bl b => .bl b
  | _, _, .int i => .int i
  | _, _, .str x => .str x
  | _, _, .lst q a => .lst (e _ _ q) (dpa_ex e a)
  | _, _, .tup q a => .tup (sqT_ex e q) (dpa_ex e a)
theorem dpa_ex {K : PySem.W.Frag} {h h' : Hp} (e : Ex h h') : ∀ {vs : List V} {ds : List PyData}, DqAll K h vs ds → DqAll K h' vs ds
  | _, _, .nil => .nil
  | _, _, .cons a b => .cons (dp_ex e a) (dpa_ex e b)
end
/-- the value stands for the data -/
def D (K : PySem.W.Frag) (d : PyData) : Pr := ⟨fun v h => Dq K h v d, fun e q => dp_ex e q⟩
abbrev I (K : PySem.W.Frag) (i : Int) : Pr := D K (.int i)
abbrev B (K : PySem.W.Frag) (b : Bool) : Pr := D K (.bool b)
abbrev dI (ns : List Int) : PyData := .list (ns.map PyData.int)
abbrev dT (ns : List Int) : PyData := .tuple (ns.map PyData.int)
section
variable {K : PySem.W.Frag} {h : Hp} {v : V}
theorem dp_int {i : Int} (q : Dq K h v (.int i)) : v = .int i := by cases q; rfl
theorem dp_bl {b : Bool} (q : Dq K h v (.bool b)) : v = .bl b := by cases q; rfl
theorem dp_str {x : Str} (q : Dq K h v (.str x)) : v = .str x := by cases q; rfl
theorem dp_non (q : Dq K h v .none) : v = .non := by cases q; rfl
theorem dp_lst {ds : List PyData} (q : Dq K h v (.list ds)) : ∃ a xs, v = .ref a ∧ h a = some (.lst xs) ∧ DqAll K h xs ds := by cases q with | lst a b => exact ⟨_, _, rfl, a, b⟩
theorem dp_tup {ds : List PyData} (q : Dq K h v (.tuple ds)) : ∃ a xs, v = .ref a ∧ SqT K h a xs ∧ DqAll K h xs ds := by cases q with | tup a b => exact ⟨_, _, rfl, a, b⟩
theorem dpa_len : ∀ {vs : List V} {ds : List PyData}, DqAll K h vs ds → vs.length = ds.length
  | _, _, .nil => rfl
  | _, _, .cons _ b => by rw [List.length_cons, List.length_cons, dpa_len b]
theorem dpa_ints : ∀ {vs : List V} {ns : List Int}, DqAll K h vs (ns.map PyData.int) → vs = ns.map V.int
  | _, [], q => by cases q; rfl
  | _, n :: ns, q => by
    cases q with
    | cons a b => rw [dp_int a, dpa_ints b]; rfl
theorem ints_dpa : ∀ (ns : List Int), DqAll K h (ns.map V.int) (ns.map PyData.int)
  | [] => .nil
  | n :: ns => .cons (.int n) (ints_dpa ns)
theorem dp_ints {ns : List Int} (q : Dq K h v (dI ns)) : ∃ a, v = .ref a ∧ h a = some (.lst (ns.map V.int)) := by
  obtain ⟨a, xs, e, s, d⟩ := dp_lst q
  rw [dpa_ints d] at s
  exact ⟨a, e, s⟩
theorem dp_intsT {ns : List Int} (q : Dq K h v (dT ns)) : ∃ a, v = .ref a ∧ SqT K h a (ns.map V.int) := by
  obtain ⟨a, xs, e, s, d⟩ := dp_tup q
  rw [dpa_ints d] at s
  exact ⟨a, e, s⟩
theorem ints_dp {a : Addr} {ns : List Int} (s : h a = some (.lst (ns.map V.int))) : Dq K h (.ref a) (dI ns) := .lst s (ints_dpa ns)
theorem intsT_dp {a : Addr} {ns : List Int} (s : SqT K h a (ns.map V.int)) : Dq K h (.ref a) (dT ns) := .tup s (ints_dpa ns)
theorem dpa_get : ∀ {vs : List V} {ds : List PyData} {j : Nat} {d : PyData}, DqAll K h vs ds → ds[j]? = some d → ∃ v, vs[j]? = some v ∧ Dq K h v d
  | _, _, _, _, .nil, e => by simp at e
  | _, _, 0, d, .cons a b, e => by simp at e; subst e; exact ⟨_, rfl, a⟩
  | _, _, j + 1, d, .cons a b, e => by
    obtain ⟨v, h1, h2⟩ := dpa_get (j := j) b (by simpa using e)
    exact ⟨v, by simpa using h1, h2⟩
theorem dpa_get' : ∀ {vs : List V} {ds : List PyData} {j : Nat} {v : V}, DqAll K h vs ds → vs[j]? = some v → ∃ d, ds[j]? = some d ∧ Dq K h v d
  | _, _, _, _, .nil, e => by simp at e
  | _, _, 0, v, .cons a b, e => by simp at e; subst e; exact ⟨_, rfl, a⟩
  | _, _, j + 1, v, .cons a b, e => by
    obtain ⟨d, h1, h2⟩ := dpa_get' (j := j) b (by simpa using e)
    exact ⟨d, by simpa using h1, h2⟩
theorem dpa_app : ∀ {vs us : List V} {ds es : List PyData}, DqAll K h vs ds → DqAll K h us es → DqAll K h (vs ++ us) (ds ++ es)
  | _, _, _, _, .nil, b => b
  | _, _, _, _, .cons a r, b => .cons a (dpa_app r b)
theorem dpa_drop : ∀ {vs : List V} {ds : List PyData} (n : Nat), DqAll K h vs ds → DqAll K h (vs.drop n) (ds.drop n)
  | _, _, 0, r => r
  | _, _, _ + 1, .nil => .nil
  | _, _, n + 1, .cons _ r => dpa_drop n r
theorem dpa_take : ∀ {vs : List V} {ds : List PyData} (n : Nat), DqAll K h vs ds → DqAll K h (vs.take n) (ds.take n)
  | _, _, 0, _ => .nil
  | _, _, _ + 1, .nil => .nil
  | _, _, n + 1, .cons a r => .cons a (dpa_take n r)
end
theorem atI_map {α β : Type} {f : α → β} {xs : List α} {i : Int} {x : α} (e : atI xs i = some x) : atI (xs.map f) i = some (f x) := by
  unfold atI at e ⊢
  rw [List.length_map]
  cases q : ixN xs.length i with
  | none => rw [q] at e; cases e
  | some j =>
    rw [q] at e
    have e' : xs[j]? = some x := e
    show (xs.map f)[j]? = some (f x)
    rw [List.getElem?_map, e']; rfl
theorem dpa_atI {K : PySem.W.Frag} {h : Hp} {vs : List V} {ds : List PyData} {i : Int} {d : PyData} (q : DqAll K h vs ds) (e : atI ds i = some d) : ∃ v, atI vs i = some v ∧ Dq K h v d := by
  unfold atI at e ⊢
  rw [dpa_len q]
  cases z : ixN ds.length i with
  | none => rw [z] at e; cases e
  | some j =>
    rw [z] at e
    have e' : ds[j]? = some d := e
    exact dpa_get q e'

/-! ### the frame's slots -/
abbrev Ctx := List (Option Pr)
structure En (Γ : Ctx) (σ : St) (h : Hp) : Prop where
  len : σ.length = Γ.length
  at_ : ∀ (i : Nat) (P : Pr), Γ[i]? = some (some P) → ∃ v, σ[i]? = some (some v) ∧ P.p v h
theorem En.mono {Γ : Ctx} {σ : St} {h h' : Hp} (x : En Γ σ h) (e : Ex h h') : En Γ σ h' := ⟨x.len, fun i P q => let ⟨v, a, b⟩ := x.at_ i P q; ⟨v, a, P.mono e b⟩⟩
theorem En.set {Γ : Ctx} {σ : St} {h : Hp} {P : Pr} {v : V} (x : En Γ σ h) (i : Nat) (q : P.p v h) : En (Γ.set i (some P)) (σ.set i (some v)) h := by
  refine ⟨by rw [List.length_set, List.length_set]; exact x.len, fun j R e => ?_⟩
  by_cases c : i = j
  · subst c
    have hl : i < Γ.length := by
      have := (List.getElem?_eq_some_iff.mp e).1
      rw [List.length_set] at this; exact this
    rw [List.getElem?_set_self hl] at e
    have e' : P = R := Option.some.inj (Option.some.inj e)
    subst e'
    exact ⟨v, List.getElem?_set_self (by rw [x.len]; exact hl), q⟩
  · rw [List.getElem?_set_ne c] at e
    obtain ⟨u, a, b⟩ := x.at_ j R e
    exact ⟨u, by rw [List.getElem?_set_ne c]; exact a, b⟩
theorem En.wipe {Γ : Ctx} {σ : St} {h : Hp} (x : En Γ σ h) (i : Nat) : En (Γ.set i none) (σ.set i none) h := by
  refine ⟨by rw [List.length_set, List.length_set]; exact x.len, fun j R e => ?_⟩
  by_cases c : i = j
  · subst c
    have hl : i < Γ.length := by
      have := (List.getElem?_eq_some_iff.mp e).1
      rw [List.length_set] at this; exact this
    rw [List.getElem?_set_self hl] at e
    cases e
  · rw [List.getElem?_set_ne c] at e
    obtain ⟨u, a, b⟩ := x.at_ j R e
    exact ⟨u, by rw [List.getElem?_set_ne c]; exact a, b⟩
theorem En.set_open {Γ : Ctx} {σ : St} {h : Hp} {P : Pr} {v : V} (x : En Γ σ h) (i : Nat) (hl : i < Γ.length) (q : P.p v h) (e : σ[i]? = some (some v)) : En (Γ.set i (some P)) σ h := by
  have y := x.set i q
  have z : σ.set i (some v) = σ := by
    apply List.ext_getElem?
    intro j
    by_cases c : i = j
    · subst c
      rw [List.getElem?_set_self (by rw [x.len]; exact hl), e]
    · rw [List.getElem?_set_ne c]
  rw [z] at y
  exact y

/-! ### expressions -/
def T (Γ : Ctx) (te : TE) (P : Pr) : Prop := ∀ (σ : St) (h H : Hp), En Γ σ h → Ex h H → ∀ Q : VK, (∀ v h' H', Stp h H h' H' → P.p v h' → Q v H') → te σ H Q
/-- a test whose answer c is as φ says -/
def TB (Γ : Ctx) (tt : TT) (φ : Bool → Prop) : Prop := ∀ (σ : St) (h H : Hp), En Γ σ h → Ex h H → ∀ Q : Bool → Hp → Prop, (∀ c h' H', Stp h H h' H' → φ c → Q c H') → tt σ H Q
/-- arguments -/
inductive Vs : List Pr → List V → Hp → Prop
  | nil {h : Hp} : Vs [] [] h
  | cons {P : Pr} {Ps : List Pr} {v : V} {vs : List V} {h : Hp} : P.p v h → Vs Ps vs h → Vs (P :: Ps) (v :: vs) h
theorem Vs.mono {h h' : Hp} (e : Ex h h') : ∀ {Ps : List Pr} {vs : List V}, Vs Ps vs h → Vs Ps vs h'
  | _, _, .nil => .nil
  | _, _, .cons (P := P) a b => .cons (P.mono e a) (b.mono e)
theorem Vs.len {h : Hp} : ∀ {Ps : List Pr} {vs : List V}, Vs Ps vs h → vs.length = Ps.length
  | _, _, .nil => rfl
  | _, _, .cons _ b => by rw [List.length_cons, List.length_cons, b.len]
theorem Vs.app {h : Hp} {P : Pr} {v : V} (q : P.p v h) : ∀ {Ps : List Pr} {vs : List V}, Vs Ps vs h → Vs (Ps ++ [P]) (vs ++ [v]) h
  | _, _, .nil => .cons q .nil
  | _, _, .cons a b => .cons a (Vs.app q b)
def TAs (Γ : Ctx) (ta : TA) (Ps : List Pr) : Prop := ∀ (σ : St) (h H : Hp), En Γ σ h → Ex h H → ∀ Q : List V → Hp → Prop, (∀ vs h' H', Stp h H h' H' → Vs Ps vs h' → Q vs H') → ta σ H Q
def OpP (r : R2) (A C : Pr) (P : Pr) : Prop := ∀ (x y : V) (h H : Hp), A.p x h → C.p y h → Ex h H → ∀ Q : VK, (∀ v h' H', Stp h H h' H' → P.p v h' → Q v H') → r x y H Q
def UnP (r : V → Hp → VK → Prop) (A : Pr) (P : Pr) : Prop := ∀ (x : V) (h H : Hp), A.p x h → Ex h H → ∀ Q : VK, (∀ v h' H', Stp h H h' H' → P.p v h' → Q v H') → r x H Q
def FnP (r : List V → Hp → VK → Prop) (As : List Pr) (P : Pr) : Prop := ∀ (vs : List V) (h H : Hp), Vs As vs h → Ex h H → ∀ Q : VK, (∀ v h' H', Stp h H h' H' → P.p v h' → Q v H') → r vs H Q
section
variable {K : PySem.W.Frag} {Γ : Ctx} {te ta tb tc : TE} {t u : TT} {P A C R : Pr} {r : R2} {As : List Pr} {tr : TA}
theorem t_var {i : Nat} (q : Γ[i]? = some (some P)) : T Γ (tVar i) P := fun σ h H x e Q k =>
  let ⟨v, a, b⟩ := x.at_ i P q; ⟨v, a, k v h H (Stp.refl e) b⟩
theorem t_c {v : V} (q : ∀ h, P.p v h) : T Γ (tC v) P := fun σ h H x e Q k => k v h H (Stp.refl e) (q h)
theorem t_int {i : Int} : T Γ (tC (.int i)) (I K i) := t_c fun _ => .int i
theorem t_bl {b : Bool} : T Γ (tC (.bl b)) (B K b) := t_c fun _ => .bl b
theorem t_non : T Γ (tC .non) (D K .none) := t_c fun _ => .non
theorem t_str {s : Str} : T Γ (tC (.str s)) (D K (.str s)) := t_c fun _ => .str s
theorem t_weak (a : T Γ te P) (w : ∀ v h, P.p v h → R.p v h) : T Γ te R := fun σ h H x e Q k => a σ h H x e Q fun v h' H' s q => k v h' H' s (w v h' q)
theorem t_some {α : Sort _} {f : α → Pr} (a : α) (q : T Γ te (f a)) : T Γ te (Pr.some f) := t_weak q fun _ _ z => ⟨a, z⟩
theorem t_and {c : Prop} (hc : c) (q : T Γ te P) : T Γ te (Pr.and c P) := t_weak q fun _ _ z => ⟨hc, z⟩
theorem t_eqI {i j : Int} (q : T Γ te (I K i)) (e : i = j) : T Γ te (I K j) := e ▸ q
theorem t_op (a : T Γ ta A) (b : T Γ tb C) (o : OpP r A C P) : T Γ (tOp r ta tb) P := fun σ h H x e Q k =>
  a σ h H x e _ fun v h1 H1 s1 q1 => b σ h1 H1 (x.mono s1.s) s1.i _ fun y h2 H2 s2 q2 => o v y h2 H2 (A.mono s2.s q1) q2 s2.i Q fun z h3 H3 s3 q3 => k z h3 H3 ((s1.trans s2).trans s3) q3
theorem t_un {r : V → Hp → VK → Prop} (a : T Γ ta A) (o : UnP r A P) : T Γ (tUn r ta) P := fun σ h H x e Q k =>
  a σ h H x e _ fun v h1 H1 s1 q1 => o v h1 H1 q1 s1.i Q fun z h2 H2 s2 q2 => k z h2 H2 (s1.trans s2) q2
theorem ta_nil : TAs Γ tNil [] := fun σ h H x e Q k => k [] h H (Stp.refl e) .nil
theorem ta_cons (a : T Γ ta A) (b : TAs Γ tr As) : TAs Γ (tCons ta tr) (A :: As) := fun σ h H x e Q k =>
  a σ h H x e _ fun v h1 H1 s1 q1 => b σ h1 H1 (x.mono s1.s) s1.i _ fun vs h2 H2 s2 q2 => k _ h2 H2 (s1.trans s2) (.cons (A.mono s2.s q1) q2)
theorem t_cb {r : List V → Hp → VK → Prop} (a : TAs Γ tr As) (o : FnP r As P) : T Γ (tCB r tr) P := fun σ h H x e Q k =>
  a σ h H x e _ fun vs h1 H1 s1 q1 => o vs h1 H1 q1 s1.i Q fun z h2 H2 s2 q2 => k z h2 H2 (s1.trans s2) q2
theorem opp_someL {α : Sort _} {f : α → Pr} (q : ∀ a, OpP r (f a) C P) : OpP r (Pr.some f) C P := fun x y h H ⟨a, z⟩ => q a x y h H z
theorem opp_someR {α : Sort _} {f : α → Pr} (q : ∀ a, OpP r A (f a) P) : OpP r A (Pr.some f) P := fun x y h H z1 ⟨a, z⟩ => q a x y h H z1 z
theorem opp_andL {c : Prop} (q : c → OpP r A C P) : OpP r (Pr.and c A) C P := fun x y h H ⟨a, z⟩ => q a x y h H z
theorem opp_andR {c : Prop} (q : c → OpP r A C P) : OpP r A (Pr.and c C) P := fun x y h H z1 ⟨a, z⟩ => q a x y h H z1 z
theorem opp_to {P' : Pr} (q : OpP r A C P) (w : ∀ v h, P.p v h → P'.p v h) : OpP r A C P' := fun x y h H a c e Q k => q x y h H a c e Q fun v h' H' s z => k v h' H' s (w v h' z)
theorem opp_I {g : Int → Int → Int} {i j : Int} : OpP (rI0 fun i j => .int (g i j)) (I K i) (I K j) (I K (g i j)) := fun x y h H a c e Q k => ⟨i, j, dp_int a, dp_int c, k _ h H (Stp.refl e) (.int _)⟩
theorem opp_B {g : Int → Int → Bool} {i j : Int} : OpP (rI0 fun i j => .bl (g i j)) (I K i) (I K j) (B K (g i j)) := fun x y h H a c e Q k => ⟨i, j, dp_int a, dp_int c, k _ h H (Stp.refl e) (.bl _)⟩
theorem opp_IC {c : Int → Int → Prop} {g : Int → Int → Int} {i j : Int} (q : c i j) : OpP (rI c fun i j => .int (g i j)) (I K i) (I K j) (I K (g i j)) := fun x y h H a z e Q k => ⟨i, j, dp_int a, dp_int z, q, k _ h H (Stp.refl e) (.int _)⟩
theorem unp_neg {i : Int} : UnP (rU fun i => .int (-i)) (I K i) (I K (-i)) := fun x h H a e Q k => ⟨i, dp_int a, k _ h H (Stp.refl e) (.int _)⟩
/-- xs[i] -/
theorem opp_ixL {ds : List PyData} {i : Int} {d : PyData} (q : atI ds i = some d) : OpP (rIxL K) (D K (.list ds)) (I K i) (D K d) := fun x y h H a c e Q k => by
  obtain ⟨p, xs, ex, s, z⟩ := dp_lst a
  obtain ⟨v, hv, dv⟩ := dpa_atI z q
  exact ⟨p, xs, i, v, ex, dp_int c, .inl (.inl (e _ _ s)), hv, k v h H (Stp.refl e) dv⟩
theorem opp_ixT {ds : List PyData} {i : Int} {d : PyData} (q : atI ds i = some d) : OpP (rIxT K) (D K (.tuple ds)) (I K i) (D K d) := fun x y h H a c e Q k => by
  obtain ⟨p, xs, ex, s, z⟩ := dp_tup a
  obtain ⟨v, hv, dv⟩ := dpa_atI z q
  exact ⟨p, xs, i, v, ex, dp_int c, sqT_ex e s, hv, k v h H (Stp.refl e) dv⟩
theorem opp_ixLI {ns : List Int} {i z : Int} (q : atI ns i = some z) : OpP (rIxL K) (D K (dI ns)) (I K i) (I K z) := opp_ixL (atI_map q)
theorem opp_ixTI {ns : List Int} {i z : Int} (q : atI ns i = some z) : OpP (rIxT K) (D K (dT ns)) (I K i) (I K z) := opp_ixT (atI_map q)
/-- == and != of data -/
theorem opp_eq {d e : PyData} (hd : SeqAt.shaped d = true) (he : SeqAt.shaped e = true) : OpP (rEqD K) (D K d) (D K e) (B K (PyData.eqv d e)) := fun x y h H a c z Q k =>
  ⟨d, e, dq_dp (dp_ex z a), dq_dp (dp_ex z c), hd, he, k _ h H (Stp.refl z) (.bl _)⟩
theorem opp_ne {d e : PyData} (hd : SeqAt.shaped d = true) (he : SeqAt.shaped e = true) : OpP (rNeD K) (D K d) (D K e) (B K (!PyData.eqv d e)) := fun x y h H a c z Q k =>
  ⟨d, e, dq_dp (dp_ex z a), dq_dp (dp_ex z c), hd, he, k _ h H (Stp.refl z) (.bl _)⟩
theorem opp_eqI {i j : Int} : OpP rEq (I K i) (I K j) (B K (decide (i = j))) := fun x y h H a c z Q k => by
  rw [dp_int a, dp_int c]
  refine ⟨rfl, ?_⟩
  have q := k (.bl (decide (i = j))) h H (Stp.refl z) (.bl _)
  rw [L2.dec_int]
  exact q
theorem opp_neI {i j : Int} : OpP rNe (I K i) (I K j) (B K (!decide (i = j))) := fun x y h H a c z Q k => by
  rw [dp_int a, dp_int c]
  refine ⟨rfl, ?_⟩
  have q := k (.bl (!decide (i = j))) h H (Stp.refl z) (.bl _)
  rw [L2.dec_int]
  exact q

/-! ### tests -/
theorem tb_val {b : Bool} (a : T Γ te (B K b)) : TB Γ (tB te) (fun c => c = b) := fun σ h H x e Q k => a σ h H x e _ fun v h' H' s q => ⟨b, dp_bl q, k b h' H' s rfl⟩
theorem tb_some {b : Bool} {φ : Bool → Prop} (a : T Γ te (Pr.some fun b => Pr.and (φ b) (B K b))) : TB Γ (tB te) φ := fun σ h H x e Q k => a σ h H x e _ fun v h' H' s ⟨b, f, q⟩ => ⟨b, dp_bl q, k b h' H' s f⟩
theorem tb_test {b : Bool} (a : T Γ te (B K b)) : TB Γ (tTest te) (fun c => c = b) := fun σ h H x e Q k => a σ h H x e _ fun v h' H' s q => ⟨b, dp_bl q, k b h' H' s rfl⟩
theorem tb_weak {φ ψ : Bool → Prop} (a : TB Γ t φ) (w : ∀ c, φ c → ψ c) : TB Γ t ψ := fun σ h H x e Q k => a σ h H x e Q fun c h' H' s q => k c h' H' s (w c q)
theorem tb_not {b : Bool} (a : TB Γ t (fun c => c = b)) : TB Γ (tNot t) (fun c => c = !b) := fun σ h H x e Q k => a σ h H x e _ fun c h' H' s q => by subst q; exact k _ h' H' s rfl
theorem tb_and {a b : Bool} (x : TB Γ t (fun c => c = a)) (y : a = true → TB Γ u (fun c => c = b)) : TB Γ (tAnd t u) (fun c => c = (a && b)) := fun σ h H n e Q k => x σ h H n e _ fun c h1 H1 s1 q => by
  subst q
  cases c with
  | true => exact y rfl σ h1 H1 (n.mono s1.s) s1.i Q fun c h2 H2 s2 q => k c h2 H2 (s1.trans s2) (by subst q; rfl)
  | false => exact k false h1 H1 s1 rfl
theorem tb_or {a b : Bool} (x : TB Γ t (fun c => c = a)) (y : a = false → TB Γ u (fun c => c = b)) : TB Γ (tOr t u) (fun c => c = (a || b)) := fun σ h H n e Q k => x σ h H n e _ fun c h1 H1 s1 q => by
  subst q
  cases c with
  | true => exact k true h1 H1 s1 rfl
  | false => exact y rfl σ h1 H1 (n.mono s1.s) s1.i Q fun c h2 H2 s2 q => k c h2 H2 (s1.trans s2) (by subst q; rfl)
theorem t_andV {a b : Bool} (x : T Γ ta (B K a)) (y : a = true → T Γ tb (B K b)) : T Γ (tAndV ta tb) (B K (a && b)) := fun σ h H n e Q k => x σ h H n e _ fun v h1 H1 s1 q => ⟨a, dp_bl q, by
  cases a with
  | true => exact y rfl σ h1 H1 (n.mono s1.s) s1.i Q fun c h2 H2 s2 q => k c h2 H2 (s1.trans s2) q
  | false => exact k _ h1 H1 s1 (.bl _)⟩
theorem t_orV {a b : Bool} (x : T Γ ta (B K a)) (y : a = false → T Γ tb (B K b)) : T Γ (tOrV ta tb) (B K (a || b)) := fun σ h H n e Q k => x σ h H n e _ fun v h1 H1 s1 q => ⟨a, dp_bl q, by
  cases a with
  | true => exact k _ h1 H1 s1 (.bl _)
  | false => exact y rfl σ h1 H1 (n.mono s1.s) s1.i Q fun c h2 H2 s2 q => k c h2 H2 (s1.trans s2) q⟩
theorem t_notV {a : Bool} (x : T Γ ta (B K a)) : T Γ (tNotV ta) (B K (!a)) := fun σ h H n e Q k => x σ h H n e _ fun v h1 H1 s1 q => ⟨a, dp_bl q, k _ h1 H1 s1 (.bl _)⟩
theorem t_if {φ : Bool → Prop} (x : TB Γ t φ) (y : φ true → T Γ ta P) (z : φ false → T Γ tb P) : T Γ (tIf t ta tb) P := fun σ h H n e Q k => x σ h H n e _ fun c h1 H1 s1 q => by
  cases c with
  | true => exact y q σ h1 H1 (n.mono s1.s) s1.i Q fun c h2 H2 s2 q => k c h2 H2 (s1.trans s2) q
  | false => exact z q σ h1 H1 (n.mono s1.s) s1.i Q fun c h2 H2 s2 q => k c h2 H2 (s1.trans s2) q
theorem t_eqB {a b : Bool} (q : T Γ te (B K a)) (e : a = b) : T Γ te (B K b) := e ▸ q
theorem t_eqD {a b : PyData} (q : T Γ te (D K a)) (e : a = b) : T Γ te (D K b) := e ▸ q

/-! ### made lists and tuples -/
theorem vs_dpa : ∀ {ds : List PyData} {vs : List V} {h : Hp}, Vs (ds.map (D K)) vs h → DqAll K h vs ds
  | [], _, _, .nil => .nil
  | _ :: _, _, _, .cons a b => .cons a (vs_dpa b)
theorem t_lst {ds : List PyData} (a : TAs Γ tr (ds.map (D K))) (hz : ds.length ≤ 100000) : T Γ (tLst tr) (D K (.list ds)) := fun σ h H x e Q k => a σ h H x e _ fun vs h1 H1 s1 q =>
  ⟨by rw [q.len, List.length_map]; exact Evl.sz_of hz, fun p np => k _ (upd h1 p (.lst vs)) _ (s1.trans (Stp.new s1.i np)) (.lst upd_same (vs_dpa (q.mono (Stp.new (o := .lst vs) s1.i np).s)))⟩
theorem t_tup {ds : List PyData} (a : TAs Γ tr (ds.map (D K))) (hz : ds.length ≤ 100000) : T Γ (tTup tr) (D K (.tuple ds)) := fun σ h H x e Q k => a σ h H x e _ fun vs h1 H1 s1 q =>
  ⟨by rw [q.len, List.length_map]; exact Evl.sz_of hz, fun p np => k _ (upd h1 p (.tup vs)) _ (s1.trans (Stp.new s1.i np)) (.tup (.inl (.inl upd_same)) (vs_dpa (q.mono (Stp.new (o := .tup vs) s1.i np).s)))⟩
/-- a list of anything -/
def L (K : PySem.W.Frag) (Ps : List Pr) : Pr := ⟨fun v h => ∃ a vs, v = .ref a ∧ h a = some (.lst vs) ∧ Vs Ps vs h, fun e ⟨a, vs, x, s, q⟩ => ⟨a, vs, x, e _ _ s, q.mono e⟩⟩
def U (K : PySem.W.Frag) (Ps : List Pr) : Pr := ⟨fun v h => ∃ a vs, v = .ref a ∧ SqT K h a vs ∧ Vs Ps vs h, fun e ⟨a, vs, x, s, q⟩ => ⟨a, vs, x, sqT_ex e s, q.mono e⟩⟩
theorem t_lstP {Ps : List Pr} (a : TAs Γ tr Ps) (hz : Ps.length ≤ 100000) : T Γ (tLst tr) (L K Ps) := fun σ h H x e Q k => a σ h H x e _ fun vs h1 H1 s1 q =>
  ⟨by rw [q.len]; exact Evl.sz_of hz, fun p np => k _ (upd h1 p (.lst vs)) _ (s1.trans (Stp.new s1.i np)) ⟨p, vs, rfl, upd_same, q.mono (Stp.new (o := .lst vs) s1.i np).s⟩⟩
theorem t_tupP {Ps : List Pr} (a : TAs Γ tr Ps) (hz : Ps.length ≤ 100000) : T Γ (tTup tr) (U K Ps) := fun σ h H x e Q k => a σ h H x e _ fun vs h1 H1 s1 q =>
  ⟨by rw [q.len]; exact Evl.sz_of hz, fun p np => k _ (upd h1 p (.tup vs)) _ (s1.trans (Stp.new s1.i np)) ⟨p, vs, rfl, .inl (.inl upd_same), q.mono (Stp.new (o := .tup vs) s1.i np).s⟩⟩
theorem vs_get : ∀ {Ps : List Pr} {vs : List V} {h : Hp} {j : Nat} {P : Pr}, Vs Ps vs h → Ps[j]? = some P → ∃ v, vs[j]? = some v ∧ P.p v h
  | _, _, _, _, _, .nil, e => by simp at e
  | _, _, _, 0, _, .cons a b, e => by simp at e; subst e; exact ⟨_, rfl, a⟩
  | _, _, _, j + 1, _, .cons a b, e => by
    obtain ⟨v, h1, h2⟩ := vs_get (j := j) b (by simpa using e)
    exact ⟨v, by simpa using h1, h2⟩
theorem vs_atI {Ps : List Pr} {vs : List V} {h : Hp} {i : Int} {P : Pr} (q : Vs Ps vs h) (e : atI Ps i = some P) : ∃ v, atI vs i = some v ∧ P.p v h := by
  unfold atI at e ⊢
  rw [q.len]
  cases z : ixN Ps.length i with
  | none => rw [z] at e; cases e
  | some j =>
    rw [z] at e
    have e' : Ps[j]? = some P := e
    exact vs_get q e'
theorem opp_ixLP {Ps : List Pr} {i : Int} (q : atI Ps i = some P) : OpP (rIxL K) (L K Ps) (I K i) P := fun x y h H a c e Q k => by
  obtain ⟨p, xs, ex, s, z⟩ := a
  obtain ⟨v, hv, dv⟩ := vs_atI z q
  exact ⟨p, xs, i, v, ex, dp_int c, .inl (.inl (e _ _ s)), hv, k v h H (Stp.refl e) dv⟩
theorem opp_ixTP {Ps : List Pr} {i : Int} (q : atI Ps i = some P) : OpP (rIxT K) (U K Ps) (I K i) P := fun x y h H a c e Q k => by
  obtain ⟨p, xs, ex, s, z⟩ := a
  obtain ⟨v, hv, dv⟩ := vs_atI z q
  exact ⟨p, xs, i, v, ex, dp_int c, sqT_ex e s, hv, k v h H (Stp.refl e) dv⟩
end

/-! ### promises -/
/-- for arguments as a says, from a part h of the heap: the answer is as res says, in a part that grew by new things alone -/
def Sv {α : Type _} (args : α → List Pr) (pre : α → Prop) (res : α → Pr) : Sp := fun vs H Q _ => ∃ (a : α) (h : Hp), Ex h H ∧ Vs (args a) vs h ∧ pre a ∧ ∀ v h' H', Stp h H h' H' → (res a).p v h' → Q v H'
theorem Sv.len {α : Type _} {args : α → List Pr} {pre : α → Prop} {res : α → Pr} {n : Nat} (hn : ∀ a, (args a).length = n) : ∀ vs H Q E, Sv args pre res vs H Q E → vs.length = n := fun vs H Q E ⟨a, h, _, q, _⟩ => by rw [q.len, hn]
theorem t_call {α : Type _} {Γ : Ctx} {args : α → List Pr} {pre : α → Prop} {res : α → Pr} {E : XK} {tr : TA} (a : α) (x : TAs Γ tr (args a)) (p : pre a) : T Γ (tCall (Sv args pre res) [] E tr) (res a) := fun σ h H n e Q k =>
  x σ h H n e _ fun vs h1 H1 s1 q => ⟨a, h1, s1.i, by rw [List.append_nil]; exact q, p, fun v h2 H2 s2 z => k v h2 H2 (s1.trans s2) z⟩

/-! ### statements -/
/-- a mutable object's content -/
structure Ct where
  p : HO → Hp → Prop
  mono : ∀ {o : HO} {h h' : Hp}, Ex h h' → p o h → p o h'
def Ct.lst (Ps : List Pr) : Ct := ⟨fun o h => ∃ vs, o = .lst vs ∧ Vs Ps vs h, fun e ⟨vs, x, q⟩ => ⟨vs, x, q.mono e⟩⟩
def Ct.dict (kvs : List (Key × V)) : Ct := ⟨fun o _ => o = .dK kvs, fun _ q => q⟩
abbrev Mo := Option (Nat × Ct)
/-- where we stand: the start (h0, H0), and a part that is known -/
structure Bs where
  h0 : Hp
  H0 : Hp
  hb : Hp
structure Bs.Ok (b : Bs) (h H : Hp) : Prop where
  st : Stp b.h0 b.H0 h H
  kn : Ex b.hb h
theorem Bs.Ok.go {b : Bs} {h H h' H' : Hp} (x : b.Ok h H) (s : Stp h H h' H') : b.Ok h' H' := ⟨x.st.trans s, fun a o q => s.s a o (x.kn a o q)⟩
structure Mu1 (b : Bs) (i : Nat) (C : Ct) (σ : St) (h H : Hp) (l : Addr) (o : HO) : Prop where
  at_ : σ[i]? = some (some (.ref l))
  nh : h l = none
  n0 : b.H0 l = none
  oH : H l = some o
  ct : C.p o h
def Mu (b : Bs) : Mo → St → Hp → Hp → Prop
  | none, _, _, _ => True
  | some (i, C), σ, h, H => ∃ l o, Mu1 b i C σ h H l o
theorem Mu.go {b : Bs} {μ : Mo} {σ : St} {h H h' H' : Hp} (m : Mu b μ σ h H) (s : Stp h H h' H') : Mu b μ σ h' H' := by
  cases μ with
  | none => trivial
  | some p =>
    obtain ⟨l, o, m⟩ := m
    exact ⟨l, o, m.at_, s.f l o m.oH m.nh, m.n0, s.e l o m.oH, p.2.mono s.s m.ct⟩
def mok (μ : Mo) (j : Nat) : Bool := match μ with | none => true | some (i, _) => i != j
theorem Mu.set {b : Bs} {μ : Mo} {σ : St} {h H : Hp} {j : Nat} {v : Option V} (m : Mu b μ σ h H) (k : mok μ j = true) : Mu b μ (σ.set j v) h H := by
  cases μ with
  | none => trivial
  | some p =>
    obtain ⟨l, o, m⟩ := m
    have c : j ≠ p.1 := fun e => by
      subst e
      have z : (p.1 != p.1) = true := k
      simp at z
    exact ⟨l, o, by rw [List.getElem?_set_ne c]; exact m.at_, m.nh, m.n0, m.oH, m.ct⟩
/-- f holds wherever the slots are as Γ says, the one mutable thing as μ says -/
def Nx (b : Bs) (Γ : Ctx) (μ : Mo) (f : St → Hp → Prop) : Prop := ∀ (σ : St) (h H : Hp), En Γ σ h → b.Ok h H → Mu b μ σ h H → f σ H
/-- a fact that does not hang on the heap -/
def Flat (P : Pr) : Prop := ∀ v h h', P.p v h → P.p v h'
theorem flat_int {K : PySem.W.Frag} {i : Int} : Flat (I K i) := fun v h h' q => by rw [dp_int q]; exact .int i
theorem flat_bl {K : PySem.W.Frag} {i : Bool} : Flat (B K i) := fun v h h' q => by rw [dp_bl q]; exact .bl i
theorem flat_some {α : Sort _} {f : α → Pr} (q : ∀ a, Flat (f a)) : Flat (Pr.some f) := fun v h h' ⟨a, z⟩ => ⟨a, q a v h h' z⟩
section
variable {K : PySem.W.Frag} {b : Bs} {Γ Γ' : Ctx} {μ : Mo} {te ta tb : TE} {t : TT} {P R : Pr} {Dd : Ends} {tu tw tz : TS} {ff : St → Hp → Prop} {rr : VK} {bb cc : St → Hp → Prop}
theorem n_asg {i : Nat} (a : T Γ te P) (k : Nx b (Γ.set i (some P)) μ ff) (hm : mok μ i = true := by rfl) : Nx b Γ μ (tAsg te (gName i) ⟨ff, rr, bb, cc⟩) := fun σ h H x s m => a σ h H x s.st.i _ fun v h1 H1 s1 q => k _ h1 H1 ((x.mono s1.s).set i q) (s.go s1) ((m.go s1).set hm)
theorem q_asg {i : Nat} (a : T Γ te P) (k : Nx b (Γ.set i (some P)) μ (tz Dd)) (hm : mok μ i = true := by rfl) : Nx b Γ μ (tSeq (tAsg te (gName i)) tz Dd) := n_asg a k hm
theorem n_par {i j : Nat} {A C : Pr} (a : TAs Γ (tCons ta (tCons tb tNil)) [A, C]) (k : Nx b ((Γ.set i (some A)).set j (some C)) μ ff) (hm : mok μ i = true := by rfl) (hm2 : mok μ j = true := by rfl) : Nx b Γ μ (tPar i j (tCons ta (tCons tb tNil)) ⟨ff, rr, bb, cc⟩) := fun σ h H x s m => a σ h H x s.st.i _ fun vs h1 H1 s1 q => by
  cases q with
  | cons a1 q =>
    cases q with
    | cons a2 q =>
      cases q
      exact ⟨_, _, rfl, k _ h1 H1 (((x.mono s1.s).set i a1).set j a2) (s.go s1) (((m.go s1).set hm).set hm2)⟩
theorem q_par {i j : Nat} {A C : Pr} (a : TAs Γ (tCons ta (tCons tb tNil)) [A, C]) (k : Nx b ((Γ.set i (some A)).set j (some C)) μ (tz Dd)) (hm : mok μ i = true := by rfl) (hm2 : mok μ j = true := by rfl) : Nx b Γ μ (tSeq (tPar i j (tCons ta (tCons tb tNil))) tz Dd) := n_par a k hm hm2
theorem n_ret (a : T Γ te P) (k : ∀ v h H, Stp b.h0 b.H0 h H → P.p v h → Dd.rt v H) : Nx b Γ μ (tRet te Dd) := fun σ h H x s _ => a σ h H x s.st.i _ fun v h1 H1 s1 q => k v h1 H1 (s.st.trans s1) q
theorem n_if {φ : Bool → Prop} (a : TB Γ t φ) (y : φ true → Nx b Γ μ (tu Dd)) (z : φ false → Nx b Γ μ (tw Dd)) : Nx b Γ μ (tIfS t tu tw Dd) := fun σ h H x s m => a σ h H x s.st.i _ fun c h1 H1 s1 q => by
  cases c with
  | true => exact y q σ h1 H1 (x.mono s1.s) (s.go s1) (m.go s1)
  | false => exact z q σ h1 H1 (x.mono s1.s) (s.go s1) (m.go s1)
theorem q_if {φ : Bool → Prop} (a : TB Γ t φ) (y : φ true → Nx b Γ μ (tu { Dd with nx := tz Dd })) (z : φ false → Nx b Γ μ (tw { Dd with nx := tz Dd })) : Nx b Γ μ (tSeq (tIfS t tu tw) tz Dd) := n_if (Dd := { Dd with nx := tz Dd }) a y z
theorem n_next (k : Nx b Γ μ ff) : Nx b Γ μ (tNext ⟨ff, rr, bb, cc⟩) := k
theorem n_drop (a : T Γ te P) (k : Nx b Γ μ ff) : Nx b Γ μ (tDrop te ⟨ff, rr, bb, cc⟩) := fun σ h H x s m => a σ h H x s.st.i _ fun v h1 H1 s1 q => k _ h1 H1 (x.mono s1.s) (s.go s1) (m.go s1)
theorem q_drop (a : T Γ te P) (k : Nx b Γ μ (tz Dd)) : Nx b Γ μ (tSeq (tDrop te) tz Dd) := n_drop a k
/-- name op= e, ints -/
theorem n_aug {i : Nat} {f : Int → Int → Int} {a c : Int} (hx : Γ[i]? = some (some (I K a))) (e : T Γ te (I K c)) (k : Nx b (Γ.set i (some (I K (f a c)))) μ ff) (hm : mok μ i = true := by rfl) : Nx b Γ μ (tAug i te (ipI f) ⟨ff, rr, bb, cc⟩) := fun σ h H x s m => by
  obtain ⟨v, e1, e2⟩ := x.at_ i _ hx
  rw [dp_int e2] at e1
  exact ⟨_, e1, e σ h H x s.st.i _ fun v h1 H1 s1 q => ⟨a, c, rfl, dp_int q, k _ h1 H1 ((x.mono s1.s).set i (.int _)) (s.go s1) ((m.go s1).set hm)⟩⟩
/-- what is there is opened -/
theorem n_open {α : Sort _} {f : α → Pr} {F : St → Hp → Prop} (i : Nat) (k : ∀ a, Nx b (Γ.set i (some (f a))) μ F) (hi : Γ[i]? = some (some (Pr.some f)) := by rfl) : Nx b Γ μ F := fun σ h H x s m => by
  obtain ⟨v, e, a, q⟩ := x.at_ i _ hi
  exact k a σ h H (x.set_open i (List.getElem?_eq_some_iff.mp hi).1 q e) s m
theorem n_openA {c : Prop} {F : St → Hp → Prop} (i : Nat) (k : c → Nx b (Γ.set i (some P)) μ F) (hi : Γ[i]? = some (some (Pr.and c P)) := by rfl) : Nx b Γ μ F := fun σ h H x s m => by
  obtain ⟨v, e, a, q⟩ := x.at_ i _ hi
  exact k a σ h H (x.set_open i (List.getElem?_eq_some_iff.mp hi).1 q e) s m
/-- fewer things known -/
def Le (Γ Γ' : Ctx) : Prop := Γ.length = Γ'.length ∧ ∀ (i : Nat) (P : Pr), Γ'[i]? = some (some P) → ∃ R : Pr, Γ[i]? = some (some R) ∧ ∀ v h, R.p v h → P.p v h
theorem Le.rfl' : Le Γ Γ := ⟨rfl, fun i P q => ⟨P, q, fun _ _ z => z⟩⟩
theorem le_nil : Le [] [] := Le.rfl'
theorem le_skip {o : Option Pr} {Γ Γ' : Ctx} (a : Le Γ Γ') : Le (o :: Γ) (none :: Γ') := by
  refine ⟨by rw [List.length_cons, List.length_cons, a.1], fun i P q => ?_⟩
  cases i with
  | zero => simp at q
  | succ i => simpa using a.2 i P (by simpa using q)
theorem le_same {o : Option Pr} {Γ Γ' : Ctx} (a : Le Γ Γ') : Le (o :: Γ) (o :: Γ') := by
  refine ⟨by rw [List.length_cons, List.length_cons, a.1], fun i P q => ?_⟩
  cases i with
  | zero => exact ⟨P, q, fun _ _ z => z⟩
  | succ i => simpa using a.2 i P (by simpa using q)
theorem le_imp {P R : Pr} {Γ Γ' : Ctx} (w : ∀ v h, R.p v h → P.p v h) (a : Le Γ Γ') : Le (some R :: Γ) (some P :: Γ') := by
  refine ⟨by rw [List.length_cons, List.length_cons, a.1], fun i S q => ?_⟩
  cases i with
  | zero =>
    have e : P = S := by simpa using q
    subst e
    exact ⟨R, rfl, w⟩
  | succ i => simpa using a.2 i S (by simpa using q)
theorem le_eqD {d e : PyData} {Γ Γ' : Ctx} (w : d = e) (a : Le Γ Γ') : Le (some (D K d) :: Γ) (some (D K e) :: Γ') := by
  subst w
  exact le_same a
theorem le_eqI {d e : Int} {Γ Γ' : Ctx} (w : d = e) (a : Le Γ Γ') : Le (some (I K d) :: Γ) (some (I K e) :: Γ') := by
  subst w
  exact le_same a
theorem le_eqB {d e : Bool} {Γ Γ' : Ctx} (w : d = e) (a : Le Γ Γ') : Le (some (B K d) :: Γ) (some (B K e) :: Γ') := by
  subst w
  exact le_same a
theorem En.le {Γ Γ' : Ctx} {σ : St} {h : Hp} (x : En Γ σ h) (l : Le Γ Γ') : En Γ' σ h := ⟨by rw [x.len, l.1], fun i P q => by
  obtain ⟨R, e, w⟩ := l.2 i P q
  obtain ⟨v, a, b⟩ := x.at_ i R e
  exact ⟨v, a, w v h b⟩⟩
theorem n_le {F : St → Hp → Prop} (l : Le Γ Γ') (k : Nx b Γ' μ F) : Nx b Γ μ F := fun σ h H x s m => k σ h H (x.le l) s m

/-! ### one mutable list -/
/-- x = [..], to be changed -/
theorem m_new {i : Nat} {tr : TA} {Ps : List Pr} (a : TAs Γ tr Ps) (hz : Ps.length ≤ 100000) (k : Nx b (Γ.set i none) (some (i, Ct.lst Ps)) ff) (hl : i < Γ.length := by decide) : Nx b Γ none (tAsg (tLst tr) (gName i) ⟨ff, rr, bb, cc⟩) := fun σ h H x s m => a σ h H x s.st.i _ fun vs h1 H1 s1 q => by
  refine ⟨by rw [q.len]; exact Evl.sz_of hz, fun p np => ?_⟩
  have s2 := s.go s1
  have np1 : h1 p = none := by
    cases e : h1 p with
    | none => rfl
    | some o => rw [s1.i p o e] at np; cases np
  have np0 : b.H0 p = none := by
    cases e : b.H0 p with
    | none => rfl
    | some o => rw [s2.st.e p o e] at np; cases np
  have en : En (Γ.set i none) (σ.set i (some (.ref p))) h1 := by
    have y := (x.mono s1.s).wipe i
    refine ⟨by rw [List.length_set, List.length_set]; exact x.len, fun j R e => ?_⟩
    by_cases c : i = j
    · subst c
      rw [List.getElem?_set_self hl] at e
      cases e
    · rw [List.getElem?_set_ne c] at e
      obtain ⟨u, e1, e2⟩ := x.at_ j R e
      exact ⟨u, by rw [List.getElem?_set_ne c]; exact e1, R.mono s1.s e2⟩
  refine k _ h1 _ en ⟨⟨?_, s2.st.s, ?_, s2.st.f⟩, s2.kn⟩ ⟨p, .lst vs, List.getElem?_set_self (by rw [x.len]; exact hl), np1, np0, upd_same, vs, rfl, q⟩
  · intro a o e
    rw [upd_ne (ne_of_none e np0)]
    exact s2.st.e a o e
  · intro a o e
    rw [upd_ne (ne_of_none e np1)]
    exact s2.st.i a o e
theorem qm_new {i : Nat} {tr : TA} {Ps : List Pr} (a : TAs Γ tr Ps) (hz : Ps.length ≤ 100000) (k : Nx b (Γ.set i none) (some (i, Ct.lst Ps)) (tz Dd)) (hl : i < Γ.length := by decide) : Nx b Γ none (tSeq (tAsg (tLst tr) (gName i)) tz Dd) := m_new a hz k hl
/-- x.append(e) -/
theorem m_app {i : Nat} {Ps : List Pr} (a : T Γ te P) (hz : Ps.length < 100000) (k : Nx b Γ (some (i, Ct.lst (Ps ++ [P]))) ff) : Nx b Γ (some (i, Ct.lst Ps)) (tDrop (tBM K "list" rAppend (tVar i) (tCons te tNil)) ⟨ff, rr, bb, cc⟩) := fun σ h H x s m => by
  obtain ⟨l, o, m⟩ := m
  obtain ⟨vs, rfl, hv⟩ := m.ct
  refine ⟨.ref l, m.at_, .inl ⟨rfl, vs, .inl (.inl m.oH)⟩, ?_⟩
  refine a σ h H x s.st.i _ fun v h1 H1 s1 q => ?_
  have m1 := s1.f l _ m.oH m.nh
  refine ⟨l, vs, v, rfl, rfl, s1.e l _ m.oH, Evl.sz_lt (by rw [hv.len]; exact hz), ?_⟩
  have s2 := s.go s1
  refine k σ h1 _ (x.mono s1.s) ⟨⟨?_, s2.st.s, ?_, s2.st.f⟩, s2.kn⟩ ⟨l, _, m.at_, m1, m.n0, upd_same, _, rfl, (hv.mono s1.s).app q⟩
  · intro a o e
    rw [upd_ne (ne_of_none e m.n0)]
    exact s2.st.e a o e
  · intro a o e
    rw [upd_ne (ne_of_none e m1)]
    exact s2.st.i a o e
theorem qm_app {i : Nat} {Ps : List Pr} (a : T Γ te P) (hz : Ps.length < 100000) (k : Nx b Γ (some (i, Ct.lst (Ps ++ [P]))) (tz Dd)) : Nx b Γ (some (i, Ct.lst Ps)) (tSeq (tDrop (tBM K "list" rAppend (tVar i) (tCons te tNil))) tz Dd) := m_app a hz k
/-- it is not changed any more -/
theorem m_freeze {i : Nat} {Ps : List Pr} {F : St → Hp → Prop} (k : Nx b (Γ.set i (some (L K Ps))) none F) (hl : i < Γ.length := by decide) : Nx b Γ (some (i, Ct.lst Ps)) F := fun σ h H x s m => by
  obtain ⟨l, o, m⟩ := m
  obtain ⟨vs, rfl, hv⟩ := m.ct
  have e1 : Ex h (upd h l (.lst vs)) := fun a o e => by rw [upd_ne (ne_of_none e m.nh)]; exact e
  refine k σ (upd h l (.lst vs)) H ((x.mono e1).set_open i hl ⟨l, vs, rfl, upd_same, hv.mono e1⟩ m.at_) ⟨⟨s.st.e, fun a o e => e1 a o (s.st.s a o e), fun a o e => ?_, fun a o e n => ?_⟩, fun a o e => e1 a o (s.kn a o e)⟩ trivial
  · by_cases c : a = l
    · subst c; rw [upd_same] at e; cases e; exact m.oH
    · rw [upd_ne c] at e; exact s.st.i a o e
  · rw [upd_ne (ne_of_none e m.n0)]
    exact s.st.f a o e n
/-- e read while the list is known: a flat answer -/
theorem m_asgV {i j : Nat} {Ps : List Pr} (a : T (Γ.set i (some (L K Ps))) te P) (fl : Flat P) (k : Nx b (Γ.set j (some P)) (some (i, Ct.lst Ps)) ff) (hij : i ≠ j := by decide) (hl : i < Γ.length := by decide) : Nx b Γ (some (i, Ct.lst Ps)) (tAsg te (gName j) ⟨ff, rr, bb, cc⟩) := fun σ h H x s m => by
  obtain ⟨l, o, m⟩ := m
  obtain ⟨vs, rfl, hv⟩ := m.ct
  have e1 : Ex h (upd h l (.lst vs)) := fun a o e => by rw [upd_ne (ne_of_none e m.nh)]; exact e
  have i1 : Ex (upd h l (.lst vs)) H := fun a o e => by
    by_cases c : a = l
    · subst c; rw [upd_same] at e; cases e; exact m.oH
    · rw [upd_ne c] at e; exact s.st.i a o e
  refine a σ (upd h l (.lst vs)) H ((x.mono e1).set_open i hl ⟨l, vs, rfl, upd_same, hv.mono e1⟩ m.at_) i1 _ fun v h1 H1 s1 q => ?_
  -- the known part without the list
  have e2 : Ex h (fun c => if c = l then none else h1 c) := fun a o e => by
    show (if a = l then none else h1 a) = some o
    rw [if_neg (ne_of_none e m.nh)]
    exact s1.s a o (e1 a o e)
  have st : Stp h H (fun c => if c = l then none else h1 c) H1 := by
    refine ⟨s1.e, e2, fun a o e => ?_, fun a o e n => ?_⟩
    · have e' : (if a = l then none else h1 a) = some o := e
      by_cases c : a = l
      · rw [if_pos c] at e'; cases e'
      · rw [if_neg c] at e'; exact s1.i a o e'
    · show (if a = l then none else h1 a) = none
      by_cases c : a = l
      · rw [if_pos c]
      · rw [if_neg c]
        exact s1.f a o e (by rw [upd_ne c]; exact n)
  have q' : P.p v (fun c => if c = l then none else h1 c) := fl v _ _ q
  have mm : Mu b (some (i, Ct.lst Ps)) σ h H := ⟨l, .lst vs, m⟩
  exact k _ _ H1 ((x.mono e2).set j q') (s.go st) ((mm.go st).set (by show (i != j) = true; simp [hij]))
theorem qm_asgV {i j : Nat} {Ps : List Pr} (a : T (Γ.set i (some (L K Ps))) te P) (fl : Flat P) (k : Nx b (Γ.set j (some P)) (some (i, Ct.lst Ps)) (tz Dd)) (hij : i ≠ j := by decide) (hl : i < Γ.length := by decide) : Nx b Γ (some (i, Ct.lst Ps)) (tSeq (tAsg te (gName j)) tz Dd) := m_asgV a fl k hij hl
theorem l_data {ds : List PyData} {v : V} {h : Hp} (q : (L K (ds.map (D K))).p v h) : (D K (.list ds)).p v h := by
  obtain ⟨a, vs, rfl, s, z⟩ := q
  exact .lst s (vs_dpa z)
theorem dpa_vs : ∀ {ds : List PyData} {vs : List V} {h : Hp}, DqAll K h vs ds → Vs (ds.map (D K)) vs h
  | _, _, _, .nil => .nil
  | _, _, _, .cons a b => .cons a (dpa_vs b)
theorem data_l {ds : List PyData} {v : V} {h : Hp} (q : (D K (.list ds)).p v h) : (L K (ds.map (D K))).p v h := by
  obtain ⟨a, vs, rfl, s, z⟩ := dp_lst q
  exact ⟨a, vs, rfl, s, dpa_vs z⟩
theorem data_t {ds : List PyData} {v : V} {h : Hp} (q : (D K (.tuple ds)).p v h) : (U K (ds.map (D K))).p v h := by
  obtain ⟨a, vs, rfl, s, z⟩ := dp_tup q
  exact ⟨a, vs, rfl, s, dpa_vs z⟩

/-! ### loops -/
/-- the invariant: behind i turns there is a g as G says, the slots as Γi i g say, the mutable thing as μi i g says -/
def Pv {γ : Type _} (b : Bs) (G : Nat → γ → Prop) (Γi : Nat → γ → Ctx) (μi : Nat → γ → Mo) (i : Nat) : St → Hp → Prop := fun σ H => ∃ g h, G i g ∧ En (Γi i g) σ h ∧ b.Ok h H ∧ Mu b (μi i g) σ h H
theorem n_pv {γ : Type _} {G : Nat → γ → Prop} {Γi : Nat → γ → Ctx} {μi : Nat → γ → Mo} {i : Nat} (g : γ) (q : G i g) (hm : μ = μi i g) (l : Le Γ (Γi i g)) : Nx b Γ μ (Pv b G Γi μi i) := fun σ h H x s m => ⟨g, h, q, x.le l, s, hm ▸ m⟩
theorem n_forR1 {γ : Type _} {tr : TA} {j : Nat} {n : Int} (G : Nat → γ → Prop) (Γi : Nat → γ → Ctx) (μi : Nat → γ → Mo) (g0 : γ) (a : TAs Γ tr [I K n]) (hn : -1000000 ≤ n ∧ n ≤ 1000000) (q0 : G 0 g0) (l0 : Le Γ (Γi 0 g0))
    (hs : ∀ (i : Nat) (g : γ), (i : Int) < n → G i g → Nx b ((Γi i g).set j (some (I K (i : Int)))) (μi i g) (tu ⟨Pv b G Γi μi (i + 1), rr, ff, Pv b G Γi μi (i + 1)⟩))
    (hd : ∀ g, G n.toNat g → Nx b (Γi n.toNat g) (μi n.toNat g) ff) (hm : μ = μi 0 g0 := by rfl) (hj : ∀ i g, mok (μi i g) j = true := by intros; rfl) : Nx b Γ μ (tFor (iRng1 tr) (gName j) tu ⟨ff, rr, bb, cc⟩) := fun σ h H x s m => a σ h H x s.st.i _ fun vs h1 H1 s1 q => by
  cases q with
  | cons a1 q =>
    cases q
    rw [dp_int a1]
    subst hm
    refine ⟨n, rfl, by omega, by omega, for_range (lo := 0) (n := n.toNat) (Pv b G Γi μi) ⟨g0, h1, q0, (x.mono s1.s).le l0, s.go s1, m.go s1⟩ (fun i σ' H' hi p => ?_) (fun σ' H' p => ?_)⟩
    · have e0 : (0 : Int) + (i : Int) = (i : Int) := Int.zero_add _
      rw [e0]
      obtain ⟨g, h', q, x', s', m'⟩ := p
      exact hs i g (by omega) q _ h' H' (x'.set j (.int _)) s' (m'.set (hj i g))
    · obtain ⟨g, h', q, x', s', m'⟩ := p
      exact hd g q σ' h' H' x' s' m'
/-- what is read as a list of data -/
def IsL (K : PySem.W.Frag) (A : Pr) (ds : List PyData) : Prop := ∀ v h, A.p v h → ∃ a xs, v = .ref a ∧ SqL K h a xs ∧ DqAll K h xs ds
theorem isL_D {ds : List PyData} : IsL K (D K (.list ds)) ds := fun v h q => by
  obtain ⟨a, xs, e, s, z⟩ := dp_lst q
  exact ⟨a, xs, e, .inl (.inl s), z⟩
/-- over a list of data -/
theorem n_forLA {γ : Type _} {A : Pr} {tl : TE} {j : Nat} {ds : List PyData} (G : Nat → γ → Prop) (Γi : Nat → γ → Ctx) (μi : Nat → γ → Mo) (g0 : γ) (hA : IsL K A ds) (a : T Γ tl A) (q0 : G 0 g0) (l0 : Le Γ (Γi 0 g0))
    (hs : ∀ (hb : Hp) (i : Nat) (d : PyData) (g : γ), ds[i]? = some d → G i g → Nx ⟨b.h0, b.H0, hb⟩ ((Γi i g).set j (some (D K d))) (μi i g) (tu ⟨Pv ⟨b.h0, b.H0, hb⟩ G Γi μi (i + 1), rr, ff, Pv ⟨b.h0, b.H0, hb⟩ G Γi μi (i + 1)⟩))
    (hd : ∀ (hb : Hp) g, G ds.length g → Nx ⟨b.h0, b.H0, hb⟩ (Γi ds.length g) (μi ds.length g) ff) (hm : μ = μi 0 g0 := by rfl) (hj : ∀ i g, mok (μi i g) j = true := by intros; rfl) : Nx b Γ μ (tFor (iList K tl) (gName j) tu ⟨ff, rr, bb, cc⟩) := fun σ h H x s m => a σ h H x s.st.i _ fun v h1 H1 s1 q => by
  obtain ⟨p, xs, rfl, sq, dp⟩ := hA _ _ q
  subst hm
  have muI : ∀ {μ : Mo} {σ : St} {h H : Hp}, Mu b μ σ h H → Mu ⟨b.h0, b.H0, h1⟩ μ σ h H := fun {μ σ h H} m => by
    cases μ with
    | none => trivial
    | some p =>
      obtain ⟨l, o, m⟩ := m
      exact ⟨l, o, m.at_, m.nh, m.n0, m.oH, m.ct⟩
  refine ⟨p, rfl, ⟨xs, sqL_ex s1.i sq⟩, for_list (K := K) (a := p) (xs := xs) (Pv ⟨b.h0, b.H0, h1⟩ G Γi μi) ⟨g0, h1, q0, (x.mono s1.s).le l0, ⟨(s.go s1).st, fun _ _ q => q⟩, muI (m.go s1)⟩ (fun i σ' H' hi p => ?_) (fun i y σ' H' hi p => ?_) (fun σ' H' p => ?_)⟩
  · obtain ⟨g, h', q, x', s', m'⟩ := p
    exact sqL_ex s'.st.i (sqL_ex s'.kn sq)
  · obtain ⟨g, h', q, x', s', m'⟩ := p
    obtain ⟨d, hd', dd⟩ := dpa_get' dp hi
    exact hs h1 i d g hd' q _ h' H' (x'.set j (dp_ex s'.kn dd)) s' (m'.set (hj i g))
  · obtain ⟨g, h', q, x', s', m'⟩ := p
    rw [dpa_len dp] at q x' m'
    exact hd h1 g q σ' h' H' x' s' m'
theorem n_forL {γ : Type _} {tl : TE} {j : Nat} {ds : List PyData} (G : Nat → γ → Prop) (Γi : Nat → γ → Ctx) (μi : Nat → γ → Mo) (g0 : γ) (a : T Γ tl (D K (.list ds))) (q0 : G 0 g0) (l0 : Le Γ (Γi 0 g0))
    (hs : ∀ (hb : Hp) (i : Nat) (d : PyData) (g : γ), ds[i]? = some d → G i g → Nx ⟨b.h0, b.H0, hb⟩ ((Γi i g).set j (some (D K d))) (μi i g) (tu ⟨Pv ⟨b.h0, b.H0, hb⟩ G Γi μi (i + 1), rr, ff, Pv ⟨b.h0, b.H0, hb⟩ G Γi μi (i + 1)⟩))
    (hd : ∀ (hb : Hp) g, G ds.length g → Nx ⟨b.h0, b.H0, hb⟩ (Γi ds.length g) (μi ds.length g) ff) (hm : μ = μi 0 g0 := by rfl) (hj : ∀ i g, mok (μi i g) j = true := by intros; rfl) : Nx b Γ μ (tFor (iList K tl) (gName j) tu ⟨ff, rr, bb, cc⟩) :=
  n_forLA G Γi μi g0 isL_D a q0 l0 hs hd hm hj
/-- while: G holds, m falls -/
def Wn {γ : Type _} (b : Bs) (G : γ → Prop) (ms : γ → Nat) (Γi : γ → Ctx) (μi : γ → Mo) (k : Nat) : St → Hp → Prop := fun σ H => ∃ g h, G g ∧ ms g < k ∧ En (Γi g) σ h ∧ b.Ok h H ∧ Mu b (μi g) σ h H
theorem n_wn {γ : Type _} {G : γ → Prop} {ms : γ → Nat} {Γi : γ → Ctx} {μi : γ → Mo} {k : Nat} (g : γ) (q : G g) (hk : ms g < k) (hm : μ = μi g) (l : Le Γ (Γi g)) : Nx b Γ μ (Wn b G ms Γi μi k) := fun σ h H x s m => ⟨g, h, q, hk, x.le l, s, hm ▸ m⟩
theorem n_while {γ : Type _} {φ : γ → Bool → Prop} (G : γ → Prop) (ms : γ → Nat) (Γi : γ → Ctx) (μi : γ → Mo) (g0 : γ) (q0 : G g0) (l0 : Le Γ (Γi g0)) (ht : ∀ g, G g → TB (Γi g) t (φ g))
    (hs : ∀ g, G g → φ g true → Nx b (Γi g) (μi g) (tu ⟨Wn b G ms Γi μi (ms g), rr, ff, Wn b G ms Γi μi (ms g)⟩))
    (hd : ∀ g, G g → φ g false → Nx b (Γi g) (μi g) ff) (hm : μ = μi g0 := by rfl) : Nx b Γ μ (tWhile t tu ⟨ff, rr, bb, cc⟩) := fun σ h H x s m => by
  subst hm
  refine ⟨fun k σ H => ∃ g h, G g ∧ ms g = k ∧ En (Γi g) σ h ∧ b.Ok h H ∧ Mu b (μi g) σ h H, ⟨ms g0, g0, h, q0, rfl, x.le l0, s, m⟩, fun k σ' H' p => ?_⟩
  obtain ⟨g, h', q, e, x', s', m'⟩ := p
  subst e
  refine ht g q σ' h' H' x' s'.st.i _ fun c h1 H1 s1 f => ?_
  cases c with
  | true => exact ⟨Wn b G ms Γi μi (ms g), fun σ2 H2 ⟨g2, h2, q2, k2, x2, s2, m2⟩ => ⟨ms g2, k2, g2, h2, q2, rfl, x2, s2, m2⟩, hs g q f σ' h1 H1 (x'.mono s1.s) (s'.go s1) (m'.go s1)⟩
  | false => exact hd g q f σ' h1 H1 (x'.mono s1.s) (s'.go s1) (m'.go s1)
theorem q_seq (k : Nx b Γ μ (tu { Dd with nx := tz Dd })) : Nx b Γ μ (tSeq tu tz Dd) := k

/-! ### comprehensions -/
def wpΓ (Γ : Ctx) : List Nat → Ctx
  | [] => Γ
  | v :: vs => (wpΓ Γ vs).set v none
theorem En.wp {σ : St} {h : Hp} (x : En Γ σ h) : ∀ vs, En (wpΓ Γ vs) (L2.wipe σ vs) h
  | [] => x
  | v :: vs => (En.wp x vs).wipe v
/-- the list made so far: items as Ps say, as G says -/
structure Lw (h0 H0 : Hp) (G : Nat → List Pr → Prop) (Dl : Addr) (i : Nat) (H' : Hp) : Prop where
  ex : ∃ h Ps vs, G i Ps ∧ Vs Ps vs h ∧ H' Dl = some (.lst vs) ∧ h Dl = none ∧ Stp h0 H0 h (fun a => if a = Dl then none else H' a)
/-- [te for x in range(n) if t] -/
theorem lc_turn {h0 H0 : Hp} {G : Nat → List Pr → Prop} {Dl : Addr} {i : Nat} {H' : Hp} {σ2 : St} {Γ2 : Ctx} {φ : Bool → Prop} (p : Lw h0 H0 G Dl i H') (hD : H0 Dl = none) (hz : ∀ Ps, G i Ps → Ps.length < 100000)
    (xe : ∀ h, Ex h0 h → En Γ2 σ2 h) (ht : TB Γ2 t φ) (hy : φ true → ∀ Ps, G i Ps → ∃ (α : Type) (f : α → Pr), T Γ2 te (Pr.some f) ∧ ∀ a, G (i + 1) (Ps ++ [f a])) (hn : φ false → ∀ Ps, G i Ps → G (i + 1) Ps) :
    t σ2 H' fun b H3 => if b = true then te σ2 H3 fun y H4 => ∃ acc, H4 Dl = some (.lst acc) ∧ acc.length < sizeLine ∧ Lw h0 H0 G Dl (i + 1) (upd H4 Dl (.lst (acc ++ [y]))) else Lw h0 H0 G Dl (i + 1) H3 := by
  obtain ⟨h, Ps, vs, g, hv, hl, hn', st⟩ := p.ex
  have iE : Ex h H' := fun a o e => by
    have z := st.i a o e
    have z' : (if a = Dl then none else H' a) = some o := z
    by_cases c : a = Dl
    · rw [if_pos c] at z'; cases z'
    · rw [if_neg c] at z'; exact z'
  -- behind a step from (h, H') all is as before
  have step : ∀ {h1 H1 : Hp}, Stp h H' h1 H1 → H1 Dl = some (.lst vs) ∧ h1 Dl = none ∧ Stp h0 H0 h1 (fun a => if a = Dl then none else H1 a) := fun {h1 H1} s => by
    have n1 := s.f Dl _ hl hn'
    refine ⟨s.e _ _ hl, n1, fun a o e => ?_, fun a o e => s.s a o (st.s a o e), fun a o e => ?_, fun a o e n => ?_⟩
    · have z := st.e a o e
      have z' : (if a = Dl then none else H' a) = some o := z
      show (if a = Dl then none else H1 a) = some o
      by_cases c : a = Dl
      · rw [if_pos c] at z'; cases z'
      · rw [if_neg c] at z' ⊢; exact s.e a o z'
    · show (if a = Dl then none else H1 a) = some o
      rw [if_neg (ne_of_none e n1)]
      exact s.i a o e
    · have z := st.e a o e
      have z' : (if a = Dl then none else H' a) = some o := z
      by_cases c : a = Dl
      · rw [if_pos c] at z'; cases z'
      · rw [if_neg c] at z'
        exact s.f a o z' (st.f a o e n)
  refine ht σ2 h H' (xe h st.s) iE _ fun c h1 H1 s1 f => ?_
  obtain ⟨l1, n1, st1⟩ := step s1
  cases c with
  | true =>
    obtain ⟨α, f', hT, hG⟩ := hy f Ps g
    show te σ2 H1 _
    refine hT σ2 h1 H1 (xe h1 st1.s) s1.i _ fun y h2 H2 s2 ⟨a, q⟩ => ?_
    have s12 := s1.trans s2
    obtain ⟨l2, n2, st2⟩ := step s12
    refine ⟨vs, l2, Evl.sz_lt (by rw [hv.len]; exact hz Ps g), ⟨h2, Ps ++ [f' a], vs ++ [y], hG a, ?_, upd_same, n2, ?_⟩⟩
    · exact (hv.mono s12.s).app q
    · have e : (fun a => if a = Dl then none else upd H2 Dl (.lst (vs ++ [y])) a) = (fun a => if a = Dl then none else H2 a) := by
        funext a
        by_cases c : a = Dl
        · rw [if_pos c, if_pos c]
        · rw [if_neg c, if_neg c, upd_ne c]
      rw [e]
      exact st2
  | false => exact ⟨h1, Ps, vs, hn f Ps g, hv.mono s1.s, l1, n1, st1⟩
theorem lw_end {h0 H0 : Hp} {G : Nat → List Pr → Prop} {Dl : Addr} {i : Nat} {H' : Hp} (p : Lw h0 H0 G Dl i H') (hD : H0 Dl = none) (i0 : Ex h0 H0) : ∃ h Ps, G i Ps ∧ Stp h0 H0 h H' ∧ (L K Ps).p (.ref Dl) h := by
  obtain ⟨h, Ps, vs, g, hv, hl, hn', st⟩ := p.ex
  have e1 : Ex h (upd h Dl (.lst vs)) := fun a o e => by rw [upd_ne (ne_of_none e hn')]; exact e
  refine ⟨upd h Dl (.lst vs), Ps, g, ⟨fun a o e => ?_, fun a o e => e1 a o (st.s a o e), fun a o e => ?_, fun a o e n => ?_⟩, Dl, vs, rfl, upd_same, hv.mono e1⟩
  · have z' : (if a = Dl then none else H' a) = some o := st.e a o e
    by_cases c : a = Dl
    · rw [if_pos c] at z'; cases z'
    · rw [if_neg c] at z'; exact z'
  · by_cases c : a = Dl
    · subst c; rw [upd_same] at e; cases e; exact hl
    · rw [upd_ne c] at e
      have z' : (if a = Dl then none else H' a) = some o := st.i a o e
      rw [if_neg c] at z'; exact z'
  · rw [upd_ne (ne_of_none e hD)]
    exact st.f a o e n
theorem wipe1 {σ : St} {j : Nat} {x : V} : wipe ((wipe σ [j]).set j (some x)) [j] = wipe σ [j] := by
  show ((σ.set j none).set j (some x)).set j none = σ.set j none
  rw [List.set_set, List.set_set]
theorem lw_start {h H : Hp} {G : Nat → List Pr → Prop} {Dl : Addr} (e : Ex h H) (hD : H Dl = none) (g : G 0 []) : Lw h H G Dl 0 (upd H Dl (.lst [])) := by
  have hn : h Dl = none := by
    cases q : h Dl with
    | none => rfl
    | some o => rw [e Dl o q] at hD; cases hD
  refine ⟨h, [], [], g, .nil, upd_same, hn, ?_⟩
  have z : (fun a => if a = Dl then none else upd H Dl (.lst []) a) = H := by
    funext a
    by_cases c : a = Dl
    · subst c; rw [if_pos rfl]; exact hD.symm
    · rw [if_neg c, upd_ne c]
  rw [z]
  exact Stp.refl e
theorem t_lcR1 {tr : TA} {j : Nat} {n : Int} {φ : Nat → Bool → Prop} (G : Nat → List Pr → Prop) (a : TAs Γ tr [I K n]) (hn : -1000000 ≤ n ∧ n ≤ 50000) (g0 : G 0 []) (hz : ∀ i Ps, G i Ps → Ps.length ≤ i)
    (ht : ∀ i : Nat, (i : Int) < n → TB ((wpΓ Γ [j]).set j (some (I K (i : Int)))) t (φ i))
    (hy : ∀ i : Nat, (i : Int) < n → φ i true → ∀ Ps, G i Ps → ∃ (α : Type) (f : α → Pr), T ((wpΓ Γ [j]).set j (some (I K (i : Int)))) te (Pr.some f) ∧ ∀ a, G (i + 1) (Ps ++ [f a]))
    (hno : ∀ i : Nat, (i : Int) < n → φ i false → ∀ Ps, G i Ps → G (i + 1) Ps) : T Γ (tLc (iRng1 tr) (gName j) t te [j]) (Pr.some fun Ps : { Ps // G n.toNat Ps } => L K Ps.1) := fun σ h H x e Q k => a σ h H x e _ fun vs h1 H1 s1 q => by
  cases q with
  | cons a1 q =>
    cases q
    rw [dp_int a1]
    refine ⟨n, rfl, by omega, by omega, fun Dl hD => ?_⟩
    refine lc_range (lo := 0) (n := n.toNat) (Lw h1 H1 G Dl) (lw_start s1.i hD g0) (fun i H' hi p => ?_) (fun H' p => ?_)
    · have e0 : (0 : Int) + (i : Int) = (i : Int) := Int.zero_add _
      rw [e0]
      exact ⟨wipe1, lc_turn p hD (fun Ps g => by have := hz i Ps g; omega) (fun h2 e2 => ((x.mono s1.s).mono e2).wp [j] |>.set j (show (I K (i : Int)).p (.int (i : Int)) _ from Dq.int _)) (ht i (by omega)) (hy i (by omega)) (hno i (by omega))⟩
    · obtain ⟨h', Ps, g, st, q⟩ := lw_end (K := K) p hD s1.i
      exact k _ h' H' (s1.trans st) ⟨⟨Ps, g⟩, q⟩
/-- .. over range(n), n one of many -/
theorem t_lcR1S {tr : TA} {j : Nat} {ψ : Int → Prop} {φ : Int → Nat → Bool → Prop} (G : Int → Nat → List Pr → Prop) (a : TAs Γ tr [Pr.some fun n : { n : Int // ψ n } => I K n.1]) (hn : ∀ n, ψ n → -1000000 ≤ n ∧ n ≤ 50000) (g0 : ∀ n, ψ n → G n 0 []) (hz : ∀ n i Ps, G n i Ps → Ps.length ≤ i)
    (ht : ∀ n, ∀ i : Nat, ψ n → (i : Int) < n → TB ((wpΓ Γ [j]).set j (some (I K (i : Int)))) t (φ n i))
    (hy : ∀ n, ∀ i : Nat, ψ n → (i : Int) < n → φ n i true → ∀ Ps, G n i Ps → ∃ (α : Type) (f : α → Pr), T ((wpΓ Γ [j]).set j (some (I K (i : Int)))) te (Pr.some f) ∧ ∀ a, G n (i + 1) (Ps ++ [f a]))
    (hno : ∀ n, ∀ i : Nat, ψ n → (i : Int) < n → φ n i false → ∀ Ps, G n i Ps → G n (i + 1) Ps) (hd : ∀ n Ps, ψ n → G n n.toNat Ps → ∀ v h, (L K Ps).p v h → P.p v h) : T Γ (tLc (iRng1 tr) (gName j) t te [j]) P := fun σ h H x e Q k => a σ h H x e _ fun vs h1 H1 s1 q => by
  cases q with
  | cons a1 q =>
    cases q
    obtain ⟨⟨n, pn⟩, a1⟩ := a1
    rw [dp_int a1]
    have hb := hn n pn
    refine ⟨n, rfl, by omega, by omega, fun Dl hD => ?_⟩
    refine lc_range (lo := 0) (n := n.toNat) (Lw h1 H1 (G n) Dl) (lw_start s1.i hD (g0 n pn)) (fun i H' hi p => ?_) (fun H' p => ?_)
    · have e0 : (0 : Int) + (i : Int) = (i : Int) := Int.zero_add _
      rw [e0]
      exact ⟨wipe1, lc_turn p hD (fun Ps g => by have := hz n i Ps g; omega) (fun h2 e2 => ((x.mono s1.s).mono e2).wp [j] |>.set j (show (I K (i : Int)).p (.int (i : Int)) _ from Dq.int _)) (ht n i pn (by omega)) (hy n i pn (by omega)) (hno n i pn (by omega))⟩
    · obtain ⟨h', Ps, g, st, q⟩ := lw_end (K := K) p hD s1.i
      exact k _ h' H' (s1.trans st) (hd n Ps pn g _ _ q)
theorem tb_yes : TB Γ tYes (fun c => c = true) := fun σ h H x e Q k => k true h H (Stp.refl e) rfl
theorem t_lcLA {A : Pr} {tl : TE} {j : Nat} {ds : List PyData} {φ : Nat → Bool → Prop} (G : Nat → List Pr → Prop) (hA : IsL K A ds) (a : T Γ tl A) (hn : ds.length ≤ 50000) (g0 : G 0 []) (hz : ∀ i Ps, G i Ps → Ps.length ≤ i)
    (ht : ∀ (i : Nat) d, ds[i]? = some d → TB ((wpΓ Γ [j]).set j (some (D K d))) t (φ i))
    (hy : ∀ (i : Nat) d, ds[i]? = some d → φ i true → ∀ Ps, G i Ps → ∃ (α : Type) (f : α → Pr), T ((wpΓ Γ [j]).set j (some (D K d))) te (Pr.some f) ∧ ∀ a, G (i + 1) (Ps ++ [f a]))
    (hno : ∀ (i : Nat) d, ds[i]? = some d → φ i false → ∀ Ps, G i Ps → G (i + 1) Ps) : T Γ (tLc (iList K tl) (gName j) t te [j]) (Pr.some fun Ps : { Ps // G ds.length Ps } => L K Ps.1) := fun σ h H x e Q k => a σ h H x e _ fun v h1 H1 s1 q => by
  obtain ⟨ad, xs, rfl, sq, dp⟩ := hA _ _ q
  refine ⟨ad, rfl, ⟨xs, sqL_ex s1.i sq⟩, fun Dl hD => ?_⟩
  refine lc_list (K := K) (a := ad) (xs := xs) (Lw h1 H1 G Dl) (lw_start s1.i hD g0) (fun i H' hi p => ?_) (fun i y H' hi p => ?_) (fun H' p => ?_)
  · obtain ⟨h, Ps, vs, g, hv, hl, hn', st⟩ := p.ex
    refine sqL_ex (h := h) (fun a o e => ?_) (sqL_ex st.s sq)
    have z' : (if a = Dl then none else H' a) = some o := st.i _ _ e
    by_cases c : a = Dl
    · rw [if_pos c] at z'; cases z'
    · rw [if_neg c] at z'; exact z'
  · obtain ⟨d, hd', dd⟩ := dpa_get' dp hi
    have hi' := (List.getElem?_eq_some_iff.mp hd').1
    exact ⟨wipe1, lc_turn p hD (fun Ps g => by have := hz i Ps g; omega) (fun h2 e2 => ((x.mono s1.s).mono e2).wp [j] |>.set j (dp_ex e2 dd)) (ht i d hd') (hy i d hd') (hno i d hd')⟩
  · rw [dpa_len dp] at p
    obtain ⟨h', Ps, g, st, q⟩ := lw_end (K := K) p hD s1.i
    exact k _ h' H' (s1.trans st) ⟨⟨Ps, g⟩, q⟩
theorem t_lcL {tl : TE} {j : Nat} {ds : List PyData} {φ : Nat → Bool → Prop} (G : Nat → List Pr → Prop) (a : T Γ tl (D K (.list ds))) (hn : ds.length ≤ 50000) (g0 : G 0 []) (hz : ∀ i Ps, G i Ps → Ps.length ≤ i)
    (ht : ∀ (i : Nat) d, ds[i]? = some d → TB ((wpΓ Γ [j]).set j (some (D K d))) t (φ i))
    (hy : ∀ (i : Nat) d, ds[i]? = some d → φ i true → ∀ Ps, G i Ps → ∃ (α : Type) (f : α → Pr), T ((wpΓ Γ [j]).set j (some (D K d))) te (Pr.some f) ∧ ∀ a, G (i + 1) (Ps ++ [f a]))
    (hno : ∀ (i : Nat) d, ds[i]? = some d → φ i false → ∀ Ps, G i Ps → G (i + 1) Ps) : T Γ (tLc (iList K tl) (gName j) t te [j]) (Pr.some fun Ps : { Ps // G ds.length Ps } => L K Ps.1) :=
  t_lcLA G isL_D a hn g0 hz ht hy hno
end
end Z

namespace Z
open PySem L2
/-! ### defs as they stand behind the top -/
/-- a def of the module keeps the promise sp, by at most level k -/
structure Fx (P : Program) (w : World) (K : PySem.W.Frag) (mg : Str → Option Value) (base : Heap) (k : Nat) (x : Str) (sp : Sp) : Prop where
  ex : ∃ f, mg x = some (.ref f) ∧ PySem.W.keepIn K (.ref f) = true ∧ FnR P w K mg base CX0 k f sp
/-- the def's text and place -/
structure Dn (K : PySem.W.Frag) (mg : Str → Option Value) (x : Str) (st : Stmt) (ps : List Str) : Prop where
  ex : ∃ f fd, L2.Fun K x x st f fd ∧ mg x = some (.ref f) ∧ Binds K fd ps []
theorem raw0 {P : Program} {w : World} {K : PySem.W.Frag} {mg : Str → Option Value} {base : Heap} {k : Nat} {f : Addr} {fd : FuncData} {ps : List Str} {sp : Sp} (F : FnOk P w K mg base CX0 k f fd ps sp) (hb : Binds K fd ps []) : FnR P w K mg base CX0 k f sp :=
  (F.raw hb (dvs := []) .nil).imp fun vs H Q E h => by
    show sp (vs ++ []) H Q E
    rw [List.append_nil]
    exact h
section
variable {P : Program} {w : World} {K : PySem.W.Frag} {mg : Str → Option Value} {base : Heap}
theorem Dn.fx {x : Str} {st : Stmt} {ps N : List Str} {k : Nat} {sp : Sp} (d : Dn K mg x st ps) (S : FnScope N ps (defScope st)) (len : ∀ vs H Q E, sp vs H Q E → vs.length = ps.length)
    (hbody : ∀ (f : Addr) (cdv : Value) (A : Around) (outer : List Env) (s : Shared) (H : Hp) (vs : List V) (Q : VK) (E : XK), Room k (A.deeper (PyProof.Rows.envOfC x (defScope st) s.heap.objs.size f cdv)) → sp vs H Q E →
      ∃ t, PSs (cxOf CX0 P w K mg base N x (defScope st) f cdv A outer s H E).nox (defBody st) t ∧ t { nx := fun _ H' => Q .non H', rt := Q } (start N vs) H) : Fx P w K mg base (k + 1) x sp := by
  obtain ⟨f, fd, F, hm, hb⟩ := d.ex
  exact ⟨f, hm, F.kp, raw0 (F.ok S len fun cdv A outer s H vs Q E => hbody f cdv A outer s H vs Q E) hb⟩
theorem Fx.imp {k : Nat} {x : Str} {sp sp' : Sp} (c : Fx P w K mg base k x sp) (h : ∀ vs H Q E, sp' vs H Q E → sp vs H Q E) : Fx P w K mg base k x sp' := by
  obtain ⟨f, a, b, F⟩ := c.ex
  exact ⟨f, a, b, F.imp h⟩
theorem Fx.mono {k j : Nat} {x : Str} {sp : Sp} (c : Fx P w K mg base k x sp) (h : k ≤ j) : Fx P w K mg base j x sp := by
  obtain ⟨f, a, b, F⟩ := c.ex
  exact ⟨f, a, b, F.mono h⟩
/-- a def with the promise Sv: its body from the slots -/
theorem Dn.sv {α : Type _} {args : α → List Pr} {pre : α → Prop} {res : α → Pr} {x : Str} {st : Stmt} {ps N : List Str} {k : Nat} (d : Dn K mg x st ps) (S : FnScope N ps (defScope st)) (hn : ∀ a, (args a).length = ps.length) (hN : ps.length ≤ N.length)
    (ht : ∀ (f : Addr) (cdv : Value) (A : Around) (outer : List Env) (s : Shared) (H : Hp) (E : XK), Room k (A.deeper (PyProof.Rows.envOfC x (defScope st) s.heap.objs.size f cdv)) → ∃ t : TS, PSs (cxOf CX0 P w K mg base N x (defScope st) f cdv A outer s H E).nox (defBody st) t ∧
      ∀ (a : α) (b : Bs), pre a → ∀ (Q : VK), (∀ v h H, Stp b.h0 b.H0 h H → (res a).p v h → Q v H) → Nx b ((args a).map some ++ List.replicate (N.length - ps.length) none) none (t { nx := fun _ H' => Q .non H', rt := Q })) :
    Fx P w K mg base (k + 1) x (Sv args pre res) := by
  refine d.fx S (Sv.len hn) fun f cdv A outer s H vs Q E hr h => ?_
  obtain ⟨t, ht, hb⟩ := ht f cdv A outer s H E hr
  refine ⟨t, ht, ?_⟩
  obtain ⟨a, h, e, q, p, kk⟩ := h
  refine hb a ⟨h, H, h⟩ p Q (fun v h' H' st z => kk v h' H' st z) _ h H ?_ ⟨Stp.refl e, fun _ _ q => q⟩ trivial
  have l1 : vs.length = ps.length := by rw [q.len, hn]
  have l2 : ((args a).map some).length = vs.length := by rw [List.length_map, q.len]
  have go : ∀ (Ps : List Pr) (vs : List V), Vs Ps vs h → ∀ (n : Nat), En (Ps.map some ++ List.replicate n none) (vs.map some ++ List.replicate n none) h := by
    intro Ps
    induction Ps with
    | nil =>
      intro vs q n
      cases q
      refine ⟨by simp, fun i P e => ?_⟩
      have e' : (List.replicate n (none : Option Pr))[i]? = some (some P) := e
      rw [List.getElem?_replicate] at e'
      split at e' <;> cases e'
    | cons P Ps ih =>
      intro vs q n
      cases q with
      | cons a q =>
        have z := ih _ q n
        refine ⟨by simpa using z.len, fun i R e => ?_⟩
        cases i with
        | zero =>
          have e' : P = R := by simpa using e
          subst e'
          exact ⟨_, rfl, a⟩
        | succ i =>
          obtain ⟨v, h1, h2⟩ := z.at_ i R (by simpa using e)
          exact ⟨v, by simpa using h1, h2⟩
  have st : L2.start N vs = vs.map some ++ List.replicate (N.length - ps.length) none := by
    unfold L2.start
    rw [l1]
  rw [st]
  exact go _ _ q _
end
def tF (sp : Sp) (t : TA) : TE := fun σ H Q => t σ H fun vs H1 => sp vs H1 Q E0
section
variable {X : Cx} {k j : Nat} {x : Str} {sp : Sp} {p pos : Pos} {e : Expr} {es : List Expr} {t : TA}
theorem pe_f (c : Fx X.prog X.w X.K X.mg X.base k x sp) (hr : Room j X.A) (hk : k ≤ j) (hg : Gl X x) (ha : PA X (e :: es) t)
    (hdb : (x == ("__debug__" : Str)) = false := by decide) (he : starEach (e :: es) X.env = (false, eval e X.env) :: starEach es X.env := by rfl) (hpl : (backTo pos (starEach es X.env)).any (·.1) = false := by rfl) :
    PE X (.Call (.Name x p) (e :: es) [] pos) (tF sp t) := by
  obtain ⟨f, hm, kp, F⟩ := c.ex
  refine ⟨fun pins s σ H Q I h => ?_⟩
  refine wpAny_Call_Name_kw (ld_glob I hg hm ?_ hdb)
  refine PySem.W.callWith_K (h₀ := X.base) I.ok.mod.kin kp (thn (ha.run pos pins s σ H _ I h) fun us s1 ⟨vs, H1, I1, r, q⟩ => ⟨I1.kIn, ?_⟩) he hpl
  exact wpAny_call (run_fnR (F.mono hk) hr pass0 I1 r q)
end
theorem t_f {α : Type _} {Γ : Ctx} {args : α → List Pr} {pre : α → Prop} {res : α → Pr} {tr : TA} (a : α) (x : TAs Γ tr (args a)) (p : pre a) : T Γ (tF (Sv args pre res) tr) (res a) := fun σ h H n e Q k =>
  x σ h H n e _ fun vs h1 H1 s1 q => ⟨a, h1, s1.i, q, p, fun v h2 H2 s2 z => k v h2 H2 (s1.trans s2) z⟩
/-- a module's constant int -/
def Gk (mg : Str → Option Value) (x : Str) (i : Int) : Prop := ∃ u, mg x = some u ∧ RelV (.int i) u
theorem pe_gK {X : Cx} {x : Str} {i : Int} {pos : Pos} (hg : Gl X x) (h : Gk X.mg x i) (hd : (x == ("__debug__" : Str)) = false := by decide) : PE X (.Name x pos) (tC (.int i)) := by
  obtain ⟨u, a, b⟩ := h
  exact pe_glob hg a b hd
theorem pe_cls {X : Cx} {x : Str} {C : Addr} {pos : Pos} (hg : Gl X x) (hm : X.mg x = some (.ref C)) (hd : (x == ("__debug__" : Str)) = false := by decide) : PE X (.Name x pos) (tC (.ref C)) := pe_glob (v := .ref C) hg hm rfl hd
/-- isinstance with a built-in class -/
def tyOf : PyData → Option String
  | .none => some "NoneType" | .bool _ => some "bool" | .int _ => some "int" | .str _ => some "str" | .list _ => some "list" | .tuple _ => some "tuple" | .dict _ => none
section
variable {K : PySem.W.Frag} {Γ : Ctx} {tr : TA}
theorem tyX_of {H : Hp} {v : V} {d : PyData} (q : Dq K H v d) {n : String} (hn : tyOf d = some n) : TyX K H v (.type n) := by
  cases q with
  | non => cases hn; exact .base .non
  | bl b => cases hn; exact .base (.bl b)
  | int i => cases hn; exact .base (.int i)
  | str x => cases hn; exact .base (.str x)
  | lst s a =>
    cases hn
    exact .base (.lst s)
  | tup s a =>
    cases hn
    rcases s with (s | ⟨o, s⟩) | ⟨o, its, m, s, c, _⟩
    · exact .base (.tup s)
    · exact .fTuple s
    · exact .kTuple s c
theorem fnp_isi {d : PyData} {n c : String} {r : Bool} (hn : tyOf d = some n) (hk : L2.kitB n c = some r) : FnP (rIsi K) [D K d, Pr.is (.ty c)] (B K r) := fun vs h H q e Q k => by
  cases q with
  | cons a q =>
    cases q with
    | cons b q =>
      cases q
      have b' : _ = V.ty c := b
      subst b'
      exact ⟨_, _, .type n, .type c, r, rfl, .ty c, tyX_of (dp_ex e a) hn, kit_ty hk, k _ h H (Stp.refl e) (.bl r)⟩
theorem t_ty {c : String} : T Γ (tC (.ty c)) (Pr.is (.ty c)) := t_c fun _ => rfl
/-- len -/
theorem fnp_lenL {ds : List PyData} : FnP (fun xs H Q => ∃ p ys, xs = [.ref p] ∧ (SqL K H p ys ∨ SqT K H p ys) ∧ Q (.int ys.length) H) [D K (.list ds)] (I K ds.length) := fun vs h H q e Q k => by
  cases q with
  | cons a q =>
    cases q
    obtain ⟨p, xs, rfl, s, z⟩ := dp_lst a
    exact ⟨p, xs, rfl, .inl (.inl (.inl (e _ _ s))), k _ h H (Stp.refl e) (by rw [dpa_len z]; exact .int _)⟩
theorem fnp_lenT {ds : List PyData} : FnP (fun xs H Q => ∃ p ys, xs = [.ref p] ∧ (SqL K H p ys ∨ SqT K H p ys) ∧ Q (.int ys.length) H) [D K (.tuple ds)] (I K ds.length) := fun vs h H q e Q k => by
  cases q with
  | cons a q =>
    cases q
    obtain ⟨p, xs, rfl, s, z⟩ := dp_tup a
    exact ⟨p, xs, rfl, .inr (sqT_ex e s), k _ h H (Stp.refl e) (by rw [dpa_len z]; exact .int _)⟩
theorem fnp_min2 {i j : Int} : FnP (fun xs H Q => ∃ i j, xs = [.int i, .int j] ∧ Q (.int (if j < i then j else i)) H) [I K i, I K j] (I K (min i j)) := fun vs h H q e Q k => by
  cases q with
  | cons a q =>
    cases q with
    | cons b q =>
      cases q
      rw [dp_int a, dp_int b]
      refine ⟨i, j, rfl, k _ h H (Stp.refl e) ?_⟩
      have z : (if j < i then j else i) = min i j := by
        rw [Int.min_def]; split <;> split <;> omega
      rw [z]; exact .int _
theorem fnp_max2 {i j : Int} : FnP (fun xs H Q => ∃ i j, xs = [.int i, .int j] ∧ Q (.int (if j > i then j else i)) H) [I K i, I K j] (I K (max i j)) := fun vs h H q e Q k => by
  cases q with
  | cons a q =>
    cases q with
    | cons b q =>
      cases q
      rw [dp_int a, dp_int b]
      refine ⟨i, j, rfl, k _ h H (Stp.refl e) ?_⟩
      have z : (if j > i then j else i) = max i j := by
        rw [Int.max_def]; split <;> split <;> omega
      rw [z]; exact .int _
theorem fnp_int1 {i : Int} {r : List V → Hp → VK → Prop} (hr : ∀ H Q, Q (.int i) H → r [.int i] H Q) : FnP r [I K i] (I K i) := fun vs h H q e Q k => by
  cases q with
  | cons a q =>
    cases q
    rw [dp_int a]
    exact hr H Q (k _ h H (Stp.refl e) (.int _))
theorem fnp_abs {i : Int} : FnP (fun xs H Q => ∃ i, xs = [.int i] ∧ Q (.int (if i < 0 then -i else i)) H) [I K i] (I K (if i < 0 then -i else i)) := fun vs h H q e Q k => by
  cases q with
  | cons a q =>
    cases q
    rw [dp_int a]
    exact ⟨i, rfl, k _ h H (Stp.refl e) (.int _)⟩
/-- a < b < c -/
theorem t_chain {g g' : Int → Int → Bool} {ta tb tc : TE} {i j k : Int} (a : T Γ ta (I K i)) (b : T Γ tb (I K j)) (c : T Γ tc (I K k)) : T Γ (tChain (rI0 fun i j => .bl (g i j)) (rI0 fun i j => .bl (g' i j)) ta tb tc) (B K (g i j && g' j k)) := fun σ h H x e Q kk =>
  a σ h H x e _ fun v h1 H1 s1 q1 => b σ h1 H1 (x.mono s1.s) s1.i _ fun y h2 H2 s2 q2 => by
    refine ⟨i, j, dp_int q1, dp_int q2, g i j, rfl, ?_⟩
    cases hg : g i j with
    | true =>
      refine c σ h2 H2 (x.mono (s1.trans s2).s) s2.i _ fun z h3 H3 s3 q3 => ⟨j, k, dp_int q2, dp_int q3, kk _ h3 H3 ((s1.trans s2).trans s3) (by rw [hg, Bool.true_and]; exact Dq.bl _)⟩
    | false => exact kk _ h2 H2 (s1.trans s2) (by rw [hg, Bool.false_and]; exact Dq.bl _)
end
end Z

namespace Z
open PySem L2
section
variable {K : PySem.W.Frag} {Γ : Ctx} {te ta tb : TE} {tr : TA} {P A C : Pr}
/-! ### slices, + -/
def TO' (Γ : Ctx) (to : TO) (o : Option Int) : Prop := ∀ (σ : St) (h H : Hp), En Γ σ h → Ex h H → ∀ Q : Option Int → Hp → Prop, (∀ h' H', Stp h H h' H' → Q o H') → to σ H Q
theorem to_none : TO' Γ tNoPart none := fun σ h H x e Q k => k h H (Stp.refl e)
theorem to_some {i : Int} (a : T Γ te (I K i)) : TO' Γ (tPart te) (some i) := fun σ h H x e Q k => a σ h H x e _ fun v h' H' s q => ⟨i, dp_int q, k h' H' s⟩
/-- the items that are cut out -/
def cutD {α : Type _} (xs : List α) (lo hi : Option Int) : List α := (xs.drop (HT.sIx xs.length 0 lo)).take (HT.sIx xs.length xs.length hi - HT.sIx xs.length 0 lo)
theorem cutD_to {α : Type _} (xs : List α) (k : Nat) : cutD xs none (some (k : Int)) = xs.take k := by
  unfold cutD
  rw [HT.sIx_none, HT.sIx_nat, List.drop_zero, Nat.sub_zero]
  by_cases h : k ≤ xs.length
  · rw [Nat.min_eq_left h]
  · rw [Nat.min_eq_right (by omega), List.take_of_length_le (Nat.le_refl _), List.take_of_length_le (by omega)]
theorem cutD_from {α : Type _} (xs : List α) (k : Nat) : cutD xs (some (k : Int)) none = xs.drop k := by
  unfold cutD
  rw [HT.sIx_none, HT.sIx_nat]
  by_cases h : k ≤ xs.length
  · rw [Nat.min_eq_left h, List.take_of_length_le (by rw [List.length_drop] <;> omega)]
  · rw [Nat.min_eq_right (by omega), List.drop_eq_nil_of_le (Nat.le_refl _), List.drop_eq_nil_of_le (by omega), List.take_nil]
theorem cutD_map {α β : Type _} (f : α → β) (xs : List α) (lo hi : Option Int) : cutD (xs.map f) lo hi = (cutD xs lo hi).map f := by
  unfold cutD
  rw [List.length_map, List.map_take, List.map_drop]
theorem cutV_D (xs : List V) (lo hi : Option Int) : cutV xs lo hi = cutD xs lo hi := rfl
theorem dqa_cut {h : Hp} {vs : List V} {ds : List PyData} (q : DqAll K h vs ds) (lo hi : Option Int) : DqAll K h (cutD vs lo hi) (cutD ds lo hi) := by
  unfold cutD
  rw [dpa_len q]
  exact dpa_take _ (dpa_drop _ q)
theorem t_slL {ds : List PyData} {tl th : TO} {lo hi : Option Int} (a : T Γ te (D K (.list ds))) (b : TO' Γ tl lo) (c : TO' Γ th hi) : T Γ (tSl (rSlL K) te tl th) (D K (.list (cutD ds lo hi))) := fun σ h H x e Q k =>
  a σ h H x e _ fun v h1 H1 s1 q => b σ h1 H1 (x.mono s1.s) s1.i _ fun h2 H2 s2 => c σ h2 H2 (x.mono (s1.trans s2).s) s2.i _ fun h3 H3 s3 => by
    obtain ⟨p, xs, rfl, hs, dq⟩ := dp_lst q
    have s := (s1.trans s2).trans s3
    have s23 := s2.trans s3
    refine ⟨p, xs, rfl, .inl (.inl (s3.i _ _ (s23.s _ _ hs))), fun p' np => k _ (upd h3 p' (.lst (cutV xs lo hi))) _ (s.trans (Stp.new s3.i np)) ?_⟩
    exact .lst upd_same (dqa_cut (dpa_ex (Stp.new (o := .lst (cutV xs lo hi)) s3.i np).s (dpa_ex s23.s dq)) lo hi)
theorem t_slT {ds : List PyData} {tl th : TO} {lo hi : Option Int} (a : T Γ te (D K (.tuple ds))) (b : TO' Γ tl lo) (c : TO' Γ th hi) : T Γ (tSl (rSlA K) te tl th) (D K (.tuple (cutD ds lo hi))) := fun σ h H x e Q k =>
  a σ h H x e _ fun v h1 H1 s1 q => b σ h1 H1 (x.mono s1.s) s1.i _ fun h2 H2 s2 => c σ h2 H2 (x.mono (s1.trans s2).s) s2.i _ fun h3 H3 s3 => by
    obtain ⟨p, xs, rfl, hs, dq⟩ := dp_tup q
    have s := (s1.trans s2).trans s3
    have s23 := s2.trans s3
    have hs3 := sqT_ex s23.s hs
    refine ⟨p, xs, rfl, sqT_ex s3.i hs3, fun w => k _ h3 H3 s ?_, fun _ p' np => k _ (upd h3 p' (.tup (cutV xs lo hi))) _ (s.trans (Stp.new s3.i np)) ?_⟩
    · have e : cutD ds lo hi = ds := by
        unfold cutD
        rw [← dpa_len dq, w.1, w.2, List.drop_zero, Nat.sub_zero, dpa_len dq, List.take_length]
      rw [e]
      exact .tup hs3 (dpa_ex s23.s dq)
    · exact .tup (.inl (.inl upd_same)) (dqa_cut (dpa_ex (Stp.new (o := .tup (cutV xs lo hi)) s3.i np).s (dpa_ex s23.s dq)) lo hi)
theorem opp_catL {ds es : List PyData} (hz : ds.length + es.length ≤ 100000) : OpP rCat (D K (.list ds)) (D K (.list es)) (D K (.list (ds ++ es))) := fun x y h H a c e Q k => by
  obtain ⟨p, xs, rfl, hp, dp⟩ := dp_lst a
  obtain ⟨q, ys, rfl, hq, dq⟩ := dp_lst c
  refine ⟨p, q, xs, ys, rfl, rfl, e _ _ hp, e _ _ hq, by rw [dpa_len dp, dpa_len dq]; exact Evl.sz_of hz, fun r nr => k _ (upd h r (.lst (xs ++ ys))) _ (Stp.new e nr) ?_⟩
  have st := (Stp.new (o := .lst (xs ++ ys)) e nr).s
  exact .lst upd_same (dpa_app (dpa_ex st dp) (dpa_ex st dq))
theorem opp_catA {ds es : List PyData} (hz : ds.length + es.length ≤ 100000) : OpP (rCatA K) (D K (.tuple ds)) (D K (.tuple es)) (D K (.tuple (ds ++ es))) := fun x y h H a c e Q k => by
  obtain ⟨p, xs, rfl, hp, dp⟩ := dp_tup a
  obtain ⟨q, ys, rfl, hq, dq⟩ := dp_tup c
  refine ⟨p, q, xs, ys, rfl, rfl, sqT_ex e hp, sqT_ex e hq, by rw [dpa_len dp, dpa_len dq]; exact Evl.sz_of hz, fun z => k _ h H (Stp.refl e) ?_, fun _ z => k _ h H (Stp.refl e) ?_, fun _ _ r nr => k _ (upd h r (.tup (xs ++ ys))) _ (Stp.new e nr) ?_⟩
  · subst z
    cases dp
    exact .tup hq dq
  · subst z
    cases dq
    rw [List.append_nil]
    exact .tup hp dp
  · have st := (Stp.new (o := .tup (xs ++ ys)) e nr).s
    exact .tup (.inl (.inl upd_same)) (dpa_app (dpa_ex st dp) (dpa_ex st dq))
/-- list(x), tuple(x) -/
theorem fnp_listT {ds : List PyData} : FnP (fun xs H Q => ∃ p ys, xs = [.ref p] ∧ (SqL K H p ys ∨ SqT K H p ys) ∧ ∀ l, H l = none → Q (.ref l) (upd H l (.lst ys))) [D K (.tuple ds)] (D K (.list ds)) := fun vs h H q e Q k => by
  cases q with
  | cons a q =>
    cases q
    obtain ⟨p, xs, rfl, s, z⟩ := dp_tup a
    exact ⟨p, xs, rfl, .inr (sqT_ex e s), fun l nl => k _ (upd h l (.lst xs)) _ (Stp.new e nl) (.lst upd_same (dpa_ex (Stp.new (o := .lst xs) e nl).s z))⟩
theorem fnp_listL {ds : List PyData} : FnP (fun xs H Q => ∃ p ys, xs = [.ref p] ∧ (SqL K H p ys ∨ SqT K H p ys) ∧ ∀ l, H l = none → Q (.ref l) (upd H l (.lst ys))) [D K (.list ds)] (D K (.list ds)) := fun vs h H q e Q k => by
  cases q with
  | cons a q =>
    cases q
    obtain ⟨p, xs, rfl, s, z⟩ := dp_lst a
    exact ⟨p, xs, rfl, .inl (.inl (.inl (e _ _ s))), fun l nl => k _ (upd h l (.lst xs)) _ (Stp.new e nl) (.lst upd_same (dpa_ex (Stp.new (o := .lst xs) e nl).s z))⟩
theorem fnp_tupL {ds : List PyData} : FnP (fun xs H Q => ∃ p ys, xs = [.ref p] ∧ ((SqL K H p ys ∧ ∀ l, H l = none → Q (.ref l) (upd H l (.tup ys))) ∨ (SqT K H p ys ∧ Q (.ref p) H))) [D K (.list ds)] (D K (.tuple ds)) := fun vs h H q e Q k => by
  cases q with
  | cons a q =>
    cases q
    obtain ⟨p, xs, rfl, s, z⟩ := dp_lst a
    exact ⟨p, xs, rfl, .inl ⟨.inl (.inl (e _ _ s)), fun l nl => k _ (upd h l (.tup xs)) _ (Stp.new e nl) (.tup (.inl (.inl upd_same)) (dpa_ex (Stp.new (o := .tup xs) e nl).s z))⟩⟩
theorem fnp_min {ns : List Int} (hn : ns ≠ []) : FnP (rMin K) [D K (dI ns)] (Pr.some fun m : { m : Int // m ∈ ns ∧ ∀ y ∈ ns, m ≤ y } => I K m.1) := fun vs h H q e Q k => by
  cases q with
  | cons a q =>
    cases q
    obtain ⟨p, rfl, s⟩ := dp_ints a
    exact ⟨p, ns, rfl, .inl (.inl (e _ _ s)), List.length_pos_iff.mpr hn, fun m hm hy => k _ h H (Stp.refl e) ⟨⟨m, hm, hy⟩, .int m⟩⟩
theorem fnp_max {ns : List Int} (hn : ns ≠ []) : FnP (rMax K) [D K (dI ns)] (Pr.some fun m : { m : Int // m ∈ ns ∧ ∀ y ∈ ns, y ≤ m } => I K m.1) := fun vs h H q e Q k => by
  cases q with
  | cons a q =>
    cases q
    obtain ⟨p, rfl, s⟩ := dp_ints a
    exact ⟨p, ns, rfl, .inl (.inl (e _ _ s)), List.length_pos_iff.mpr hn, fun m hm hy => k _ h H (Stp.refl e) ⟨⟨m, hm, hy⟩, .int m⟩⟩
theorem fnp_sum {ns : List Int} : FnP (rSum K) [D K (dI ns)] (I K ns.sum) := fun vs h H q e Q k => by
  cases q with
  | cons a q =>
    cases q
    obtain ⟨p, rfl, s⟩ := dp_ints a
    exact ⟨p, ns, rfl, .inl (.inl (e _ _ s)), k _ h H (Stp.refl e) (.int _)⟩

/-! ### objects of one field -/
/-- an instance of C whose only field f stands for d -/
def Ob (K : PySem.W.Frag) (C : Addr) (f : Str) (F : Pr) : Pr := ⟨fun v h => ∃ a dx u, v = .ref a ∧ h a = some (.ins C dx [(f, u)]) ∧ F.p u h, fun e ⟨a, dx, u, x, y, z⟩ => ⟨a, dx, u, x, e _ _ y, F.mono e z⟩⟩
theorem lookup1 {f : Str} {u : V} : List.lookup f [(f, u)] = some u := by simp [List.lookup]
theorem lookup1_ne {f g : Str} {u : V} (h : (g == f) = false) : List.lookup g [(f, u)] = none := by simp [List.lookup, h]
theorem t_fld {C : Addr} {f : Str} {F : Pr} (c : Cls K C) (n : NoAttr K C f) (a : T Γ te (Ob K C f F)) : T Γ (tFld K te f) F := fun σ h H x e Q k => a σ h H x e _ fun v h1 H1 s1 q => by
  obtain ⟨p, dx, u, rfl, ho, z⟩ := q
  exact ⟨p, C, dx, _, u, rfl, s1.i _ _ ho, c, n, lookup1, k u h1 H1 s1 z⟩
end
/-- a method (or the getter of a property) of the class at C -/
structure Mx (P : Program) (w : World) (K : PySem.W.Frag) (mg : Str → Option Value) (base : Heap) (k : Nat) (C : Addr) (m : Str) (sp : Sp) : Prop where
  ex : ∃ f, PySem.W.findIn K (.ref C) m = some (some (.ref f)) ∧ PySem.W.isFn K (.ref f) = true ∧ PySem.W.fnIn K f = true ∧ FnR P w K mg base CX0 k f sp
structure Gx (P : Program) (w : World) (K : PySem.W.Frag) (mg : Str → Option Value) (base : Heap) (k : Nat) (C : Addr) (m : Str) (sp : Sp) : Prop where
  ex : ∃ p g fd ps, PropOf K C m p g ∧ FnOk P w K mg base CX0 k g fd ps sp ∧ Binds K fd ps []
/-- the __init__ of the class that the module's name x holds -/
structure Ix (P : Program) (w : World) (K : PySem.W.Frag) (mg : Str → Option Value) (base : Heap) (k : Nat) (x : Str) (C : Addr) (sp : Sp) : Prop where
  ex : ∃ f, Mk K C f ∧ mg x = some (.ref C) ∧ FnR P w K mg base CX0 k f sp
section
variable {X : Cx} {k j : Nat} {x : Str} {sp : Sp} {p pos : Pos} {e o : Expr} {es : List Expr} {t : TA} {ta : TE} {C : Addr} {m : Str}
theorem pe_mkR (c : Ix X.prog X.w X.K X.mg X.base k x C sp) (hr : Room j X.A) (hk : k + 1 ≤ j) (hg : Gl X x) (ha : PA X (e :: es) t)
    (hdb : (x == ("__debug__" : Str)) = false := by decide) (he : starEach (e :: es) X.env = (false, eval e X.env) :: starEach es X.env := by rfl) (hpl : (backTo pos (starEach es X.env)).any (·.1) = false := by rfl) :
    PE X (.Call (.Name x p) (e :: es) [] pos) (StX.tMakeR C sp E0 t) := by
  obtain ⟨f, M, hm, F⟩ := c.ex
  exact StX.pe_makeR M F (hr.mono hk) hg hm pass0 ha hdb he hpl
theorem pe_get (c : Gx X.prog X.w X.K X.mg X.base k C m sp) (cl : Cls X.K C) (hr : Room j X.A) (hk : k + 1 ≤ j) (he : PE X o ta) (hab : attributeBase o m X.env (eval o X.env) = eval o X.env := by rfl) : PE X (.Attribute o m pos) (tProp C sp [] E0 ta) := by
  obtain ⟨p, g, fd, ps, hp, F, hb⟩ := c.ex
  exact pe_prop he cl hp F (hr.mono hk) hb .nil pass0 hab
theorem pe_cO (c : Mx X.prog X.w X.K X.mg X.base k C "__call__" sp) (hr : Room j X.A) (hk : k ≤ j) (hf : PE X o ta) (ha : PA X (e :: es) t)
    (ht : eval (.Call o (e :: es) [] pos) X.env = (do callWith pos (← eval o X.env) [] (backTo pos (starEach (e :: es) X.env)) (backToKw pos (keywordEach [] X.env))) := by rfl)
    (he : starEach (e :: es) X.env = (false, eval e X.env) :: starEach es X.env := by rfl) (hpl : (backTo pos (starEach es X.env)).any (·.1) = false := by rfl) : PE X (.Call o (e :: es) [] pos) (StX.tCallO X C sp E0 ta t) := by
  obtain ⟨f, a, b, d, F⟩ := c.ex
  exact StX.pe_callO hf ⟨a, b, d⟩ F (hr.mono hk) pass0 ha ht he hpl
end
/-! ### the text's own operators -/
/-- what stands at y, by its type -/
def TyV (K : PySem.W.Frag) (H : Hp) (y : V) (t : Value) : Prop := (∃ a C dx fs, y = .ref a ∧ H a = some (.ins C dx fs) ∧ t = .ref C) ∨ (∃ d n, Dq K H y d ∧ tyOf d = some n ∧ t = .type n)
theorem TyV.looks {X : Cx} {pins : List (Addr × Obj)} {σ : L2.St} {H : Hp} {s : Shared} {y : V} {u t : Value} {M : Model} (I : Inv X pins σ H s) (r : RelV y u) (q : TyV X.K H y t) : PySem.W.Looks M s.heap (typeOf u) t := by
  rcases q with ⟨a, C, dx, fs, rfl, ho, rfl⟩ | ⟨d, n, dq, hn, rfl⟩
  · obtain rfl : u = Value.ref a := r
    obtain ⟨mA, J, _⟩ := ins_get I.hok ho
    obtain ⟨od, J, _⟩ := J.look
    exact J.type
  · cases dq with
    | non => cases hn; obtain rfl : u = Value.none := r; exact PySem.W.Looks.of_pure rfl
    | bl b => cases hn; obtain rfl : u = Value.bool b := r; exact PySem.W.Looks.of_pure rfl
    | int i => cases hn; obtain ⟨t, rfl⟩ : ∃ t, u = Value.int i t := r; exact PySem.W.Looks.of_pure rfl
    | str x => cases hn; obtain ⟨t, rfl⟩ : ∃ t, u = Value.str x t := r; exact PySem.W.Looks.of_pure rfl
    | @lst a xs ds hl z =>
      cases hn
      obtain rfl : u = Value.ref a := r
      obtain ⟨_, its, n, _, h1⟩ := (show ObjOk X.prog X.w H s.heap a (.lst xs) from I.hok a _ hl)
      exact (PySem.W.Looks.ld h1).andThen .now
    | @tup a xs ds hl z =>
      cases hn
      obtain rfl : u = Value.ref a := r
      obtain ⟨its, rv, ⟨o, ho, hc, _⟩, _⟩ := I.tuple hl
      exact hc ▸ (PySem.W.Looks.ld ho).andThen .now
section
variable {X : Cx} {k j : Nat} {sp : Sp} {C : Addr} {m : Str}
theorem run_own {pins : List (Addr × Obj)} {σ : L2.St} {H : Hp} {s : Shared} {Q : VK} {A : Around} {f : Addr} {us : List Value} {vs : List V} (F : FnR X.prog X.w X.K X.mg X.base CX0 k f sp) (hr : Room k A) (hf : A.frames = X.A.frames) (I : Inv X pins σ H s) (r : Vals vs us) (h : sp vs H Q E0) :
    wpAny (model X.prog X.w) A (call (.ref f) us) (EP X pins σ Q) X.xe s := by
  have e0 : Env0 X.prog X.w X.K X.mg X.base A X.stack s H := by
    have e := I.env0
    exact ⟨by rw [hf]; exact e.frames, e.mod, e.bs, e.bsz, e.funs, e.frf, e.hok, e.bare⟩
  refine wpAny_call (codeAny_mono (F A X.stack s H us vs Q E0 hr e0 r h) fun r s' hq => ?_)
  cases r with
  | error e => exact False.elim (show False from hq)
  | ok fl =>
    cases fl with
    | ret u => exact I.after hq
    | next => exact False.elim hq
    | brk => exact False.elim hq
    | cont => exact False.elim hq
def NotNI (v : V) : Prop := True
theorem relV_ni {v : V} {u : Value} (r : RelV v u) : u ≠ .notImplemented := by
  intro e
  subst e
  cases v with
  | non => cases r
  | bl => cases r
  | int => obtain ⟨_, r⟩ := r; cases r
  | str => obtain ⟨_, r⟩ := r; cases r
  | byt => obtain ⟨_, r⟩ := r; cases r
  | flt => obtain ⟨_, r⟩ := r; cases r
  | ref => cases r
  | ty => cases r
theorem back_of {Q : Value → Shared → Prop} {v : Value} {s' : Shared} (n : v ≠ .notImplemented) (q : Q v s') : PySem.W.CmpBack Q v s' := by
  unfold PySem.W.CmpBack
  split
  · exact n rfl
  · exact q
/-- x == y, x an instance of C -/
def rOwn (K : PySem.W.Frag) (C : Addr) (sp : Sp) : R2 := fun x y H Q => ∃ a dx fs t, x = .ref a ∧ H a = some (.ins C dx fs) ∧ TyV K H y t ∧ PySem.W.notFirst K C t = true ∧ sp [x, y] H Q E0
theorem op_ownEq (c : Mx X.prog X.w X.K X.mg X.base k C "__eq__" sp) (hr : Room j X.A) (hk : k ≤ j) : OpR X (compareOp .Eq) (rOwn X.K C sp) := by
  intro pins s σ H x y v u Q I rx ry h
  obtain ⟨a, dx, fs, t, rfl, ho, ty, nf, q⟩ := h
  obtain rfl : v = Value.ref a := rx
  obtain ⟨f, hs, hf, _, F⟩ := c.ex
  obtain ⟨mA, J, _⟩ := ins_get I.hok ho
  obtain ⟨od, J, _⟩ := J.look
  obtain ⟨m, hF⟩ := I.fr
  show wpAny (model X.prog X.w) X.A (richCompare .Eq (.ref a) u) (EP X pins σ Q) X.xe s
  refine PySem.W.cmp_K (op := .Eq) (tb := t) hr.units0 hF I.ok.mod.kin J (ty.looks I ry) nf hs hf ?_
  refine wpAny_mono (run_own F (hr.mono hk) rfl I (.cons (show RelV (.ref a) (.ref a) from rfl) (.cons ry .nil)) q) (fun w s' z => ?_) fun _ _ e => e
  obtain ⟨v', H', I', rv, z⟩ := z
  exact back_of (relV_ni rv) ⟨v', H', I', rv, z⟩
/-- x != y: object.__ne__ turns what __eq__ says -/
def rOwnNe (K : PySem.W.Frag) (C : Addr) (sp : Sp) : R2 := fun x y H Q => ∃ a dx fs t, x = .ref a ∧ H a = some (.ins C dx fs) ∧ TyV K H y t ∧ PySem.W.notFirst K C t = true ∧ sp [x, y] H (fun v H' => ∃ b, v = .bl b ∧ Q (.bl (!b)) H') E0
/-- the class has object's != -/
structure NeK (K : PySem.W.Frag) (C : Addr) : Prop where
  ne : PySem.W.findIn K (.ref C) "__ne__" = some (some (.builtin "object.__ne__"))
  ob : PySem.W.mroIn K C (.type "object") = some true
theorem ifBound_ne {M : Model} {A : Around} {E : Value → Shared → Prop} {s : Shared} {K : PySem.W.Frag} {x C : Addr} {ox : Obj} {od : Option Obj} {args : List Value} {Q : Option Value → Shared → Prop} (X : K.In s.heap) (I : PySem.W.InstAt s.heap x ox C od) (n : NeK K C)
    (h : wpAny M A (call (.builtin "object.__ne__") (.ref x :: args)) (fun v => Q (some v)) E s) : wpAny M A (callSpecialIfBound? (.ref x) "__ne__" args) Q E s := by
  simp only [callSpecialIfBound?, bindSpecialIfBound?]
  refine wpAny_holding (wpAny_bind (wpAny_bind (wpAny_bind (I.type.here ((PySem.W.looks_findIn X n.ne).here ?_)))))
  simp only [PySem.F.cmp_object.ne.bind]
  refine wpAny_bind (wpAny_askSetting (wpAny_ite ?_))
  have fin : wpAny M A (call (.builtin "object.__ne__") ([.ref x] ++ args) >>= fun v => pure (some v)) Q E s := wpAny_bind (wpAny_mono h (fun v s' h' => wpAny_pure h') fun _ _ h' => h')
  split
  · exact wpAny_bind (wpAny_pure (wpAny_pure fin))
  · exact wpAny_tryCatch (wpAny_bind (wpAny_pure (wpAny_pure fin)))
theorem op_ownNe (c : Mx X.prog X.w X.K X.mg X.base k C "__eq__" sp) (n : NeK X.K C) (hr : Room j X.A) (hk : k + 1 ≤ j) : OpR X (compareOp .NotEq) (rOwnNe X.K C sp) := by
  intro pins s σ H x y v u Q I rx ry h
  obtain ⟨a, dx, fs, t, rfl, ho, ty, nf, q⟩ := h
  obtain rfl : v = Value.ref a := rx
  obtain ⟨f, hs, hf, _, G⟩ := c.ex
  obtain ⟨mA, J, _⟩ := ins_get I.hok ho
  obtain ⟨od, J, _⟩ := J.look
  have KX := I.kIn
  have hr1 : Room k X.A.in1 := (hr.mono hk).in1
  show wpAny (model X.prog X.w) X.A (richCompare .NotEq (.ref a) u) (EP X pins σ Q) X.xe s
  have tb : PySem.W.Looks (model X.prog X.w) s.heap (typeOf u) t := ty.looks I ry
  have one : wpAny (model X.prog X.w) X.A (tryCompare (.ref a) (cmpInfo .NotEq).2.1 u) (fun r s' => ∃ v, r = some v ∧ EP X pins σ Q v s') X.xe s := by
    unfold tryCompare
    refine wpAny_bind (ifBound_ne KX J n (wpAny_call (codeAny_call_builtin PySem.F.cmp_object.ne.plain PySem.F.cmpEntry_ne (PySem.W.check_slot PySem.F.cmpKind_ne PySem.F.cmpSplit_ne (J.type.andThen (PySem.W.looks_mroIn KX n.ob)) (PySem.F.cmpArgs_ne _ _) ?_))))
    unfold Builtin.«object.__ne__»
    have call : wpAny (model X.prog X.w) X.A.in1 (callSpecialIfBound? (.ref a) (Str.ofString "__eq__") [u]) (fun r s' => ∃ b H', r = some (.bool b) ∧ Inv X pins σ H' s' ∧ Q (.bl (!b)) H') X.xe s := by
      refine PySem.W.ifBound_K KX J hs hf ?_
      refine wpAny_mono (run_own G hr1 rfl I (.cons (show RelV (.ref a) (.ref a) from rfl) (.cons ry .nil)) q) (fun w s' z => ?_) fun _ _ e => e
      obtain ⟨v', H', I', rv, b, rfl, z⟩ := z
      obtain rfl : w = Value.bool b := rv
      exact ⟨b, H', rfl, I', z⟩
    repeat (first
      | with_reducible refine wpAny_cRoomFor (hr1.units0) ?_
      | (refine wpAny_bind (m := callSpecialIfBound? (.ref a) (Str.ofString "__eq__") [u]) (wpAny_mono call (fun r s' z => by
          obtain ⟨b, H', rfl, I', z⟩ := z
          repeat (first | exact ⟨_, rfl, .bl (!b), H', I', rfl, z⟩ | exact wpAny_pure ⟨_, rfl, .bl (!b), H', I', rfl, z⟩ | (refine wpAny_bind (m := truthy (.bool _)) (wpAny_truthy_bool ?_)) | wp_step)) fun _ _ e => e))
      | wp_step)
  unfold richCompare
  simp only [oneThing_ref]
  refine wpAny_holding (wpAny_bind (wpAny_cRoomFor hr.units0 ?_))
  refine wpAny_bind (J.type.here (wpAny_bind (tb.here ?_)))
  split
  · rename_i q'
    have e : PySem.W.subIn X.K t (.ref C) = some false := by
      rcases Bool.or_eq_true_iff.mp nf with e | e
      · rw [beq_iff_eq.mp e] at q'; simp at q'
      · exact beq_iff_eq.mp e
    refine wpAny_bind ((PySem.W.looks_subIn KX e).here ?_)
    simp only [Bool.false_eq_true, if_false]
    refine wpAny_bind (wpAny_mono one (fun r s' z => ?_) fun _ _ e => e)
    obtain ⟨v, rfl, hq⟩ := z
    exact wpAny_pure hq
  · refine wpAny_bind (wpAny_pure ?_)
    simp only [Bool.false_eq_true, if_false]
    refine wpAny_bind (wpAny_mono one (fun r s' z => ?_) fun _ _ e => e)
    obtain ⟨v, rfl, hq⟩ := z
    exact wpAny_pure hq
/-- len(x) -/
def rOwnLen (C : Addr) (sp : Sp) : List V → Hp → VK → Prop := fun xs H Q => ∃ a dx fs, xs = [.ref a] ∧ H a = some (.ins C dx fs) ∧ sp [.ref a] H (fun v H' => ∃ n : Nat, v = .int n ∧ n < 2 ^ 62 ∧ Q (.int n) H') E0
theorem call_ownLen (c : Mx X.prog X.w X.K X.mg X.base k C "__len__" sp) (hr : Room j X.A) (hk : k + 1 ≤ j) : CallR X (.builtin "len") (rOwnLen C sp) := by
  intro pins s σ H xs us Q I r h
  obtain ⟨a, dx, fs, rfl, ho, q⟩ := h
  obtain ⟨u, rfl, rx⟩ := vals1 r
  obtain rfl : u = Value.ref a := rx
  obtain ⟨f, hs, hf, _, G⟩ := c.ex
  obtain ⟨mA, J, _⟩ := ins_get I.hok ho
  obtain ⟨od, J, _⟩ := J.look
  obtain ⟨m, hF⟩ := I.fr
  refine PySem.W.len_K hF I.ok.mod.kin J hs hf ?_
  refine wpAny_mono (run_own G (hr.mono hk).in1 rfl I (.cons (show RelV (.ref a) (.ref a) from rfl) .nil) q) (fun w s' z => ?_) fun _ _ e => e
  obtain ⟨v', H', I', rv, n, rfl, hn, z⟩ := z
  obtain ⟨t, rfl⟩ := rv
  exact ⟨⟨Int.natCast_nonneg n, by omega⟩, .int n, H', I'.tok _, ⟨_, rfl⟩, z⟩
/-- x + y, x - y, x >> y, both of C; -x; x * n; x[i] -/
theorem op_ownBin (op : Operator) (c : Mx X.prog X.w X.K X.mg X.base k C (PySem.dunder op.info.2) sp) (sf : PySem.W.selfFirst X.K C = true) (hr : Room j X.A) (hk : k ≤ j) :
    OpR X (binaryOp op) (fun x y H Q => ∃ a dx fs b dy gs, x = .ref a ∧ H a = some (.ins C dx fs) ∧ y = .ref b ∧ H b = some (.ins C dy gs) ∧ sp [x, y] H Q E0) := by
  intro pins s σ H x y v u Q I rx ry h
  obtain ⟨a, dx, fs, b, dy, gs, rfl, ho, rfl, ho2, q⟩ := h
  obtain rfl : v = Value.ref a := rx
  obtain rfl : u = Value.ref b := ry
  obtain ⟨f, hs, hf, _, G⟩ := c.ex
  obtain ⟨mA, J, _⟩ := ins_get I.hok ho
  obtain ⟨od, J, _⟩ := J.look
  obtain ⟨mB, J2, _⟩ := ins_get I.hok ho2
  obtain ⟨od2, J2, _⟩ := J2.look
  obtain ⟨m, hF⟩ := I.fr
  refine PySem.W.binop_K hF I.ok.mod.kin J J2.type sf hs hf ?_
  refine wpAny_mono (run_own G (hr.mono hk) rfl I (.cons (show RelV (.ref a) (.ref a) from rfl) (.cons (show RelV (.ref b) (.ref b) from rfl) .nil)) q) (fun w s' z => ?_) fun _ _ e => e
  obtain ⟨v', H', I', rv, z⟩ := z
  exact back_of (relV_ni rv) ⟨v', H', I', rv, z⟩
theorem op_ownNeg (c : Mx X.prog X.w X.K X.mg X.base k C "__neg__" sp) (hr : Room j X.A) (hk : k ≤ j) :
    UnR X (unaryOp .USub) (fun x H Q => ∃ a dx fs, x = .ref a ∧ H a = some (.ins C dx fs) ∧ sp [x] H Q E0) := by
  intro pins s σ H x v Q I rx h
  obtain ⟨a, dx, fs, rfl, ho, q⟩ := h
  obtain rfl : v = Value.ref a := rx
  obtain ⟨f, hs, hf, _, G⟩ := c.ex
  obtain ⟨mA, J, _⟩ := ins_get I.hok ho
  obtain ⟨od, J, _⟩ := J.look
  obtain ⟨m, hF⟩ := I.fr
  refine PySem.W.ksp_neg hF I.ok.mod.kin J hs hf ?_
  exact run_own G (hr.mono hk) rfl I (.cons (show RelV (.ref a) (.ref a) from rfl) .nil) q
end
end Z
namespace Z
open PySem L2
section
variable {K : PySem.W.Frag} {Γ : Ctx} {te ta tb : TE} {tr : TA} {P A C : Pr}
/-- __init__ of a class of one field: a check, then the field -/
def spIni (K : PySem.W.Frag) (C : Addr) (f : Str) (pre : Pr → Prop) : Sp := fun vs H Q _ => ∃ (x dx : Addr) (F : Pr) (v : V) (h : Hp), vs = [.ref x, v] ∧ H x = some (.ins C dx []) ∧ Ex h H ∧ h x = none ∧ F.p v h ∧ pre F ∧
  ∀ h1 H1, Stp h H h1 H1 → Q .non (upd H1 x (.ins C dx [(f, v)]))
theorem t_mkOb {C : Addr} {f : Str} {pre : Pr → Prop} {F : Pr} (a : T Γ ta F) (p : pre F) : T Γ (StX.tMakeR C (spIni K C f pre) E0 (tCons ta tNil)) (Ob K C f F) := fun σ h H x e Q k => a σ h H x e _ fun v h1 H1 s1 q => by
  intro y dx ny nd ne
  have nh : h1 y = none := by
    cases z : h1 y with
    | none => rfl
    | some o => rw [s1.i y o z] at ny; cases ny
  have eH : Ex H1 (upd (upd H1 dx (.own y)) y (.ins C dx [])) := fun b o z => by rw [upd_ne (ne_of_none z ny), upd_ne (ne_of_none z nd)]; exact z
  refine ⟨y, dx, F, v, h1, rfl, upd_same, fun b o z => eH b o (s1.i b o z), nh, q, p, fun h3 H3 s3 => ⟨rfl, ?_⟩⟩
  have hy3 : H3 y = some (.ins C dx []) := s3.e _ _ upd_same
  have ny3 : h3 y = none := s3.f _ _ upd_same nh
  have e3 : Ex h3 (upd h3 y (.ins C dx [(f, v)])) := fun b o z => by rw [upd_ne (ne_of_none z ny3)]; exact z
  refine k (.ref y) (upd h3 y (.ins C dx [(f, v)])) _ (s1.trans ⟨fun b o z => ?_, fun b o z => e3 b o (s3.s b o z), fun b o z => ?_, fun b o z n => ?_⟩) ⟨y, dx, v, rfl, upd_same, F.mono e3 (F.mono s3.s q)⟩
  · rw [upd_ne (ne_of_none z ny)]
    exact s3.e b o (eH b o z)
  · by_cases c : b = y
    · subst c; rw [upd_same] at z ⊢; exact z
    · rw [upd_ne c] at z ⊢; exact s3.i b o z
  · rw [upd_ne (ne_of_none z ny)]
    exact s3.f b o (eH b o z) n
/-- a property of such an object, a call of it, == and != and len of it -/
theorem t_prop {α : Type _} {C : Addr} {f : Str} {args : α → List Pr} {pre : α → Prop} {res : α → Pr} {F : Pr} (a : α) (x : T Γ te (Ob K C f F)) (ha : args a = [Ob K C f F]) (p : pre a) : T Γ (tProp C (Sv args pre res) [] E0 te) (res a) := fun σ h H n e Q k =>
  x σ h H n e _ fun v h1 H1 s1 q => by
    obtain ⟨y, dx, u, rfl, ho, z⟩ := id q
    exact ⟨y, dx, _, rfl, s1.i _ _ ho, a, h1, s1.i, by rw [ha]; exact .cons q .nil, p, fun v h2 H2 s2 z => k v h2 H2 (s1.trans s2) z⟩
theorem t_callO {α : Type _} {X : Cx} {C : Addr} {f : Str} {args : α → List Pr} {pre : α → Prop} {res : α → Pr} {F : Pr} {As : List Pr} (a : α) (x : T Γ te (Ob K C f F)) (y : TAs Γ tr As) (ha : args a = Ob K C f F :: As) (p : pre a) : T Γ (StX.tCallO X C (Sv args pre res) E0 te tr) (res a) := fun σ h H n e Q k =>
  x σ h H n e _ fun v h1 H1 s1 q => by
    obtain ⟨o, dx, u, rfl, ho, z⟩ := id q
    refine ⟨o, rfl, y σ h1 H1 (n.mono s1.s) s1.i _ fun vs h2 H2 s2 q2 => ⟨.inr ⟨dx, _, s2.e _ _ (s1.i _ _ ho)⟩, a, h2, s2.i, ?_, p, fun v h3 H3 s3 z => k v h3 H3 ((s1.trans s2).trans s3) z⟩⟩
    rw [ha]
    exact .cons ((Ob K C f F).mono s2.s q) q2
theorem ob_ty {C : Addr} {f : Str} {F : Pr} {v : V} {h : Hp} (q : (Ob K C f F).p v h) : TyV K h v (.ref C) := by
  obtain ⟨o, dx, u, rfl, ho, z⟩ := q
  exact .inl ⟨o, C, dx, _, rfl, ho, rfl⟩
theorem notFirst_self {C : Addr} : PySem.W.notFirst K C (.ref C) = true := by simp [PySem.W.notFirst]
theorem opp_ownEq {α : Type _} {C : Addr} {f : Str} {args : α → List Pr} {pre : α → Prop} {res : α → Pr} {F : Pr} {B' : Pr} {t : Value} (a : α) (hB : ∀ v h, B'.p v h → TyV K h v t) (nf : PySem.W.notFirst K C t = true) (ha : args a = [Ob K C f F, B']) (p : pre a) : OpP (rOwn K C (Sv args pre res)) (Ob K C f F) B' (res a) := fun x y h H q1 q2 e Q k => by
  obtain ⟨o, dx, u, rfl, ho, z⟩ := id q1
  refine ⟨o, dx, _, t, rfl, e _ _ ho, ?_, nf, a, h, e, by rw [ha]; exact .cons q1 (.cons q2 .nil), p, fun v h' H' s z => k v h' H' s z⟩
  exact hB _ _ (B'.mono e q2)
theorem opp_ownNe {α : Type _} {C : Addr} {f : Str} {args : α → List Pr} {pre : α → Prop} {c : α → Bool} {F : Pr} {B' : Pr} {t : Value} (a : α) (hB : ∀ v h, B'.p v h → TyV K h v t) (nf : PySem.W.notFirst K C t = true) (ha : args a = [Ob K C f F, B']) (p : pre a) : OpP (rOwnNe K C (Sv args pre fun a => B K (c a))) (Ob K C f F) B' (B K (!c a)) := fun x y h H q1 q2 e Q k => by
  obtain ⟨o, dx, u, rfl, ho, z⟩ := id q1
  refine ⟨o, dx, _, t, rfl, e _ _ ho, hB _ _ (B'.mono e q2), nf, a, h, e, by rw [ha]; exact .cons q1 (.cons q2 .nil), p, fun v h' H' s z => ⟨c a, dp_bl z, k _ h' H' s (.bl _)⟩⟩
theorem fnp_ownLen {α : Type _} {C : Addr} {f : Str} {args : α → List Pr} {pre : α → Prop} {n : α → Nat} {F : Pr} (a : α) (hn : n a ≤ 100000) (ha : args a = [Ob K C f F]) (p : pre a) : FnP (rOwnLen C (Sv args pre fun a => I K (n a))) [Ob K C f F] (I K (n a)) := fun vs h H q e Q k => by
  cases q with
  | cons q1 q =>
    cases q
    obtain ⟨o, dx, u, rfl, ho, z⟩ := id q1
    exact ⟨o, dx, _, rfl, e _ _ ho, a, h, e, by rw [ha]; exact .cons q1 .nil, p, fun v h' H' s z => ⟨n a, dp_int z, by omega, k _ h' H' s (.int _)⟩⟩
end
end Z
namespace Z
open PySem L2
section
variable {K : PySem.W.Frag} {b : Bs} {Γ Γ' : Ctx} {μ : Mo} {te ta tb : TE} {tr : TA} {t : TT} {P R : Pr} {tu tw tz : TS} {ff : St → Hp → Prop} {rr : VK} {bb cc : St → Hp → Prop}
theorem Mu.re {b : Bs} {hb : Hp} {μ : Mo} {σ : St} {h H : Hp} (m : Mu b μ σ h H) : Mu ⟨b.h0, b.H0, hb⟩ μ σ h H := by
  cases μ with
  | none => trivial
  | some p =>
    obtain ⟨l, o, m⟩ := m
    exact ⟨l, o, m.at_, m.nh, m.n0, m.oH, m.ct⟩
/-- for i, x in enumerate(list of data) -/
theorem n_forE {γ : Type _} {j l : Nat} {ds : List PyData} (G : Nat → γ → Prop) (Γi : Nat → γ → Ctx) (μi : Nat → γ → Mo) (g0 : γ) (a : TAs Γ tr [D K (.list ds)]) (q0 : G 0 g0) (l0 : Le Γ (Γi 0 g0))
    (hs : ∀ (hb : Hp) (i : Nat) (d : PyData) (g : γ), ds[i]? = some d → G i g → Nx ⟨b.h0, b.H0, hb⟩ (((Γi i g).set j (some (I K (i : Int)))).set l (some (D K d))) (μi i g) (tu ⟨Pv ⟨b.h0, b.H0, hb⟩ G Γi μi (i + 1), rr, ff, Pv ⟨b.h0, b.H0, hb⟩ G Γi μi (i + 1)⟩))
    (hd : ∀ (hb : Hp) g, G ds.length g → Nx ⟨b.h0, b.H0, hb⟩ (Γi ds.length g) (μi ds.length g) ff) (hm : μ = μi 0 g0 := by rfl) (hj : ∀ i g, mok (μi i g) j = true := by intros; rfl) (hl : ∀ i g, mok (μi i g) l = true := by intros; rfl) : Nx b Γ μ (tFor (iEnum K tr) (gTup K 2 (gCons (gName j) (gCons (gName l) gNil))) tu ⟨ff, rr, bb, cc⟩) := fun σ h H x s m => a σ h H x s.st.i _ fun vs h1 H1 s1 q => by
  cases q with
  | cons q z =>
    cases z
    obtain ⟨p, xs, rfl, sq, dp⟩ := dp_lst q
    subst hm
    refine ⟨p, xs, rfl, .inl (.inl (s1.i _ _ sq)), fun i m σ H => m = xs.length - i ∧ i ≤ xs.length ∧ Pv ⟨b.h0, b.H0, h1⟩ G Γi μi i σ H, ⟨xs.length, by simp, Nat.zero_le _, g0, h1, q0, (x.mono s1.s).le l0, ⟨(s.go s1).st, fun _ _ q => q⟩, (m.go s1).re⟩, ?_⟩
    rintro i m σ' H' ⟨rfl, hi, g, h', q, x', s', m'⟩
    have hp : SqL K H' p xs := .inl (.inl (s'.st.i _ _ (s'.kn _ _ sq)))
    by_cases hlt : i < xs.length
    · refine .inr ⟨⟨xs, xs[i], hp, by simp [hlt]⟩, Pv ⟨b.h0, b.H0, h1⟩ G Γi μi (i + 1), fun σ' H' p' => ⟨xs.length - (i + 1), by omega, rfl, hlt, p'⟩, fun v H2 y => ?_⟩
      obtain ⟨T, y, rfl, nT, rfl, hy⟩ := y
      have hy' := hy xs hp
      obtain ⟨d, hd', dd⟩ := dpa_get' dp hy'
      have st := Stp.new (o := .tup [.int (i : Nat), y]) s'.st.i nT
      refine ⟨T, [.int (i : Nat), y], rfl, .inl (.inl upd_same), rfl, _, _, rfl, _, _, rfl, rfl, ?_⟩
      exact hs h1 i d g hd' q _ (upd h' T (.tup [.int (i : Nat), y])) _ (((x'.mono st.s).set j (show (I K (i : Int)).p (.int (i : Nat)) _ from Dq.int _)).set l (dp_ex st.s (dp_ex s'.kn dd))) (s'.go st) (((m'.go st).set (hj i g)).set (hl i g))
    · have e : i = xs.length := by omega
      subst e
      refine .inl ⟨⟨xs, hp, Nat.le_refl _⟩, ?_⟩
      rw [dpa_len dp] at q x' m'
      exact hd h1 g q σ' h' H' x' s' m'
end
end Z
namespace Z
open PySem L2
/-- a method's text and place -/
structure Dm (K : PySem.W.Frag) (m qual : Str) (st : Stmt) (ps : List Str) (f : Addr) : Prop where
  ex : ∃ fd, L2.Fun K m qual st f fd ∧ Binds K fd ps []
section
variable {P : Program} {w : World} {K : PySem.W.Frag} {mg : Str → Option Value} {base : Heap}
theorem en_start {α : Type _} {args : α → List Pr} {N ps : List Str} {a : α} {h : Hp} {vs : List V} (hn : ∀ a, (args a).length = ps.length) (q : Vs (args a) vs h) : En ((args a).map some ++ List.replicate (N.length - ps.length) none) (L2.start N vs) h := by
  have l1 : vs.length = ps.length := by rw [q.len, hn]
  have go : ∀ (Ps : List Pr) (vs : List V), Vs Ps vs h → ∀ (n : Nat), En (Ps.map some ++ List.replicate n none) (vs.map some ++ List.replicate n none) h := by
    intro Ps
    induction Ps with
    | nil =>
      intro vs q n
      cases q
      refine ⟨by simp, fun i P e => ?_⟩
      have e' : (List.replicate n (none : Option Pr))[i]? = some (some P) := e
      rw [List.getElem?_replicate] at e'
      split at e' <;> cases e'
    | cons P Ps ih =>
      intro vs q n
      cases q with
      | cons a q =>
        have z := ih _ q n
        refine ⟨by simpa using z.len, fun i R e => ?_⟩
        cases i with
        | zero =>
          have e' : P = R := by simpa using e
          subst e'
          exact ⟨_, rfl, a⟩
        | succ i =>
          obtain ⟨v, h1, h2⟩ := z.at_ i R (by simpa using e)
          exact ⟨v, by simpa using h1, h2⟩
  have st : L2.start N vs = vs.map some ++ List.replicate (N.length - ps.length) none := by
    unfold L2.start
    rw [l1]
  rw [st]
  exact go _ _ q _
theorem Dm.ok {sp : Sp} {m qual : Str} {st : Stmt} {ps N : List Str} {k : Nat} {f : Addr} (d : Dm K m qual st ps f) (S : FnScope N ps (defScope st)) (len : ∀ vs H Q E, sp vs H Q E → vs.length = ps.length)
    (hbody : ∀ (cdv : Value) (A : Around) (outer : List Env) (s : Shared) (H : Hp) (vs : List V) (Q : VK) (E : XK), Room k (A.deeper (PyProof.Rows.envOfC qual (defScope st) s.heap.objs.size f cdv)) → sp vs H Q E →
      ∃ t, PSs (cxOf CX0 P w K mg base N qual (defScope st) f cdv A outer s H E).nox (defBody st) t ∧ t { nx := fun _ H' => Q .non H', rt := Q } (L2.start N vs) H) : ∃ fd, FnOk P w K mg base CX0 (k + 1) f fd ps sp ∧ Binds K fd ps [] := by
  obtain ⟨fd, F, hb⟩ := d.ex
  exact ⟨fd, F.ok S len hbody, hb⟩
theorem Dm.sv {α : Type _} {args : α → List Pr} {pre : α → Prop} {res : α → Pr} {m qual : Str} {st : Stmt} {ps N : List Str} {k : Nat} {f : Addr} (d : Dm K m qual st ps f) (S : FnScope N ps (defScope st)) (hn : ∀ a, (args a).length = ps.length)
    (ht : ∀ (cdv : Value) (A : Around) (outer : List Env) (s : Shared) (H : Hp) (E : XK), Room k (A.deeper (PyProof.Rows.envOfC qual (defScope st) s.heap.objs.size f cdv)) → ∃ t : TS, PSs (cxOf CX0 P w K mg base N qual (defScope st) f cdv A outer s H E).nox (defBody st) t ∧
      ∀ (a : α) (b : Bs), pre a → ∀ (Q : VK), (∀ v h H, Stp b.h0 b.H0 h H → (res a).p v h → Q v H) → Nx b ((args a).map some ++ List.replicate (N.length - ps.length) none) none (t { nx := fun _ H' => Q .non H', rt := Q })) :
    ∃ fd, FnOk P w K mg base CX0 (k + 1) f fd ps (Sv args pre res) ∧ Binds K fd ps [] := by
  refine d.ok S (Sv.len hn) fun cdv A outer s H vs Q E hr h => ?_
  obtain ⟨t, ht, hb⟩ := ht cdv A outer s H E hr
  refine ⟨t, ht, ?_⟩
  obtain ⟨a, h, e, q, p, kk⟩ := h
  exact hb a ⟨h, H, h⟩ p Q (fun v h' H' st z => kk v h' H' st z) _ h H (en_start hn q) ⟨Stp.refl e, fun _ _ q => q⟩ trivial
/-- where a method stands in its class -/
structure Mt (K : PySem.W.Frag) (C : Addr) (m : Str) (f : Addr) : Prop where
  at_ : PySem.W.findIn K (.ref C) m = some (some (.ref f))
  fn : PySem.W.isFn K (.ref f) = true
  fi : PySem.W.fnIn K f = true
theorem Mt.mx {C : Addr} {m : Str} {f : Addr} {k : Nat} {ps : List Str} {sp : Sp} (t : Mt K C m f) (o : ∃ fd, FnOk P w K mg base CX0 k f fd ps sp ∧ Binds K fd ps []) : Mx P w K mg base k C m sp := by
  obtain ⟨fd, F, b⟩ := o
  exact ⟨f, t.at_, t.fn, t.fi, raw0 F b⟩
theorem gx_of {C p g : Addr} {m : Str} {k : Nat} {ps : List Str} {sp : Sp} (t : PropOf K C m p g) (o : ∃ fd, FnOk P w K mg base CX0 k g fd ps sp ∧ Binds K fd ps []) : Gx P w K mg base k C m sp := by
  obtain ⟨fd, F, b⟩ := o
  exact ⟨p, g, fd, ps, t, F, b⟩
theorem ix_of {C f : Addr} {x : Str} {k : Nat} {ps : List Str} {sp : Sp} (t : Mk K C f) (hm : mg x = some (.ref C)) (o : ∃ fd, FnOk P w K mg base CX0 k f fd ps sp ∧ Binds K fd ps []) : Ix P w K mg base k x C sp := by
  obtain ⟨fd, F, b⟩ := o
  exact ⟨f, t, hm, raw0 F b⟩
end
end Z
namespace Z
open PySem L2
/-- what is known of an own class with the one field f -/
structure CK (K : PySem.W.Frag) (C : Addr) (f : Str) : Prop where
  cl : Cls K C
  na : NoAttr K C f
  ha : PySem.W.findIn K (.ref C) "__class__" = some (some (.builtin "object.__class__"))
  hn : PySem.W.specialIn K (.builtin "object.__class__") "__get__" = some (some (.builtin "getset_descriptor.__get__"))
  htk : PySem.W.takesIn K (.builtin "object.__class__") = some true
  hm : PySem.W.mroIn K C (.type "object") = some true
  ne : PySem.W.findIn K (.ref C) "__ne__" = some (some (.builtin "object.__ne__"))
  ic : PySem.W.isClsIn K C = true
  ty : PySem.W.typeIn K (.ref C) = some (.type "type")
  st : PySem.W.subIn K (.type "tuple") (.ref C) = some false
section
variable {K : PySem.W.Frag} {C : Addr} {f : Str}
theorem CK.neK (c : CK K C f) : NeK K C := ⟨c.ne, c.hm⟩
theorem CK.nf (c : CK K C f) : PySem.W.notFirst K C (.type "tuple") = true := by
  unfold PySem.W.notFirst
  rw [c.st]
  simp
/-- isinstance of such an object, of a tuple -/
theorem fnp_isC (c : CK K C f) {F : Pr} : FnP (rIsi K) [Ob K C f F, Pr.is (.ref C)] (B K true) := fun vs h H q e Q k => by
  cases q with
  | cons a q =>
    cases q with
    | cons b q =>
      cases q
      have b' : _ = V.ref C := b
      subst b'
      obtain ⟨o, dx, u, rfl, ho, z⟩ := a
      refine ⟨_, _, .ref C, .ref C, true, rfl, .own C, .base (.ins (e _ _ ho) c.cl c.ha c.hn c.htk c.hm), ?_, k _ h H (Stp.refl e) (.bl true)⟩
      unfold PySem.W.kitOne
      rw [if_pos (by simp)]
theorem fnp_isT (c : CK K C f) {ds : List PyData} : FnP (rIsi K) [D K (.tuple ds), Pr.is (.ref C)] (B K false) := fun vs h H q e Q k => by
  cases q with
  | cons a q =>
    cases q with
    | cons b q =>
      cases q
      have b' : _ = V.ref C := b
      subst b'
      refine ⟨_, _, .type "tuple", .ref C, false, rfl, .own C, tyX_of (dp_ex e a) rfl, ?_, k _ h H (Stp.refl e) (.bl false)⟩
      unfold PySem.W.kitOne
      rw [if_neg (by simp)]
      show (if ((PySem.W.clsIn K C).isSome && PySem.W.typeIn K (.ref C) == some (.type "type")) = true then PySem.W.subIn K (.type "tuple") (.ref C) else none) = some false
      have i : (PySem.W.clsIn K C).isSome = true := c.ic
      rw [if_pos (by rw [i, c.ty] <;> rfl)]
      exact c.st
end
theorem t_cls {Γ : Ctx} {C : Addr} : T Γ (tC (.ref C)) (Pr.is (.ref C)) := t_c fun _ => rfl
theorem ints_can : ∀ ns : List Int, PyData.canLayAll0 (ns.map PyData.int) = true
  | [] => rfl
  | n :: ns => by
    show (PyData.canLay0 (.int n) && PyData.canLayAll0 (ns.map PyData.int)) = true
    rw [ints_can ns]; rfl
theorem ints_depth : ∀ ns : List Int, PyData.depthAll (ns.map PyData.int) = 0
  | [] => rfl
  | n :: ns => by
    show max (PyData.depth (.int n)) (PyData.depthAll (ns.map PyData.int)) = 0
    rw [ints_depth ns]; rfl
theorem shaped_dT (ns : List Int) : SeqAt.shaped (dT ns) = true := by
  show (PyData.canLayAll0 (ns.map PyData.int) && decide (PyData.depthAll (ns.map PyData.int) + 1 ≤ 64)) = true
  rw [ints_can, ints_depth]; rfl
theorem shaped_dI (ns : List Int) : SeqAt.shaped (dI ns) = true := by
  show (PyData.canLayAll0 (ns.map PyData.int) && decide (PyData.depthAll (ns.map PyData.int) + 1 ≤ 64)) = true
  rw [ints_can, ints_depth]; rfl
theorem eqv_ints : ∀ ns ms : List Int, PyData.eqvAll (ns.map PyData.int) (ms.map PyData.int) = decide (ns = ms)
  | [], [] => rfl
  | [], _ :: _ => rfl
  | _ :: _, [] => rfl
  | n :: ns, m :: ms => by
    show (PyData.eqv (.int n) (.int m) && PyData.eqvAll (ns.map PyData.int) (ms.map PyData.int)) = _
    rw [eqv_ints ns ms]
    show ((n == m) && decide (ns = ms)) = _
    by_cases h : n = m
    · subst h; simp
    · have : (n == m) = false := beq_eq_false_iff_ne.mpr h
      rw [this]; simp [h]
theorem eqv_dT (ns ms : List Int) : PyData.eqv (dT ns) (dT ms) = decide (ns = ms) := eqv_ints ns ms
theorem eqv_dI (ns ms : List Int) : PyData.eqv (dI ns) (dI ms) = decide (ns = ms) := eqv_ints ns ms
end Z

namespace Z
open PySem L2
/-! ### the law's source of numbers: a list that its own def changes; seen from outside it is one thing that stays -/
def okD (ns : List Int) : Prop := ∃ s x r, ns = s :: x :: r ∧ (0 ≤ s ∧ s < 2147483647) ∧ 0 ≤ x ∧ (∀ y ∈ r, 0 ≤ y) ∧ r.length ≤ 100
def DrawO (o : Obj) : Prop := ∃ (ns : List Int) (its : List Value) (n : Nat), o = { cls := .type "list", data := .seq its.toArray n } ∧ Vals (ns.map V.int) its ∧ okD ns
def DrawX (d : Addr) : HO := .ext fun h => ∃ o, h.get? d = some o ∧ DrawO o
def Drw : Pr := ⟨fun v h => ∃ d, v = .ref d ∧ h d = some (DrawX d), fun e ⟨d, a, b⟩ => ⟨d, a, e _ _ b⟩⟩
theorem okD_len {ns : List Int} (k : okD ns) : ns.length ≤ 1000 := by
  obtain ⟨s, x, r, rfl, _, _, _, h⟩ := k
  rw [List.length_cons, List.length_cons]; omega
/-- a list of the script's numbers -/
def Scr (K : PySem.W.Frag) (ns : List Int) : Pr := ⟨fun v h => ∃ a, v = .ref a ∧ SqL K h a (ns.map V.int), fun e ⟨a, x, y⟩ => ⟨a, x, sqL_ex e y⟩⟩
theorem isL_scr {K : PySem.W.Frag} {ns : List Int} : IsL K (Scr K ns) (ns.map PyData.int) := fun v h ⟨a, e, s⟩ => ⟨a, _, e, s, ints_dpa ns⟩
section
variable {P : Program} {w : World} {K : PySem.W.Frag} {mg : Str → Option Value} {base : Heap} {f : Addr} {k : Nat}
def spBelowL : Sp := fun vs H Q _ => ∃ (d : Addr) (ns : List Int) (n : Int), vs = [.ref d, .int n] ∧ H d = some (.lst (ns.map V.int)) ∧ okD ns ∧ (0 < n ∧ n < 1000000000) ∧
  ∀ (r : Int) (ms : List Int), 0 ≤ r → r < n → okD ms → Q (.int r) (upd H d (.lst (ms.map V.int)))
/-- a number from 0 to n - 1 -/
def Bel (K : PySem.W.Frag) (n : Int) : Pr := Pr.some fun r : { r : Int // 0 ≤ r ∧ r < n } => I K r.1
abbrev spBelow (K : PySem.W.Frag) : Sp := Sv (fun n : Int => [Drw, I K n]) (fun n => 0 < n ∧ n < 1000000000) (fun n => Bel K n)
theorem ext_lst {P : Program} {w : World} {H : Hp} {h : Heap} {d : Addr} {o u : HO} (ok : HOk P w H h) (ho : H d = some o) (n1 : ∀ c, o ≠ .own c) (n2 : ∀ xs, o ≠ .tup xs) (new : ∀ b, H b ≠ some (.own d) → True) (hu : ObjOk P w (upd H d u) h d u) : HOk P w (upd H d u) h := fun b o' e => by
  by_cases c : b = d
  · subst c
    rw [upd_same] at e
    cases e
    exact hu
  · rw [upd_ne c] at e
    refine (ok b o' e).stay (fun _ _ _ q => q) (fun a q => ?_) fun a xs q => ?_
    · by_cases ca : a = d
      · subst ca; rw [ho] at q; cases q; exact absurd rfl (n1 _)
      · rw [upd_ne ca]; exact q
    · by_cases ca : a = d
      · subst ca; rw [ho] at q; cases q; exact absurd rfl (n2 _)
      · rw [upd_ne ca]; exact q
theorem draw_obj {H : Hp} {h : Heap} {d : Addr} {o : Obj} (e : h.get? d = some o) (q : DrawO o) : ObjOk P w H h d (DrawX d) :=
  ⟨⟨o, e, q⟩, ⟨o, e⟩, fun h1 h2 ⟨o1, e1, q1⟩ k => ⟨o1, k _ e1, q1⟩⟩
theorem below_ext (F : FnR P w K mg base CX0 k f spBelowL) : FnR P w K mg base CX0 k f (spBelow K) := by
  intro A outer s H us vs Q E hr e0 r hs
  obtain ⟨n, h, e, q, p, kk⟩ := hs
  cases q with
  | cons q1 q =>
    cases q with
    | cons q2 q =>
      cases q
      obtain ⟨d, rfl, hd⟩ := q1
      rw [dp_int q2] at r
      have hD : H d = some (DrawX d) := e _ _ hd
      obtain ⟨⟨o, ho, ns, its, m, rfl, rv, ok⟩, _⟩ := (show ObjOk P w H s.heap d (DrawX d) from e0.hok d _ hD)
      have lw : ObjOk P w (upd H d (.lst (ns.map V.int))) s.heap d (.lst (ns.map V.int)) := ⟨by rw [List.length_map]; exact Nat.le_of_lt (small1000 (okD_len ok)), its, m, rv, ho⟩
      have hok1 : HOk P w (upd H d (.lst (ns.map V.int))) s.heap := ext_lst e0.hok hD (fun c z => by cases z) (fun c z => by cases z) (fun _ _ => trivial) lw
      have nb : ∀ b, H b = none → b ≠ d := fun b z c => by subst c; rw [hD] at z; cases z
      have e1 : Env0 P w K mg base A outer s (upd H d (.lst (ns.map V.int))) := ⟨e0.frames, e0.mod, fun b o z => ⟨(e0.bs b o z).1, by rw [upd_ne (nb b (e0.bs b o z).2)]; exact (e0.bs b o z).2⟩, e0.bsz, e0.funs, fun b z => by rw [upd_ne (nb b (e0.frf b z))]; exact e0.frf b z, hok1, e0.bare⟩
      refine codeAny_mono (F A outer s (upd H d (.lst (ns.map V.int))) us [.ref d, .int n] (fun v H' => ∃ r ms, v = .int r ∧ 0 ≤ r ∧ r < n ∧ okD ms ∧ H' = upd H d (.lst (ms.map V.int))) E hr e1 r ⟨d, ns, n, rfl, upd_same, ok, p, fun r ms r0 r1 om => ⟨r, ms, rfl, r0, r1, om, upd_upd⟩⟩) fun res s' hq => ?_
      cases res with
      | error er => exact False.elim (show False from hq)
      | ok fl =>
        cases fl with
        | next => exact False.elim hq
        | brk => exact False.elim hq
        | cont => exact False.elim hq
        | ret u =>
          obtain ⟨v, H', os, bare, un, hok', rel, r, ms, rfl, r0, r1, om, rfl⟩ := hq
          have hd' : upd H d (.lst (ms.map V.int)) d = some (.lst (ms.map V.int)) := upd_same
          obtain ⟨_, its', m', rv', ho'⟩ := (show ObjOk P w _ s'.heap d (.lst (ms.map V.int)) from hok' d _ hd')
          have back : upd (upd H d (.lst (ms.map V.int))) d (DrawX d) = H := by
            rw [upd_upd]
            funext b
            by_cases c : b = d
            · subst c; rw [upd_same, hD]
            · rw [upd_ne c]
          have hokH : HOk P w H s'.heap := by
            have z := ext_lst (u := DrawX d) hok' hd' (fun c z => by cases z) (fun c z => by cases z) (fun _ _ => trivial) (draw_obj ho' ⟨ms, its', m', rfl, rv', om⟩)
            rw [back] at z
            exact z
          refine ⟨.int r, H, os, bare, ⟨fun b o z n hb hx => un.keep b o z (by rw [upd_ne (nb b n)]; exact n) hb hx, fun b o z n hb hx => un.slot b o z (by rw [upd_ne (nb b n)]; exact n) hb hx, fun b o z n _ => n, fun b o z hx => un.there b o z hx, fun _ _ q => q, fun _ _ _ q => q, fun _ ps q => ⟨#[], by rw [q]; simp⟩⟩, hokH, rel, ?_⟩
          exact kk (.int r) h H (Stp.refl e) ⟨⟨r, r0, r1⟩, .int r⟩
/-- the source is made -/
def spRandL (K : PySem.W.Frag) : Sp := fun vs H Q _ => ∃ (ns : List Int) (n : Int) (h : Hp), Ex h H ∧ Vs [Scr K ns, I K n] vs h ∧ (0 ≤ n ∧ n < 1000000) ∧ ns.length ≤ 63 ∧
  ∀ p H' ms, H p = none → Ex H H' → H' p = some (.lst (ms.map V.int)) → okD ms → Q (.ref p) H'
abbrev spRand (K : PySem.W.Frag) : Sp := Sv (fun a : List Int × Int => [Scr K a.1, I K a.2]) (fun a => (0 ≤ a.2 ∧ a.2 < 1000000) ∧ a.1.length ≤ 63) (fun _ => Drw)
theorem rand_ext (F : FnR P w K mg base CX0 k f (spRandL K)) : FnR P w K mg base CX0 k f (spRand K) := by
  intro A outer s H us vs Q E hr e0 r hs
  obtain ⟨⟨ns, n⟩, h, e, q, ⟨p, hl⟩, kk⟩ := hs
  refine codeAny_mono (F A outer s H us vs (fun v H' => ∃ p ms, v = .ref p ∧ H p = none ∧ Ex H H' ∧ H' p = some (.lst (ms.map V.int)) ∧ okD ms) E hr e0 r ⟨ns, n, h, e, q, p, hl, fun p H' ms a b c d => ⟨p, ms, rfl, a, b, c, d⟩⟩) fun res s' hq => ?_
  cases res with
  | error er => exact False.elim (show False from hq)
  | ok fl =>
    cases fl with
    | next => exact False.elim hq
    | brk => exact False.elim hq
    | cont => exact False.elim hq
    | ret u =>
      obtain ⟨v, H', os, bare, un, hok', rel, p, ms, rfl, np, ex, hp, om⟩ := hq
      obtain ⟨_, its', m', rv', ho'⟩ := (show ObjOk P w _ s'.heap p (.lst (ms.map V.int)) from hok' p _ hp)
      have hok2 : HOk P w (upd H' p (DrawX p)) s'.heap := ext_lst hok' hp (fun c z => by cases z) (fun c z => by cases z) (fun _ _ => trivial) (draw_obj ho' ⟨ms, its', m', rfl, rv', om⟩)
      have ne : ∀ b o, H b = some o → b ≠ p := fun b o z => ne_of_none z np
      have pfree : ∀ b o, s.heap.get? b = some o → b ∉ ([] : List Addr) → H b = none → b ≠ p := fun b o z hx n c => by
        subst c
        have := un.free b o z n hx
        rw [hp] at this
        cases this
      refine ⟨.ref p, upd H' p (DrawX p), os, bare, ⟨un.keep, un.slot, fun b o z n hx => by rw [upd_ne (pfree b o z hx n)]; exact un.free b o z n hx, un.there, fun b xs q => by rw [upd_ne (ne b _ q)]; exact un.tups b xs q, fun b o xs q => by rw [upd_ne (ne b _ q)]; exact un.frzs b o xs q, fun b ps q => by rw [upd_ne (ne b _ q)]; exact un.tbls b ps q⟩, hok2, rel, ?_⟩
      have nh : h p = none := by
        cases z : h p with
        | none => rfl
        | some o => rw [e p o z] at np; cases np
      refine kk (.ref p) (upd h p (DrawX p)) _ ⟨fun b o z => ?_, fun b o z => ?_, fun b o z => ?_, fun b o z n => ?_⟩ ⟨p, rfl, upd_same⟩
      · rw [upd_ne (ne b o z)]; exact ex b o z
      · rw [upd_ne (ne_of_none z nh)]; exact z
      · by_cases c : b = p
        · subst c; rw [upd_same] at z ⊢; exact z
        · rw [upd_ne c] at z ⊢; exact ex b o (e b o z)
      · rw [upd_ne (ne b o z)]; exact n
end
end Z
namespace Z
open PySem L2
theorem n_retR {b : Bs} {Γ : Ctx} {μ : Mo} {te : TE} {Dd : Ends} (k : ∀ σ h H, En Γ σ h → b.Ok h H → te σ H Dd.rt) : Nx b Γ μ (tRet te Dd) := fun σ h H x s _ => k σ h H x s
theorem raw_op {Γ : Ctx} {r : R2} {ta tb : TE} {A C : Pr} {σ : L2.St} {h H : Hp} {Q : VK} (a : T Γ ta A) (c : T Γ tb C) (x : En Γ σ h) (e : Ex h H) (k : ∀ u v h2 H2, Stp h H h2 H2 → A.p u h2 → C.p v h2 → r u v H2 Q) : tOp r ta tb σ H Q :=
  a σ h H x e _ fun u h1 H1 s1 q1 => c σ h1 H1 (x.mono s1.s) s1.i _ fun v h2 H2 s2 q2 => k u v h2 H2 (s1.trans s2) (A.mono s2.s q1) q2
end Z

namespace Z
open PySem L2
theorem Stp.out {h H : Hp} {p : Addr} {o : HO} (x : Ex h H) (n : H p = none) : Stp h H h (upd H p o) :=
  ⟨fun b u q => by rw [upd_ne (ne_of_none q n)]; exact q, fun _ _ q => q, fun b u q => by rw [upd_ne (ne_of_none (x b u q) n)]; exact x b u q, fun _ _ _ z => z⟩
theorem En.blur {Γ : Ctx} {σ : St} {h : Hp} {v : Option V} (x : En Γ σ h) (i : Nat) : En (Γ.set i none) (σ.set i v) h := by
  refine ⟨by rw [List.length_set, List.length_set]; exact x.len, fun j R e => ?_⟩
  by_cases c : i = j
  · subst c
    have hl : i < Γ.length := by
      have := (List.getElem?_eq_some_iff.mp e).1
      rw [List.length_set] at this; exact this
    rw [List.getElem?_set_self hl] at e
    cases e
  · rw [List.getElem?_set_ne c] at e
    obtain ⟨u, a, b⟩ := x.at_ j R e
    exact ⟨u, by rw [List.getElem?_set_ne c]; exact a, b⟩
section
variable {K : PySem.W.Frag} {b : Bs} {Γ : Ctx} {ta tc td te : TE} {tr : TA} {A C E P R : Pr} {Dd : Ends} {tz : TS}
/-- a, x, c, d = .., [], .., .. : x is to be changed -/
theorem qm_new4 {i j k l : Nat} (a : T Γ ta A) (c : T Γ tc C) (d : T Γ td E) (kk : Nx b ((((Γ.set i (some A)).set j none).set k (some C)).set l (some E)) (some (j, Ct.lst [])) (tz Dd)) (hl : j < Γ.length := by decide) (hk : k ≠ j := by decide) (hl2 : l ≠ j := by decide) :
    Nx b Γ none (tSeq (tAsg (tTup (tCons ta (tCons (tLst tNil) (tCons tc (tCons td tNil))))) (gTup K 4 (gCons (gName i) (gCons (gName j) (gCons (gName k) (gCons (gName l) gNil)))))) tz Dd) := fun σ h H x s m => a σ h H x s.st.i _ fun v1 h1 H1 s1 q1 => by
  refine ⟨by simp [sizeLine], fun p np => ?_⟩
  have o1 := Stp.out (o := .lst []) s1.i np
  have n1 : h1 p = none := by
    cases z : h1 p with
    | none => rfl
    | some o => rw [s1.i p o z] at np; cases np
  refine c σ h1 _ (x.mono s1.s) o1.i _ fun v3 h2 H2 s2 q3 => ?_
  have n2 := s2.f p _ upd_same n1
  have p2 := s2.e p _ upd_same
  refine d σ h2 H2 (x.mono (s1.trans (o1.trans s2)).s) s2.i _ fun v4 h3 H3 s3 q4 => ?_
  have n3 := s3.f p _ p2 n2
  have p3 := s3.e p _ p2
  refine ⟨by simp [sizeLine], fun t nt => ?_⟩
  have o3 := Stp.out (o := .tup [v1, .ref p, v3, v4]) s3.i nt
  have st := (s1.trans (o1.trans (s2.trans (s3.trans o3))))
  have pt : p ≠ t := fun z => by subst z; rw [p3] at nt; cases nt
  refine ⟨t, _, rfl, .inl (.inl upd_same), rfl, _, _, rfl, _, _, rfl, _, _, rfl, _, _, rfl, rfl, ?_⟩
  have n0 : b.H0 p = none := by
    cases z : b.H0 p with
    | none => rfl
    | some o => rw [(s.st.trans s1).e p o z] at np; cases np
  refine kk _ h3 _ (((((x.mono st.s).set i (A.mono (s2.trans s3).s q1)).blur j).set k (C.mono s3.s q3)).set l q4) (s.go st) ⟨p, .lst [], ?_, n3, n0, by rw [upd_ne pt]; exact p3, [], rfl, .nil⟩
  rw [List.getElem?_set_ne hl2, List.getElem?_set_ne hk, List.getElem?_set_self (by rw [List.length_set, x.len]; exact hl)]
theorem t_lI {ns : List Int} (a : T Γ te (L K (ns.map fun n => I K n))) : T Γ te (D K (dI ns)) := t_weak a fun v h q => l_data (by rw [List.map_map]; exact q)
end
end Z
namespace Z
open PySem L2
section
variable {K : PySem.W.Frag} {b : Bs} {Γ : Ctx} {ta tc td te : TE} {tr : TA} {A C E P R : Pr} {Dd : Ends} {tz : TS}
theorem opp_inl {r r' : R2} (h : OpP r A C P) : OpP (fun x y H Q => r x y H Q ∨ r' x y H Q) A C P := fun x y h0 H a c e Q k => .inl (h x y h0 H a c e Q k)
theorem opp_inr {r r' : R2} (h : OpP r' A C P) : OpP (fun x y H Q => r x y H Q ∨ r' x y H Q) A C P := fun x y h0 H a c e Q k => .inr (h x y h0 H a c e Q k)
theorem opp_ixSL {ds : List PyData} {i : Int} {d : PyData} (q : atI ds i = some d) : OpP (rIx K) (D K (.list ds)) (I K i) (D K d) := opp_inl (opp_ixL q)
theorem opp_ixST {ds : List PyData} {i : Int} {d : PyData} (q : atI ds i = some d) : OpP (rIx K) (D K (.tuple ds)) (I K i) (D K d) := opp_inr (opp_inl (opp_ixT q))
theorem opp_isF {d : PyData} (hd : ∀ h v, Dq K h v d → v ≠ .non) : OpP (fun x y H Q => y = .non ∧ Q (.bl (decide (x = .non))) H) (D K d) (D K .none) (B K false) := fun x y h H a c e Q k => by
  refine ⟨dp_non c, ?_⟩
  rw [decide_eq_false (hd _ _ a)]
  exact k _ h H (Stp.refl e) (.bl _)
theorem opp_neB {a c : Bool} : OpP rNe (B K a) (B K c) (B K (!decide (a = c))) := fun x y h H p q z Q k => by
  rw [dp_bl p, dp_bl q]
  refine ⟨rfl, ?_⟩
  have e : decide (V.bl a = V.bl c) = decide (a = c) := by cases a <;> cases c <;> simp
  rw [e]
  exact k _ h H (Stp.refl z) (.bl _)
theorem opp_eqB {a c : Bool} : OpP rEq (B K a) (B K c) (B K (decide (a = c))) := fun x y h H p q z Q k => by
  rw [dp_bl p, dp_bl q]
  refine ⟨rfl, ?_⟩
  have e : decide (V.bl a = V.bl c) = decide (a = c) := by cases a <;> cases c <;> simp
  rw [e]
  exact k _ h H (Stp.refl z) (.bl _)
theorem fnp_all {bs : List Bool} : FnP (rAll K) [D K (.list (bs.map PyData.bool))] (B K (bs.all id)) := fun vs h H q e Q k => by
  cases q with
  | cons a q =>
    cases q
    obtain ⟨p, xs, rfl, s, z⟩ := dp_lst a
    have go : ∀ (bs : List Bool) (xs : List V), DqAll K h xs (bs.map PyData.bool) → xs = bs.map V.bl := by
      intro bs
      induction bs with
      | nil => intro xs q; cases q; rfl
      | cons b bs ih =>
        intro xs q
        cases q with
        | cons a q => rw [dp_bl a, ih _ q]; rfl
    rw [go bs xs z] at s
    exact ⟨p, bs, rfl, .inl (.inl (e _ _ s)), k _ h H (Stp.refl e) (.bl _)⟩
theorem fx_false {P : Program} {w : World} {mg : Str → Option Value} {base : Heap} {x : Str} {st : Stmt} {ps : List Str} {sp : Sp} (d : Dn K mg x st ps) (hf : ∀ vs H Q E, ¬ sp vs H Q E) : Fx P w K mg base 0 x sp := by
  obtain ⟨f, fd, F, hm, hb⟩ := d.ex
  exact ⟨f, hm, F.kp, fun A outer s H us vs Q E hr e0 r h => absurd h (hf _ _ _ _)⟩
/-- whole numbers in lists and tuples, less than n deep -/
inductive Eqd : Nat → PyData → Prop
  | int {n : Nat} (i : Int) : Eqd (n + 1) (.int i)
  | lst {n : Nat} {ds : List PyData} : ds.length ≤ 50000 → (∀ (i : Nat) d, ds[i]? = some d → Eqd n d) → Eqd (n + 1) (.list ds)
  | tup {n : Nat} {ds : List PyData} : ds.length ≤ 50000 → (∀ (i : Nat) d, ds[i]? = some d → Eqd n d) → Eqd (n + 1) (.tuple ds)
theorem eqd_ints {n : Nat} {ns : List Int} : ∀ (i : Nat) d, (ns.map PyData.int)[i]? = some d → Eqd (n + 1) d := fun i d h => by
  rw [List.getElem?_map] at h
  cases e : ns[i]? with
  | none => rw [e] at h; cases h
  | some z =>
    rw [e] at h
    rw [← Option.some.inj h]
    exact .int z
abbrev spEqu (K : PySem.W.Frag) (n : Nat) : Sp := Sv (fun d : PyData => [D K d, D K d]) (fun d => Eqd n d) (fun _ => B K true)
theorem all_rep : ∀ n, (List.replicate n true).all id = true
  | 0 => rfl
  | n + 1 => by rw [List.replicate_succ]; exact all_rep n
theorem atI_get {α : Type} {xs : List α} {i : Nat} {x : α} (h : xs[i]? = some x) : atI xs (i : Int) = some x := by
  unfold atI
  rw [Evl.ixN_nat (List.getElem?_eq_some_iff.mp h).1]
  exact h
end
end Z

namespace Z
open PySem L2
section
variable {P : Program} {w : World} {K : PySem.W.Frag} {mg : Str → Option Value} {base : Heap}
theorem fun_sv {α : Type _} {args : α → List Pr} {pre : α → Prop} {res : α → Pr} {m qual : Str} {st : Stmt} {ps N : List Str} {k : Nat} {f : Addr} {fd : FuncData} (F : L2.Fun K m qual st f fd) (S : FnScope N ps (defScope st)) (hn : ∀ a, (args a).length = ps.length)
    (ht : ∀ (cdv : Value) (A : Around) (outer : List Env) (s : Shared) (H : Hp) (E : XK), Room k (A.deeper (PyProof.Rows.envOfC qual (defScope st) s.heap.objs.size f cdv)) → ∃ t : TS, PSs (cxOf CX0 P w K mg base N qual (defScope st) f cdv A outer s H E).nox (defBody st) t ∧
      ∀ (a : α) (b : Bs), pre a → ∀ (Q : VK), (∀ v h H, Stp b.h0 b.H0 h H → (res a).p v h → Q v H) → Nx b ((args a).map some ++ List.replicate (N.length - ps.length) none) none (t { nx := fun _ H' => Q .non H', rt := Q })) :
    FnOk P w K mg base CX0 (k + 1) f fd ps (Sv args pre res) := by
  refine F.ok S (Sv.len hn) fun cdv A outer s H vs Q E hr h => ?_
  obtain ⟨t, ht, hb⟩ := ht cdv A outer s H E hr
  refine ⟨t, ht, ?_⟩
  obtain ⟨a, h, e, q, p, kk⟩ := h
  exact hb a ⟨h, H, h⟩ p Q (fun v h' H' st z => kk v h' H' st z) _ h H (en_start hn q) ⟨Stp.refl e, fun _ _ q => q⟩ trivial
theorem walk_sv {l : PySem.W.OpenLaw} {k : Nat} {q : Program} {loose : List Str} {XP : (Str → Option Value) → Heap → Prop} {YP : World → Heap → Prop} {d : DefRec} {K : Params → PySem.W.Frag} (hn : l.most = some 63) (hdf : d.params.defaults = []) (hr : Room k callerA)
    (hY : ∀ (w : World) (h : Heap), YP w h → (K w.params).In h)
    (F : ∀ (w : World) (mg : Str → Option Value) (fa : Addr) (h : Heap), (K w.params).In h → h.Ns mainGlobals mg → mg d.name = some (.ref fa) →
      ∃ fd : FuncData, (∀ (s : Shared) (u : Value), BindsTo s fd ⟨[u], []⟩ [("_law_script", u)]) ∧ ∀ base : Heap, (K w.params).In base → base.Ns mainGlobals mg → FnOk l.prog w (K w.params) mg base CX0 k fa fd ["_law_script"] (Sv (fun ns : List Int => [Scr (K w.params) ns]) (fun ns => ns.length ≤ 63) (fun _ => B (K w.params) true))) :
    PySem.W.WalkO q loose XP YP l.row.toRowW d [] (fun f vs => PySem.call f vs) :=
  L2.walk_of (n := 63) (k := k) (x := "_law_script") (CX := fun _ => CX0) (sp := fun w => Sv (fun ns : List Int => [Scr (K w.params) ns]) (fun ns => ns.length ≤ 63) (fun _ => B (K w.params) true)) hn (by decide) hdf hr hY F
    (fun _ H a ns hl _ hS => ⟨ns, H, fun _ _ e => e, .cons ⟨a, rfl, hS⟩ .nil, hl, fun v h' H' s q => dp_bl q⟩) fun _ _ _ _ _ z => z
end
end Z
namespace Z
open PySem L2
section
variable {K : PySem.W.Frag} {b : Bs} {Γ : Ctx} {ta tc td te : TE} {tr : TA} {t : TT} {A C E P R : Pr} {Dd : Ends} {tz : TS}
/-- [te for x in range(lo, hi) if t] -/
theorem t_lcR2 {j : Nat} {lo hi : Int} {φ : Nat → Bool → Prop} (G : Nat → List Pr → Prop) (a : TAs Γ tr [I K lo, I K hi]) (hn : -1000000 ≤ lo ∧ hi ≤ 1000000 ∧ lo ≤ 1000000 ∧ -1000000 ≤ hi ∧ hi - lo ≤ 50000) (g0 : G 0 []) (hz : ∀ i Ps, G i Ps → Ps.length ≤ i)
    (ht : ∀ i : Nat, (i : Int) < hi - lo → TB ((wpΓ Γ [j]).set j (some (I K (lo + (i : Int))))) t (φ i))
    (hy : ∀ i : Nat, (i : Int) < hi - lo → φ i true → ∀ Ps, G i Ps → ∃ (α : Type) (f : α → Pr), T ((wpΓ Γ [j]).set j (some (I K (lo + (i : Int))))) te (Pr.some f) ∧ ∀ a, G (i + 1) (Ps ++ [f a]))
    (hno : ∀ i : Nat, (i : Int) < hi - lo → φ i false → ∀ Ps, G i Ps → G (i + 1) Ps) : T Γ (tLc (iRng2 tr) (gName j) t te [j]) (Pr.some fun Ps : { Ps // G (hi - lo).toNat Ps } => L K Ps.1) := fun σ h H x e Q k => a σ h H x e _ fun vs h1 H1 s1 q => by
  cases q with
  | cons a1 q =>
    cases q with
    | cons a2 q =>
      cases q
      rw [dp_int a1, dp_int a2]
      refine ⟨lo, hi, rfl, ⟨by omega, by omega, by omega, by omega⟩, fun Dl hD => ?_⟩
      refine lc_range (lo := lo) (n := (hi - lo).toNat) (Lw h1 H1 G Dl) (lw_start s1.i hD g0) (fun i H' hi' p => ?_) (fun H' p => ?_)
      · exact ⟨wipe1, lc_turn p hD (fun Ps g => by have := hz i Ps g; omega) (fun h2 e2 => ((x.mono s1.s).mono e2).wp [j] |>.set j (show (I K (lo + (i : Int))).p (.int (lo + (i : Int))) _ from Dq.int _)) (ht i (by omega)) (hy i (by omega)) (hno i (by omega))⟩
      · obtain ⟨h', Ps, g, st, q⟩ := lw_end (K := K) p hD s1.i
        exact k _ h' H' (s1.trans st) ⟨⟨Ps, g⟩, q⟩
theorem fnp_intB {c : Bool} : FnP (fun xs H Q => (∃ i, xs = [.int i] ∧ Q (.int i) H) ∨ ∃ k, xs = [.bl k] ∧ Q (.int (if k = true then 1 else 0)) H) [B K c] (I K (if c = true then 1 else 0)) := fun vs h H q e Q k => by
  cases q with
  | cons a q =>
    cases q
    rw [dp_bl a]
    exact .inr ⟨c, rfl, k _ h H (Stp.refl e) (.int _)⟩
/-- lists of lists of whole numbers -/
abbrev dII (rs : List (List Int)) : PyData := .list (rs.map fun r => dI r)
theorem shaped_nil : SeqAt.shaped (.list []) = true := by decide
theorem t_eqP {P' : Pr} (a : T Γ te P) (e : P = P') : T Γ te P' := e ▸ a
end
end Z

namespace Z
open PySem L2
section
variable {K : PySem.W.Frag} {b : Bs} {Γ Γ' : Ctx} {μ : Mo} {te ta tb : TE} {t : TT} {P R : Pr} {Dd : Ends} {tu tw tz : TS} {ff : St → Hp → Prop} {rr : VK} {bb cc : St → Hp → Prop}
/-- for x in a list of data; what was known before stays known -/
theorem n_forLk {γ : Type _} {A : Pr} {tl : TE} {j : Nat} {ds : List PyData} (G : Nat → γ → Prop) (Γi : Nat → γ → Ctx) (μi : Nat → γ → Mo) (g0 : γ) (hA : IsL K A ds) (a : T Γ tl A) (q0 : G 0 g0) (l0 : Le Γ (Γi 0 g0))
    (hs : ∀ (hb : Hp), Ex b.hb hb → ∀ (i : Nat) (d : PyData) (g : γ), ds[i]? = some d → G i g → Nx ⟨b.h0, b.H0, hb⟩ ((Γi i g).set j (some (D K d))) (μi i g) (tu ⟨Pv ⟨b.h0, b.H0, hb⟩ G Γi μi (i + 1), rr, ff, Pv ⟨b.h0, b.H0, hb⟩ G Γi μi (i + 1)⟩))
    (hd : ∀ (hb : Hp), Ex b.hb hb → ∀ g, G ds.length g → Nx ⟨b.h0, b.H0, hb⟩ (Γi ds.length g) (μi ds.length g) ff) (hm : μ = μi 0 g0 := by rfl) (hj : ∀ i g, mok (μi i g) j = true := by intros; rfl) : Nx b Γ μ (tFor (iList K tl) (gName j) tu ⟨ff, rr, bb, cc⟩) := fun σ h H x s m => a σ h H x s.st.i _ fun v h1 H1 s1 q => by
  obtain ⟨p, xs, rfl, sq, dp⟩ := hA _ _ q
  subst hm
  have muI : ∀ {μ : Mo} {σ : St} {h H : Hp}, Mu b μ σ h H → Mu ⟨b.h0, b.H0, h1⟩ μ σ h H := fun {μ σ h H} m => by
    cases μ with
    | none => trivial
    | some p =>
      obtain ⟨l, o, m⟩ := m
      exact ⟨l, o, m.at_, m.nh, m.n0, m.oH, m.ct⟩
  refine ⟨p, rfl, ⟨xs, sqL_ex s1.i sq⟩, for_list (K := K) (a := p) (xs := xs) (Pv ⟨b.h0, b.H0, h1⟩ G Γi μi) ⟨g0, h1, q0, (x.mono s1.s).le l0, ⟨(s.go s1).st, fun _ _ q => q⟩, muI (m.go s1)⟩ (fun i σ' H' hi p => ?_) (fun i y σ' H' hi p => ?_) (fun σ' H' p => ?_)⟩
  · obtain ⟨g, h', q, x', s', m'⟩ := p
    exact sqL_ex s'.st.i (sqL_ex s'.kn sq)
  · obtain ⟨g, h', q, x', s', m'⟩ := p
    obtain ⟨d, hd', dd⟩ := dpa_get' dp hi
    exact hs h1 (s.go s1).kn i d g hd' q _ h' H' (x'.set j (dp_ex s'.kn dd)) s' (m'.set (hj i g))
  · obtain ⟨g, h', q, x', s', m'⟩ := p
    rw [dpa_len dp] at q x' m'
    exact hd h1 (s.go s1).kn g q σ' h' H' x' s' m'

theorem Mu.reb {b b' : Bs} {μ : Mo} {σ : St} {h H : Hp} (m : Mu b μ σ h H) (e : b.H0 = b'.H0) : Mu b' μ σ h H := by
  cases μ with
  | none => trivial
  | some p =>
    obtain ⟨l, o, m⟩ := m
    exact ⟨l, o, m.at_, m.nh, by rw [← e]; exact m.n0, m.oH, m.ct⟩
/-- back to what was known before -/
theorem n_back {hb : Hp} {F : St → Hp → Prop} (hk : Ex b.hb hb) (k : Nx b Γ μ F) : Nx ⟨b.h0, b.H0, hb⟩ Γ μ F := fun σ h H x s m => k σ h H x ⟨s.st, fun a o q => s.kn a o (hk a o q)⟩ (m.reb rfl)
end
end Z

namespace Z
open PySem L2
/-! ### tuples gone over, pairs, zip -/
/-- what is read as a tuple of data -/
def IsT (K : PySem.W.Frag) (A : Pr) (ds : List PyData) : Prop := ∀ v h, A.p v h → ∃ a xs, v = .ref a ∧ SqT K h a xs ∧ DqAll K h xs ds
theorem isT_D {K : PySem.W.Frag} {ds : List PyData} : IsT K (D K (.tuple ds)) ds := fun v h q => dp_tup q
theorem pr_get {prs : List (PyData × PyData)} {i : Nat} {d : PyData} (h : (prs.map fun p => PyData.tuple [p.1, p.2])[i]? = some d) : ∃ p, prs[i]? = some p ∧ d = .tuple [p.1, p.2] := by
  rw [List.getElem?_map] at h
  cases e : prs[i]? with
  | none => rw [e] at h; cases h
  | some p => rw [e] at h; exact ⟨p, rfl, (Option.some.inj h).symm⟩
theorem dp_pair {K : PySem.W.Frag} {h : Hp} {v : V} {d e : PyData} (q : Dq K h v (.tuple [d, e])) : ∃ a u1 u2, v = .ref a ∧ SqT K h a [u1, u2] ∧ Dq K h u1 d ∧ Dq K h u2 e := by
  obtain ⟨a, xs, rfl, s, z⟩ := dp_tup q
  cases z with
  | cons d1 z =>
    cases z with
    | cons d2 z =>
      cases z
      exact ⟨a, _, _, rfl, s, d1, d2⟩
theorem wipe2 {σ : St} {j l : Nat} {x y : V} (h : j ≠ l) : wipe (((wipe σ [j, l]).set j (some x)).set l (some y)) [j, l] = wipe σ [j, l] := by
  show ((((((σ.set l none).set j none).set j (some x)).set l (some y)).set l none).set j none) = (σ.set l none).set j none
  rw [List.set_set, List.set_set, List.set_comm _ _ h, List.set_set, List.set_set]
theorem lw_kn {h0 H0 : Hp} {G : Nat → List Pr → Prop} {Dl : Addr} {i : Nat} {H' : Hp} (p : Lw h0 H0 G Dl i H') : Ex h0 H' := by
  obtain ⟨h, Ps, vs, g, hv, hl, hn', st⟩ := p.ex
  intro a o e
  have z' : (if a = Dl then none else H' a) = some o := st.i _ _ (st.s _ _ e)
  by_cases c : a = Dl
  · rw [if_pos c] at z'; cases z'
  · rw [if_neg c] at z'; exact z'
theorem lw_out {h0 H0 : Hp} {G : Nat → List Pr → Prop} {Dl : Addr} {i : Nat} {H' : Hp} {T : Addr} {o : HO} (p : Lw h0 H0 G Dl i H') (n : H' T = none) : Lw h0 H0 G Dl i (upd H' T o) := by
  obtain ⟨h, Ps, vs, g, hv, hl, hn', st⟩ := p.ex
  have ne : ∀ {a o}, (if a = Dl then none else H' a) = some o → a ≠ T := fun {a o} e c => by
    subst c
    by_cases c2 : a = Dl
    · rw [if_pos c2] at e; cases e
    · rw [if_neg c2, n] at e; cases e
  refine ⟨h, Ps, vs, g, hv, by rw [upd_ne (ne_of_none hl n)]; exact hl, hn', fun a o e => ?_, st.s, fun a o e => ?_, st.f⟩
  · have z := st.e a o e
    have z' : (if a = Dl then none else H' a) = some o := z
    show (if a = Dl then none else upd H' T _ a) = some o
    rw [upd_ne (ne z')]; exact z'
  · have z' : (if a = Dl then none else H' a) = some o := st.i a o e
    show (if a = Dl then none else upd H' T _ a) = some o
    rw [upd_ne (ne z')]; exact z'
section
variable {K : PySem.W.Frag} {b : Bs} {Γ Γ' : Ctx} {μ : Mo} {te ta tb : TE} {t : TT} {P R : Pr} {Dd : Ends} {tu tw tz : TS} {ff : St → Hp → Prop} {rr : VK} {bb cc : St → Hp → Prop}
theorem n_forTk {γ : Type _} {A : Pr} {tl : TE} {j : Nat} {ds : List PyData} (G : Nat → γ → Prop) (Γi : Nat → γ → Ctx) (μi : Nat → γ → Mo) (g0 : γ) (hA : IsT K A ds) (a : T Γ tl A) (q0 : G 0 g0) (l0 : Le Γ (Γi 0 g0))
    (hs : ∀ (hb : Hp), Ex b.hb hb → ∀ (i : Nat) (d : PyData) (g : γ), ds[i]? = some d → G i g → Nx ⟨b.h0, b.H0, hb⟩ ((Γi i g).set j (some (D K d))) (μi i g) (tu ⟨Pv ⟨b.h0, b.H0, hb⟩ G Γi μi (i + 1), rr, ff, Pv ⟨b.h0, b.H0, hb⟩ G Γi μi (i + 1)⟩))
    (hd : ∀ (hb : Hp), Ex b.hb hb → ∀ g, G ds.length g → Nx ⟨b.h0, b.H0, hb⟩ (Γi ds.length g) (μi ds.length g) ff) (hm : μ = μi 0 g0 := by rfl) (hj : ∀ i g, mok (μi i g) j = true := by intros; rfl) : Nx b Γ μ (tFor (iTup K tl) (gName j) tu ⟨ff, rr, bb, cc⟩) := fun σ h H x s m => a σ h H x s.st.i _ fun v h1 H1 s1 q => by
  obtain ⟨p, xs, rfl, sq, dp⟩ := hA _ _ q
  subst hm
  have muI : ∀ {μ : Mo} {σ : St} {h H : Hp}, Mu b μ σ h H → Mu ⟨b.h0, b.H0, h1⟩ μ σ h H := fun {μ σ h H} m => by
    cases μ with
    | none => trivial
    | some p =>
      obtain ⟨l, o, m⟩ := m
      exact ⟨l, o, m.at_, m.nh, m.n0, m.oH, m.ct⟩
  refine ⟨p, rfl, ⟨xs, sqT_ex s1.i sq⟩, for_tup (K := K) (a := p) (xs := xs) (Pv ⟨b.h0, b.H0, h1⟩ G Γi μi) ⟨g0, h1, q0, (x.mono s1.s).le l0, ⟨(s.go s1).st, fun _ _ q => q⟩, muI (m.go s1)⟩ (fun i σ' H' hi p => ?_) (fun i y σ' H' hi p => ?_) (fun σ' H' p => ?_)⟩
  · obtain ⟨g, h', q, x', s', m'⟩ := p
    exact sqT_ex s'.st.i (sqT_ex s'.kn sq)
  · obtain ⟨g, h', q, x', s', m'⟩ := p
    obtain ⟨d, hd', dd⟩ := dpa_get' dp hi
    exact hs h1 (s.go s1).kn i d g hd' q _ h' H' (x'.set j (dp_ex s'.kn dd)) s' (m'.set (hj i g))
  · obtain ⟨g, h', q, x', s', m'⟩ := p
    rw [dpa_len dp] at q x' m'
    exact hd h1 (s.go s1).kn g q σ' h' H' x' s' m'

theorem n_forT2k {γ : Type _} {A : Pr} {tl : TE} {j l : Nat} {prs : List (PyData × PyData)} (G : Nat → γ → Prop) (Γi : Nat → γ → Ctx) (μi : Nat → γ → Mo) (g0 : γ) (hA : IsT K A (prs.map fun p => .tuple [p.1, p.2])) (a : T Γ tl A) (q0 : G 0 g0) (l0 : Le Γ (Γi 0 g0))
    (hs : ∀ (hb : Hp), Ex b.hb hb → ∀ (i : Nat) (p : PyData × PyData) (g : γ), prs[i]? = some p → G i g → Nx ⟨b.h0, b.H0, hb⟩ (((Γi i g).set j (some (D K p.1))).set l (some (D K p.2))) (μi i g) (tu ⟨Pv ⟨b.h0, b.H0, hb⟩ G Γi μi (i + 1), rr, ff, Pv ⟨b.h0, b.H0, hb⟩ G Γi μi (i + 1)⟩))
    (hd : ∀ (hb : Hp), Ex b.hb hb → ∀ g, G prs.length g → Nx ⟨b.h0, b.H0, hb⟩ (Γi prs.length g) (μi prs.length g) ff) (hm : μ = μi 0 g0 := by rfl) (hj : ∀ i g, mok (μi i g) j = true := by intros; rfl) (hl : ∀ i g, mok (μi i g) l = true := by intros; rfl) : Nx b Γ μ (tFor (iTup K tl) (gTup K 2 (gCons (gName j) (gCons (gName l) gNil))) tu ⟨ff, rr, bb, cc⟩) := fun σ h H x s m => a σ h H x s.st.i _ fun v h1 H1 s1 q => by
  obtain ⟨p, xs, rfl, sq, dp⟩ := hA _ _ q
  subst hm
  have muI : ∀ {μ : Mo} {σ : St} {h H : Hp}, Mu b μ σ h H → Mu ⟨b.h0, b.H0, h1⟩ μ σ h H := fun {μ σ h H} m => by
    cases μ with
    | none => trivial
    | some p =>
      obtain ⟨l, o, m⟩ := m
      exact ⟨l, o, m.at_, m.nh, m.n0, m.oH, m.ct⟩
  refine ⟨p, rfl, ⟨xs, sqT_ex s1.i sq⟩, for_tup (K := K) (a := p) (xs := xs) (Pv ⟨b.h0, b.H0, h1⟩ G Γi μi) ⟨g0, h1, q0, (x.mono s1.s).le l0, ⟨(s.go s1).st, fun _ _ q => q⟩, muI (m.go s1)⟩ (fun i σ' H' hi p => ?_) (fun i y σ' H' hi p => ?_) (fun σ' H' p => ?_)⟩
  · obtain ⟨g, h', q, x', s', m'⟩ := p
    exact sqT_ex s'.st.i (sqT_ex s'.kn sq)
  · obtain ⟨g, h', q, x', s', m'⟩ := p
    obtain ⟨d, hd', dd⟩ := dpa_get' dp hi
    obtain ⟨pr, hpr, rfl⟩ := pr_get hd'
    obtain ⟨ad, u1, u2, rfl, st, d1, d2⟩ := dp_pair (dp_ex s'.kn dd)
    refine ⟨ad, [u1, u2], rfl, sqT_ex s'.st.i st, rfl, u1, [u2], rfl, u2, [], rfl, rfl, ?_⟩
    exact hs h1 (s.go s1).kn i pr g hpr q _ h' H' ((x'.set j d1).set l d2) s' ((m'.set (hj i g)).set (hl i g))
  · obtain ⟨g, h', q, x', s', m'⟩ := p
    rw [dpa_len dp, List.length_map] at q x' m'
    exact hd h1 (s.go s1).kn g q σ' h' H' x' s' m'

theorem t_lcT {A : Pr} {tl : TE} {j : Nat} {ds : List PyData} {φ : Nat → Bool → Prop} (G : Nat → List Pr → Prop) (hA : IsT K A ds) (a : T Γ tl A) (hn : ds.length ≤ 50000) (g0 : G 0 []) (hz : ∀ i Ps, G i Ps → Ps.length ≤ i)
    (ht : ∀ (i : Nat) d, ds[i]? = some d → TB ((wpΓ Γ [j]).set j (some (D K d))) t (φ i))
    (hy : ∀ (i : Nat) d, ds[i]? = some d → φ i true → ∀ Ps, G i Ps → ∃ (α : Type) (f : α → Pr), T ((wpΓ Γ [j]).set j (some (D K d))) te (Pr.some f) ∧ ∀ a, G (i + 1) (Ps ++ [f a]))
    (hno : ∀ (i : Nat) d, ds[i]? = some d → φ i false → ∀ Ps, G i Ps → G (i + 1) Ps) : T Γ (tLc (iTup K tl) (gName j) t te [j]) (Pr.some fun Ps : { Ps // G ds.length Ps } => L K Ps.1) := fun σ h H x e Q k => a σ h H x e _ fun v h1 H1 s1 q => by
  obtain ⟨ad, xs, rfl, sq, dp⟩ := hA _ _ q
  refine ⟨ad, rfl, ⟨xs, sqT_ex s1.i sq⟩, fun Dl hD => ?_⟩
  refine lc_tup (K := K) (a := ad) (xs := xs) (Lw h1 H1 G Dl) (lw_start s1.i hD g0) (fun i H' hi p => ?_) (fun i y H' hi p => ?_) (fun H' p => ?_)
  · obtain ⟨h, Ps, vs, g, hv, hl, hn', st⟩ := p.ex
    refine sqT_ex (h := h) (fun a o e => ?_) (sqT_ex st.s sq)
    have z' : (if a = Dl then none else H' a) = some o := st.i _ _ e
    by_cases c : a = Dl
    · rw [if_pos c] at z'; cases z'
    · rw [if_neg c] at z'; exact z'
  · obtain ⟨d, hd', dd⟩ := dpa_get' dp hi
    have hi' := (List.getElem?_eq_some_iff.mp hd').1
    exact ⟨wipe1, lc_turn p hD (fun Ps g => by have := hz i Ps g; omega) (fun h2 e2 => ((x.mono s1.s).mono e2).wp [j] |>.set j (dp_ex e2 dd)) (ht i d hd') (hy i d hd') (hno i d hd')⟩
  · rw [dpa_len dp] at p
    obtain ⟨h', Ps, g, st, q⟩ := lw_end (K := K) p hD s1.i
    exact k _ h' H' (s1.trans st) ⟨⟨Ps, g⟩, q⟩
theorem t_lcT2 {A : Pr} {tl : TE} {j l : Nat} {prs : List (PyData × PyData)} {φ : Nat → Bool → Prop} (G : Nat → List Pr → Prop) (hA : IsT K A (prs.map fun p => .tuple [p.1, p.2])) (a : T Γ tl A) (hn : prs.length ≤ 50000) (g0 : G 0 []) (hz : ∀ i Ps, G i Ps → Ps.length ≤ i)
    (ht : ∀ (i : Nat) p, prs[i]? = some p → TB (((wpΓ Γ [j, l]).set j (some (D K p.1))).set l (some (D K p.2))) t (φ i))
    (hy : ∀ (i : Nat) p, prs[i]? = some p → φ i true → ∀ Ps, G i Ps → ∃ (α : Type) (f : α → Pr), T (((wpΓ Γ [j, l]).set j (some (D K p.1))).set l (some (D K p.2))) te (Pr.some f) ∧ ∀ a, G (i + 1) (Ps ++ [f a]))
    (hno : ∀ (i : Nat) p, prs[i]? = some p → φ i false → ∀ Ps, G i Ps → G (i + 1) Ps) (hjl : j ≠ l := by decide) : T Γ (tLc (iTup K tl) (gTup K 2 (gCons (gName j) (gCons (gName l) gNil))) t te [j, l]) (Pr.some fun Ps : { Ps // G prs.length Ps } => L K Ps.1) := fun σ h H x e Q k => a σ h H x e _ fun v h1 H1 s1 q => by
  obtain ⟨ad, xs, rfl, sq, dp⟩ := hA _ _ q
  refine ⟨ad, rfl, ⟨xs, sqT_ex s1.i sq⟩, fun Dl hD => ?_⟩
  refine lc_tup (K := K) (a := ad) (xs := xs) (Lw h1 H1 G Dl) (lw_start s1.i hD g0) (fun i H' hi p => ?_) (fun i y H' hi p => ?_) (fun H' p => ?_)
  · obtain ⟨h, Ps, vs, g, hv, hl, hn', st⟩ := p.ex
    refine sqT_ex (h := h) (fun a o e => ?_) (sqT_ex st.s sq)
    have z' : (if a = Dl then none else H' a) = some o := st.i _ _ e
    by_cases c : a = Dl
    · rw [if_pos c] at z'; cases z'
    · rw [if_neg c] at z'; exact z'
  · obtain ⟨d, hd', dd⟩ := dpa_get' dp hi
    obtain ⟨pr, hpr, rfl⟩ := pr_get hd'
    have hi' := (List.getElem?_eq_some_iff.mp hpr).1
    have hh1 : Ex h1 H' := lw_kn p
    obtain ⟨ta, u1, u2, rfl, st, d1, d2⟩ := dp_pair dd
    refine ⟨ta, [u1, u2], rfl, sqT_ex hh1 st, rfl, u1, [u2], rfl, u2, [], rfl, rfl, ?_⟩
    exact ⟨wipe2 hjl, lc_turn p hD (fun Ps g => by have := hz i Ps g; omega) (fun h2 e2 => ((((x.mono s1.s).mono e2).wp [j, l]).set j (dp_ex e2 d1)).set l (dp_ex e2 d2)) (ht i pr hpr) (hy i pr hpr) (hno i pr hpr)⟩
  · rw [dpa_len dp, List.length_map] at p
    obtain ⟨h', Ps, g, st, q⟩ := lw_end (K := K) p hD s1.i
    exact k _ h' H' (s1.trans st) ⟨⟨Ps, g⟩, q⟩

/-- [te for x, y in zip(list, list) if t] -/
theorem t_lcZ {tr : TA} {j l : Nat} {ds es : List PyData} {φ : Nat → Bool → Prop} (G : Nat → List Pr → Prop) (a : TAs Γ tr [D K (.list ds), D K (.list es)]) (hn : ds.length ≤ 50000) (hl : ds.length = es.length) (g0 : G 0 []) (hz : ∀ i Ps, G i Ps → Ps.length ≤ i)
    (ht : ∀ (i : Nat) d e, ds[i]? = some d → es[i]? = some e → TB (((wpΓ Γ [j, l]).set j (some (D K d))).set l (some (D K e))) t (φ i))
    (hy : ∀ (i : Nat) d e, ds[i]? = some d → es[i]? = some e → φ i true → ∀ Ps, G i Ps → ∃ (α : Type) (f : α → Pr), T (((wpΓ Γ [j, l]).set j (some (D K d))).set l (some (D K e))) te (Pr.some f) ∧ ∀ a, G (i + 1) (Ps ++ [f a]))
    (hno : ∀ (i : Nat) d e, ds[i]? = some d → es[i]? = some e → φ i false → ∀ Ps, G i Ps → G (i + 1) Ps) (hjl : j ≠ l := by decide) : T Γ (tLc (iZip K tr) (gTup K 2 (gCons (gName j) (gCons (gName l) gNil))) t te [j, l]) (Pr.some fun Ps : { Ps // G ds.length Ps } => L K Ps.1) := fun σ h H x e Q k => a σ h H x e _ fun vs h1 H1 s1 q => by
  cases q with
  | cons a1 q =>
    cases q with
    | cons a2 q =>
      cases q
      obtain ⟨ad, xs, rfl, sq, dp⟩ := dp_lst a1
      obtain ⟨ae, ys, rfl, sq2, dp2⟩ := dp_lst a2
      have lx := dpa_len dp
      have ly := dpa_len dp2
      refine ⟨ad, ae, xs, ys, rfl, .inl (.inl (s1.i _ _ sq)), .inl (.inl (s1.i _ _ sq2)), fun Dl hD => ?_⟩
      refine ⟨fun i m H => m = xs.length - i ∧ i ≤ xs.length ∧ Lw h1 H1 G Dl i H, ⟨xs.length, by simp, Nat.zero_le _, lw_start s1.i hD g0⟩, ?_⟩
      rintro i m H' ⟨rfl, hi, p⟩
      have hk := lw_kn p
      have qx : SqL K H' ad xs := .inl (.inl (hk _ _ sq))
      have qy : SqL K H' ae ys := .inl (.inl (hk _ _ sq2))
      by_cases hlt : i < xs.length
      · have hx : xs[i]? = some xs[i] := List.getElem?_eq_getElem hlt
        have hlt2 : i < ys.length := by omega
        have hy' : ys[i]? = some ys[i] := List.getElem?_eq_getElem hlt2
        refine .inr ⟨⟨xs, ys, _, _, qx, qy, hx, hy'⟩, Lw h1 H1 G Dl (i + 1), fun H' p' => ⟨xs.length - (i + 1), by omega, rfl, hlt, p'⟩, fun v H' y => ?_⟩
        obtain ⟨T, x', y', rfl, hT, rfl, f1, f2⟩ := y
        obtain ⟨d, hd', dd⟩ := dpa_get' dp (f1 xs qx)
        obtain ⟨e', he', de⟩ := dpa_get' dp2 (f2 ys qy)
        refine ⟨T, [x', y'], rfl, .inl (.inl upd_same), rfl, x', [y'], rfl, y', [], rfl, rfl, ?_⟩
        exact ⟨wipe2 hjl, lc_turn (lw_out p hT) hD (fun Ps g => by have := hz i Ps g; omega) (fun h2 e2 => ((((x.mono s1.s).mono e2).wp [j, l]).set j (dp_ex e2 dd)).set l (dp_ex e2 de)) (ht i d e' hd' he') (hy i d e' hd' he') (hno i d e' hd' he')⟩
      · have e : i = xs.length := by omega
        subst e
        refine .inl ⟨⟨xs, ys, qx, qy, Or.inl (Nat.le_refl _)⟩, ?_⟩
        rw [lx] at p
        obtain ⟨h', Ps, g, st, q⟩ := lw_end (K := K) p hD s1.i
        exact k _ h' H' (s1.trans st) ⟨⟨Ps, g⟩, q⟩
end
end Z

namespace Z
open PySem L2 PyProof.Rows
/-! ### max of a tuple of whole numbers -/
section
variable {prog : Program} {w : World} {A : Around} {E : Value → Shared → Prop} {s : Shared} {l : Addr} {xs : Array (Int × Tok)}
theorem iter_intTup {Q : Value → Shared → Prop} (hl : s.heap.IsTuple l (intItems xs))
    (h : ∀ s₂ : Shared, s₂ = { s with heap := s.heap.push { cls := .type "tuple_iterator", data := .fields #[.ref l, .int 0 0] } } →
      (s₂.heap.IsTupleIter s.heap.objs.size l 0 ∧ s₂.heap.IsTuple l (intItems xs)) → (∀ b ∈ [s.heap.objs.size, l], b < s₂.heap.objs.size) → l ≠ s.heap.objs.size → Q (.ref s.heap.objs.size) s₂) :
    wpAny (model prog w) A (pyIter (.ref l)) Q E s := by
  have hlt : l < s.heap.objs.size := by obtain ⟨_, e, _⟩ := hl; exact Heap.lt_size e
  refine wpAny_pyIter_tuple hl (h _ rfl ⟨⟨_, Heap.get?_push_size _ rfl, rfl, rfl⟩, hl.push _⟩ (fun b hb => ?_) (Nat.ne_of_lt hlt))
  show b < (s.heap.push _).objs.size
  rw [Heap.size_push]
  rcases List.mem_cons.mp hb with rfl | hb
  · exact Nat.lt_succ_self _
  · rcases List.mem_cons.mp hb with rfl | hb
    · exact Nat.lt_succ_of_lt hlt
    · cases hb
theorem old_keptT {o : Obj} {h' : Heap} (hk : ∀ b o', b ∉ [s.heap.objs.size] → (s.heap.push o).get? b = some o' → h'.get? b = some o') :
    ∀ b o', s.heap.get? b = some o' → h'.get? b = some o' := fun b o' e => by
  refine hk b o' (fun hm => ?_) (Heap.get?_push_of_some _ e)
  rcases List.mem_cons.mp hm with e1 | hm
  · exact absurd (e1 ▸ Heap.lt_size e) (Nat.lt_irrefl _)
  · cases hm
theorem max_intTup {Q : Value → Shared → Prop} (hh : A.handled = none) (hl : s.heap.IsTuple l (intItems xs)) (hne : 0 < xs.size)
    (h : ∀ v h' tk, (intItems xs)[argBest (fun i j => decide (numAt xs i > numAt xs j)) (xs.size - 1)]? = some v → (∀ b o, s.heap.get? b = some o → h'.get? b = some o) → Q v { s with heap := h', toks := tk }) :
    wpAny (model prog w) A (call (.builtin "max") [.ref l]) Q E s := by
  refine call_max_walk (iter_intTup hl fun s₂ e st hfp hlI => ?_)
  subst e
  refine ⟨_, _, _, _, _, _, _, rfl, Walks.tuple (A := A.in1) hh _ l hlI (intItems xs), st, hfp, by simpa [intItems] using hne, CmpOf.ints_gt (numAt xs) (fun _ _ => intItems_at), fun v h' tk hP hk => ?_⟩
  exact h v h' tk (by simpa [intItems] using hP) (old_keptT hk)
theorem max_rawT {its : List Value} {ns : List Int} {Q : Value → Shared → Prop} (hh : A.handled = none) (hl : s.heap.IsTuple l its.toArray) (hi : IntsAre its ns) (hne : 0 < ns.length)
    (h : ∀ h' tk M t', (∀ b o, s.heap.get? b = some o → h'.get? b = some o) → M ∈ ns → (∀ a, a ∈ ns → a ≤ M) → Q (.int M t') { s with heap := h', toks := tk }) : wpAny (model prog w) A (call (.builtin "max") [.ref l]) Q E s := by
  obtain ⟨xs, e⟩ := hi.allInts.items
  have hn : numsOf (intItems xs).toList = ns := by rw [← e]; exact hi.numsOf
  rw [nums_intItems] at hn
  subst hn
  rw [e] at hl
  have hsz : 0 < xs.size := by simpa using hne
  refine max_intTup hh hl hsz fun v h' tk hv hk => ?_
  obtain ⟨t, rfl⟩ := intItems_at hv
  obtain ⟨h1, h2⟩ := argBest_gt (numAt xs) (xs.size - 1)
  refine h h' tk _ t hk ?_ fun a ha => ?_
  · rw [numAt_eq]; exact PySem.getD_mem (by rw [List.length_map, Array.length_toList]; omega)
  · obtain ⟨j, hj, rfl⟩ := mem_getD ha
    rw [List.length_map, Array.length_toList] at hj
    rw [← numAt_eq]; exact h2 j (by omega)
end
def rMaxT (K : PySem.W.Frag) : List V → Hp → VK → Prop := fun vs H Q => ∃ (a : Addr) (ns : List Int), vs = [V.ref a] ∧ SqT K H a (ns.map V.int) ∧ 0 < ns.length ∧ ∀ m, m ∈ ns → (∀ y, y ∈ ns → y ≤ m) → Q (.int m) H
theorem cr_maxT {X : Cx} (hc : X.calm = true) : CallR X (.builtin "max") (rMaxT X.K) := by
  intro pins s σ H vs us Q I r h
  obtain ⟨a, ns, rfl, hs, hne, q⟩ := h
  obtain ⟨its, rv, hl, _⟩ := I.tuple hs
  rw [Vals.ref1 r]
  exact max_rawT (I.ok.hd hc) (show s.heap.IsTuple a its.toArray from hl) rv.ints hne fun h' tk m t' hk h1 h2 => ⟨.int _, H, I.kept hk, ⟨_, rfl⟩, q m h1 h2⟩
theorem fnp_maxT {K : PySem.W.Frag} {ns : List Int} (hn : ns ≠ []) : FnP (rMaxT K) [D K (dT ns)] (Pr.some fun m : { m : Int // m ∈ ns ∧ ∀ y ∈ ns, y ≤ m } => I K m.1) := fun vs h H q e Q k => by
  cases q with
  | cons a q =>
    cases q
    obtain ⟨p, rfl, s⟩ := dp_intsT a
    exact ⟨p, ns, rfl, sqT_ex e s, List.length_pos_iff.mpr hn, fun m hm hy => k _ h H (Stp.refl e) ⟨⟨m, hm, hy⟩, .int m⟩⟩
/-! ### an own method called by its name -/
structure Hx (P : Program) (w : World) (K : PySem.W.Frag) (mg : Str → Option Value) (base : Heap) (k : Nat) (C : Addr) (m : Str) (sp : Sp) : Prop where
  ex : ∃ f, Meth K C m f ∧ FnR P w K mg base CX0 k f sp
theorem hx_of {P : Program} {w : World} {K : PySem.W.Frag} {mg : Str → Option Value} {base : Heap} {C f : Addr} {m : Str} {k : Nat} {ps : List Str} {sp : Sp} (t : Meth K C m f) (o : ∃ fd, FnOk P w K mg base CX0 k f fd ps sp ∧ Binds K fd ps []) : Hx P w K mg base k C m sp := by
  obtain ⟨fd, F, b⟩ := o
  exact ⟨f, t, raw0 F b⟩
theorem pe_mO {X : Cx} {k j : Nat} {C : Addr} {m : Str} {sp : Sp} {o e : Expr} {es : List Expr} {ta : TE} {t : TA} {apos pos : Pos} {pl : Sem Bool} (c : Hx X.prog X.w X.K X.mg X.base k C m sp) (cl : Cls X.K C) (hr : Room j X.A) (hk : k ≤ j) (he : PE X o ta) (ha : PA X (e :: es) t)
    (hst : starEach (e :: es) X.env = (false, eval e X.env) :: starEach es X.env := by rfl) (hpl : (backTo pos (starEach es X.env)).any (·.1) = false := by rfl)
    (ht : eval (.Call (.Attribute o m apos) (e :: es) [] pos) X.env = (do
      let ov ← eval o X.env
      standAt apos.atName
      let (f, first) ← holding [ov] (getMethod ov m pl)
      callWith pos f first (backTo pos (starEach (e :: es) X.env)) (backToKw pos (keywordEach [] X.env))) := by rfl) :
    PE X (.Call (.Attribute o m apos) (e :: es) [] pos) (tMethR C m sp E0 ta t) := by
  obtain ⟨f, M, F⟩ := c.ex
  exact pe_methR he cl M F (hr.mono hk) pass0 ha hst hpl ht
theorem t_mth {α : Type _} {K : PySem.W.Frag} {Γ : Ctx} {C : Addr} {f m : Str} {args : α → List Pr} {pre : α → Prop} {res : α → Pr} {F : Pr} {As : List Pr} {te : TE} {tr : TA} (a : α) (x : T Γ te (Ob K C f F)) (y : TAs Γ tr As) (ha : args a = Ob K C f F :: As) (p : pre a) (hm : (m == f) = false := by decide) : T Γ (tMethR C m (Sv args pre res) E0 te tr) (res a) := fun σ h H n e Q k =>
  x σ h H n e _ fun v h1 H1 s1 q => by
    obtain ⟨o, dx, u, rfl, ho, z⟩ := id q
    refine ⟨o, dx, _, rfl, s1.i _ _ ho, lookup1_ne hm, y σ h1 H1 (n.mono s1.s) s1.i _ fun vs h2 H2 s2 q2 => ⟨a, h2, s2.i, ?_, p, fun v h3 H3 s3 z => k v h3 H3 ((s1.trans s2).trans s3) z⟩⟩
    rw [ha]
    exact .cons ((Ob K C f F).mono s2.s q) q2
end Z

namespace Z
open PySem L2
theorem vs_get' : ∀ {Ps : List Pr} {vs : List V} {h : Hp} {j : Nat} {v : V}, Vs Ps vs h → vs[j]? = some v → ∃ P : Pr, Ps[j]? = some P ∧ P.p v h
  | _, _, _, _, _, .nil, e => by simp at e
  | _, _, _, 0, _, .cons a b, e => by simp at e; subst e; exact ⟨_, rfl, a⟩
  | _, _, _, j + 1, _, .cons a b, e => by
    obtain ⟨v, h1, h2⟩ := vs_get' (j := j) b (by simpa using e)
    exact ⟨v, by simpa using h1, h2⟩
section
variable {K : PySem.W.Frag} {Γ : Ctx} {te : TE} {t : TT} {P R : Pr}
theorem t_lcTV {tl : TE} {j : Nat} {As : List Pr} {φ : Nat → Bool → Prop} (G : Nat → List Pr → Prop) (a : T Γ tl (U K As)) (hn : As.length ≤ 50000) (g0 : G 0 []) (hz : ∀ i Ps, G i Ps → Ps.length ≤ i)
    (ht : ∀ (i : Nat) A, As[i]? = some A → TB ((wpΓ Γ [j]).set j (some A)) t (φ i))
    (hy : ∀ (i : Nat) A, As[i]? = some A → φ i true → ∀ Ps, G i Ps → ∃ (α : Type) (f : α → Pr), T ((wpΓ Γ [j]).set j (some A)) te (Pr.some f) ∧ ∀ a, G (i + 1) (Ps ++ [f a]))
    (hno : ∀ (i : Nat) A, As[i]? = some A → φ i false → ∀ Ps, G i Ps → G (i + 1) Ps) : T Γ (tLc (iTup K tl) (gName j) t te [j]) (Pr.some fun Ps : { Ps // G As.length Ps } => L K Ps.1) := fun σ h H x e Q k => a σ h H x e _ fun v h1 H1 s1 q => by
  obtain ⟨ad, xs, rfl, sq, dp⟩ := q
  refine ⟨ad, rfl, ⟨xs, sqT_ex s1.i sq⟩, fun Dl hD => ?_⟩
  refine lc_tup (K := K) (a := ad) (xs := xs) (Lw h1 H1 G Dl) (lw_start s1.i hD g0) (fun i H' hi p => ?_) (fun i y H' hi p => ?_) (fun H' p => ?_)
  · obtain ⟨h, Ps, vs, g, hv, hl, hn', st⟩ := p.ex
    refine sqT_ex (h := h) (fun a o e => ?_) (sqT_ex st.s sq)
    have z' : (if a = Dl then none else H' a) = some o := st.i _ _ e
    by_cases c : a = Dl
    · rw [if_pos c] at z'; cases z'
    · rw [if_neg c] at z'; exact z'
  · obtain ⟨d, hd', dd⟩ := vs_get' dp hi
    have hi' := (List.getElem?_eq_some_iff.mp hd').1
    exact ⟨wipe1, lc_turn p hD (fun Ps g => by have := hz i Ps g; omega) (fun h2 e2 => ((x.mono s1.s).mono e2).wp [j] |>.set j (d.mono e2 dd)) (ht i d hd') (hy i d hd') (hno i d hd')⟩
  · rw [dp.len] at p
    obtain ⟨h', Ps, g, st, q⟩ := lw_end (K := K) p hD s1.i
    exact k _ h' H' (s1.trans st) ⟨⟨Ps, g⟩, q⟩

end
end Z
namespace Z
open PySem L2
section
variable {K : PySem.W.Frag} {b : Bs} {Γ Γ' : Ctx} {μ μ' : Mo} {te ta tb tc : TE} {tr : TA} {t : TT} {P R : Pr} {Dd : Ends} {tu tw tz : TS}
/-- if, both ways to the same slots -/
theorem q_ifm {φ : Bool → Prop} (Γ' : Ctx) (a : TB Γ t φ) (y : φ true → ∀ F, Nx b Γ' μ' F → Nx b Γ μ (tu { Dd with nx := F })) (z : φ false → ∀ F, Nx b Γ' μ' F → Nx b Γ μ (tw { Dd with nx := F })) (k : Nx b Γ' μ' (tz Dd)) : Nx b Γ μ (tSeq (tIfS t tu tw) tz Dd) :=
  q_if a (fun h => y h _ k) (fun h => z h _ k)
theorem t_chainC {g g' : Int → Int → Bool} {i j : Int} {β : Sort _} {f : β → Int} {c : Bool} (a : T Γ ta (I K i)) (b : T Γ tb (I K j)) (d : T Γ tc (Pr.some fun k => I K (f k))) (hc : ∀ k, g' j (f k) = c) : T Γ (tChain (rI0 fun i j => .bl (g i j)) (rI0 fun i j => .bl (g' i j)) ta tb tc) (B K (g i j && c)) := fun σ h H x e Q kk =>
  a σ h H x e _ fun v h1 H1 s1 q1 => b σ h1 H1 (x.mono s1.s) s1.i _ fun y h2 H2 s2 q2 => by
    refine ⟨i, j, dp_int q1, dp_int q2, g i j, rfl, ?_⟩
    cases hg : g i j with
    | true =>
      refine d σ h2 H2 (x.mono (s1.trans s2).s) s2.i _ fun z h3 H3 s3 ⟨k, q3⟩ => ⟨j, f k, dp_int q2, dp_int q3, kk _ h3 H3 ((s1.trans s2).trans s3) ?_⟩
      rw [hg, Bool.true_and]
      show (B K c).p (.bl (g' j (f k))) h3
      rw [hc k]; exact Dq.bl _
    | false => exact kk _ h2 H2 (s1.trans s2) (by rw [hg, Bool.false_and]; exact Dq.bl _)
theorem l_pair {x : Int} {α : Sort _} {f : α → Int} {v : V} {h : Hp} (q : (L K [I K x, Pr.some fun a => I K (f a)]).p v h) : ∃ a, (D K (dI [x, f a])).p v h := by
  obtain ⟨ad, vs, rfl, s, z⟩ := q
  cases z with
  | cons q1 z =>
    cases z with
    | cons q2 z =>
      cases z
      obtain ⟨a, q2⟩ := q2
      exact ⟨a, .lst s (.cons q1 (.cons q2 .nil))⟩
end
end Z
namespace Z
open PySem L2
theorem tb_testS {K : PySem.W.Frag} {Γ : Ctx} {te : TE} {α : Sort _} {f : α → Bool} (a : T Γ te (Pr.some fun r => B K (f r))) : TB Γ (tTest te) (fun _ => True) := fun σ h H x e Q k => a σ h H x e _ fun v h' H' s ⟨r, q⟩ => ⟨f r, dp_bl q, k _ h' H' s trivial⟩
end Z

namespace Z
open PySem L2 PyProof.Rows
/-! ### plain tuples: of these it is known that the object has no dict; dict(..) of such a tuple of pairs -/
def DPl (K : PySem.W.Frag) (ds : List PyData) : Pr := ⟨fun v h => ∃ a o xs, v = .ref a ∧ h a = some (.frz o (.tup xs)) ∧ o.dict = none ∧ DqAll K h xs ds, fun e ⟨a, o, xs, x, y, z, q⟩ => ⟨a, o, xs, x, e _ _ y, z, dpa_ex e q⟩⟩
theorem dpl_D {K : PySem.W.Frag} {ds : List PyData} {v : V} {h : Hp} (q : (DPl K ds).p v h) : (D K (.tuple ds)).p v h := by
  obtain ⟨a, o, xs, rfl, y, _, q⟩ := q
  exact .tup (.inl (.inr ⟨o, y⟩)) q
theorem t_pl {K : PySem.W.Frag} {Γ : Ctx} {te : TE} {ds : List PyData} (a : T Γ te (DPl K ds)) : T Γ te (D K (.tuple ds)) := t_weak a fun _ _ q => dpl_D q
/-- (a, ..), a new plain tuple -/
def tTupF (t : TA) : TE := fun σ H Q => t σ H fun xs H1 => xs.length ≤ sizeLine ∧ ∀ p o, H1 p = none → o.dict = none → Q (.ref p) (upd H1 p (.frz o (.tup xs)))
theorem pe_tupF {X : Cx} {es : List Expr} {x1 : Nat} {pos : Pos} {t : TA} (hes : PA X es t) : PE X (.Tuple es x1 pos) (tTupF t) := by
  refine ⟨fun pins st τ G R J hw => ?_⟩
  refine wpAny_Tuple_spliced (thn (hes.run pos pins st τ G _ J hw) fun us st1 ⟨zs, G1, J1, rv, lz, hq⟩ => ⟨by rw [← rv.length]; exact lz, ?_⟩)
  have fr : G1 st1.heap.objs.size = none := J1.hok.fresh (Nat.le_refl _)
  have gt : (st1.heap.push { cls := .type "tuple", data := .seq us.toArray }).get? st1.heap.objs.size = some { cls := .type "tuple", data := .seq us.toArray } := Heap.get?_push_size _ rfl
  exact ⟨.ref st1.heap.objs.size, _, J1.laid (t' := st1.toks) (o := .frz { cls := .type "tuple", data := .seq us.toArray } (.tup zs)) (fun b u z => Heap.get?_push_of_some _ z) (Nat.le_refl _) ⟨gt, lz, us, rv, ⟨_, gt, rfl, _, rfl⟩⟩, rfl, hq _ _ fr rfl⟩
/-- tuple(list), a new plain tuple -/
def rTupF (K : PySem.W.Frag) : List V → Hp → VK → Prop := fun xs H Q => ∃ p ys, xs = [.ref p] ∧ SqL K H p ys ∧ ∀ l o, H l = none → o.dict = none → Q (.ref l) (upd H l (.frz o (.tup ys)))
theorem call_tupF {X : Cx} : CallR X (.type "tuple") (rTupF X.K) := by
  intro pins st τ G vs us R J rv hw
  obtain ⟨p, zs, rfl, sq, hq⟩ := hw
  obtain ⟨u, rfl, r1⟩ := vals1 rv
  cases r1
  obtain ⟨its, rz, pl, hz⟩ := J.list sq
  have lz := rz.length
  refine call_tuple_list pl.isList (fun g' kp => ?_) (by simp only [List.size_toArray] <;> omega)
  have J1 : Inv X pins τ G { st with heap := g' } := J.kept (t' := st.toks) kp
  have gt : (g'.push { cls := .type "tuple", data := .seq its.toArray }).get? g'.objs.size = some { cls := .type "tuple", data := .seq its.toArray } := Heap.get?_push_size _ rfl
  exact ⟨.ref g'.objs.size, _, J1.laid (t' := st.toks) (o := .frz { cls := .type "tuple", data := .seq its.toArray } (.tup zs)) (fun b o z => Heap.get?_push_of_some _ z) (Nat.le_refl _) ⟨gt, hz, its, rz, ⟨_, gt, rfl, _, rfl⟩⟩, rfl, hq _ _ (J1.hok.fresh (Nat.le_refl _)) rfl⟩
section
variable {K : PySem.W.Frag} {Γ : Ctx} {tr : TA} {te : TE}
theorem frz_stp {h H : Hp} {p : Addr} {o : HO} (x : Ex h H) (n : H p = none) : Ex h (upd h p o) := (Stp.new (o := o) x n).s
theorem t_tupF {ds : List PyData} (a : TAs Γ tr (ds.map (D K))) (hz : ds.length ≤ 100000) : T Γ (tTupF tr) (DPl K ds) := fun σ h H x e Q k => a σ h H x e _ fun vs h1 H1 s1 q =>
  ⟨by rw [q.len, List.length_map]; exact Evl.sz_of hz, fun p o np od => k _ (upd h1 p (.frz o (.tup vs))) _ (s1.trans (Stp.new s1.i np)) ⟨p, o, vs, rfl, upd_same, od, vs_dpa (q.mono (Stp.new (o := .frz o (.tup vs)) s1.i np).s)⟩⟩
theorem fnp_tupF {ds : List PyData} : FnP (rTupF K) [D K (.list ds)] (DPl K ds) := fun vs h H q e Q k => by
  cases q with
  | cons a q =>
    cases q
    obtain ⟨p, xs, rfl, s, z⟩ := dp_lst a
    exact ⟨p, xs, rfl, .inl (.inl (e _ _ s)), fun l o nl od => k _ (upd h l (.frz o (.tup xs))) _ (Stp.new e nl) ⟨l, o, xs, rfl, upd_same, od, dpa_ex (Stp.new (o := .frz o (.tup xs)) e nl).s z⟩⟩
end
/-! dict(t) -/
theorem pairsV {X : Cx} {pins : List (Addr × Obj)} {τ : L2.St} {G : Hp} {st : Shared} (J : Inv X pins τ G st) : ∀ {ads : List Addr} {kvs : List (Key × V)}, Paired (fun p kv => SqT X.K G p [kV kv.1, kv.2]) ads kvs →
    ∃ (prs : List (Key × Value)) (pv : List (Value × Value)), KV kvs prs ∧ prs.length = ads.length ∧ pv.length = ads.length ∧
      ∀ (j : Nat) (k v : Value), pv[j]? = some (k, v) → ∃ (b : Addr) (ky : Key), ads[j]? = some b ∧ prs[j]? = some (ky, v) ∧ IsTup st.heap b #[k, v] ∧ (mixKind X.prog X.w).is ky k = true
  | _, _, .nil => ⟨[], [], .nil, rfl, rfl, fun j k v z => by simp at z⟩
  | _, _, .cons (a := p) (b := kv) hd tl => by
    obtain ⟨prs, pv, rk, l1, l2, hp⟩ := pairsV J tl
    obtain ⟨its, rv, ht, _⟩ := J.tuple hd
    obtain ⟨u, y, rfl, ru, ry⟩ := vals2 rv
    refine ⟨(kv.1, y) :: prs, (u, y) :: pv, .cons ⟨rfl, ry⟩ rk, by rw [List.length_cons, List.length_cons, l1], by rw [List.length_cons, List.length_cons, l2], fun j k v z => ?_⟩
    cases j with
    | zero =>
      obtain ⟨rfl, rfl⟩ := Prod.mk.inj (Option.some.inj z)
      exact ⟨p, kv.1, rfl, rfl, ht, kV_is (P := X.prog) (w := X.w) ru⟩
    | succ j =>
      obtain ⟨b, ky, e1, e2, e3, e4⟩ := hp j k v (by simpa using z)
      exact ⟨b, ky, by simpa using e1, by simpa using e2, e3, e4⟩
def rDictT (K : PySem.W.Frag) : List V → Hp → VK → Prop := fun xs H Q => ∃ (a : Addr) (o : Obj) (ads : List Addr) (kvs : List (Key × V)), xs = [.ref a] ∧ H a = some (.frz o (.tup (ads.map V.ref))) ∧ o.dict = none ∧ Paired (fun p kv => SqT K H p [kV kv.1, kv.2]) ads kvs ∧
  ∀ p, H p = none → Q (.ref p) (upd H p (.dK (mergeK [] kvs)))
theorem call_dictT {X : Cx} (hc : X.calm = true) : CallR X (.type "dict") (rDictT X.K) := by
  intro pins st τ G vs us R J rv hw
  obtain ⟨a, o, ads, kvs, rfl, ha, od, hp, hq⟩ := hw
  obtain rfl := Vals.ref1 rv
  obtain ⟨hg, hz, its, rz, o', hg', ocl, n, odat⟩ := (show ObjOk X.prog X.w G st.heap a (.frz o (.tup (ads.map V.ref))) from J.hok a _ ha)
  rw [hg] at hg'
  cases hg'
  obtain rfl := refs_at rz
  rw [List.length_map] at hz
  obtain ⟨prs, pv, rk, l1, l2, hpv⟩ := pairsV J hp
  have items : PairItems st.heap (ads.map Value.ref).toArray (fun i => (ads[i]?).getD 0) pv := ⟨by simp [l2], fun j k v z => by
    obtain ⟨b, ky, e1, e2, e3, e4⟩ := hpv j k v z
    refine ⟨?_, ?_⟩
    · show (ads.map Value.ref).toArray[j]? = some (.ref ((ads[j]?).getD 0))
      rw [e1]; simp [e1]
    · show PairAt st.heap ((ads[j]?).getD 0) k v
      rw [e1]; exact .inl e3⟩
  refine PySem.call_dict_pairs (knd := mixKind X.prog X.w) (kvs := prs) (PairArg.tuple a (ads.map Value.ref).toArray (fun i => (ads[i]?).getD 0) pv) (J.ok.hd hc) ⟨⟨o, n, hg, ocl, od, odat⟩, items⟩ ⟨by rw [l1, l2], fun i k v z => ?_⟩ (by rw [l2]; exact hz) fun g' tk dd kk => ?_
  · obtain ⟨b, ky, e1, e2, e3, e4⟩ := hpv i k v z
    exact ⟨ky, e2, e4⟩
  · have ns : (st.heap.objs.size == sysModules) = false := beq_eq_false_iff_ne.mpr (Nat.ne_of_gt J.big)
    have ll : (mergeK [] kvs).length ≤ sizeLine := by
      refine Nat.le_trans (length_mergeK kvs []) ?_
      have := rk.length
      rw [List.length_nil, Nat.zero_add, this, l1]
      exact hz
    refine ⟨.ref st.heap.objs.size, _, J.laid (t' := tk) (o := .dK (mergeK [] kvs)) (fun b u z => kk b u (by simp) z) (Nat.le_refl _) ⟨ll, ns, merged [] prs, KV.merge rk .nil, dd⟩, rfl, hq _ (J.hok.fresh (Nat.le_refl _))⟩
end Z

namespace Z
open PySem L2
/-! ### dicts from whole numbers to whole numbers -/
def encD (al : List (Int × Int)) : List (Key × V) := al.map fun p => (Sum.inl p.1, V.int p.2)
def getI (al : List (Int × Int)) (k : Int) : Option Int := (al.find? fun p => decide (p.1 = k)).map (·.2)
/-- the number at k, 0 if there is none -/
def cf (al : List (Int × Int)) (k : Int) : Int := (getI al k).getD 0
def putI (al : List (Int × Int)) (k v : Int) : List (Int × Int) := if (al.any fun p => decide (p.1 = k)) = true then al.map (fun p => if p.1 = k then (p.1, v) else p) else al ++ [(k, v)]
theorem inl_eq {a k : Int} : decide ((Sum.inl a : Key) = Sum.inl k) = decide (a = k) := by
  by_cases h : a = k
  · subst h; simp
  · rw [decide_eq_false h, decide_eq_false fun e => h (Sum.inl.inj e)]
theorem valV_cons {κ : Type} [DecidableEq κ] {kv : κ × V} {l : List (κ × V)} {k : κ} : valV (kv :: l) k = if kv.1 = k then some kv.2 else valV l k := by
  unfold valV
  rw [List.find?_cons]
  by_cases e : kv.1 = k
  · rw [decide_eq_true e, if_pos e]; rfl
  · rw [decide_eq_false e, if_neg e]
theorem getI_cons {p : Int × Int} {al : List (Int × Int)} {k : Int} : getI (p :: al) k = if p.1 = k then some p.2 else getI al k := by
  unfold getI
  rw [List.find?_cons]
  by_cases e : p.1 = k
  · rw [decide_eq_true e, if_pos e]; rfl
  · rw [decide_eq_false e, if_neg e]
theorem valV_enc : ∀ {al : List (Int × Int)} {k : Int}, valV (encD al) (.inl k) = (getI al k).map V.int
  | [], k => rfl
  | p :: al, k => by
    show valV ((Sum.inl p.1, V.int p.2) :: encD al) (.inl k) = _
    rw [valV_cons, getI_cons, valV_enc (al := al)]
    by_cases e : p.1 = k
    · rw [if_pos e, if_pos (by rw [e])]; rfl
    · rw [if_neg e, if_neg fun z => e (Sum.inl.inj z)]
theorem any_enc (al : List (Int × Int)) (k : Int) : ((encD al).any fun kv => decide (kv.1 = Sum.inl k)) = al.any fun p => decide (p.1 = k) := by
  unfold encD
  rw [List.any_map]
  congr 1
  funext p
  exact inl_eq
theorem putK_enc (al : List (Int × Int)) (k v : Int) : putK (encD al) (.inl k) (.int v) = encD (putI al k v) := by
  unfold putK putI
  rw [any_enc]
  by_cases h : (al.any fun p => decide (p.1 = k)) = true
  · rw [if_pos h, if_pos h]
    unfold encD
    rw [List.map_map, List.map_map]
    refine List.map_congr_left fun p _ => ?_
    show (if (Sum.inl p.1 : Key) = Sum.inl k then _ else _) = _
    by_cases e : p.1 = k
    · rw [if_pos (by rw [e])]
      show _ = (Sum.inl (if p.1 = k then (p.1, v) else p).1, V.int (if p.1 = k then (p.1, v) else p).2)
      rw [if_pos e]
    · rw [if_neg fun z => e (Sum.inl.inj z)]
      show _ = (Sum.inl (if p.1 = k then (p.1, v) else p).1, V.int (if p.1 = k then (p.1, v) else p).2)
      rw [if_neg e]
  · rw [if_neg h, if_neg h]
    unfold encD
    rw [List.map_append]; rfl
theorem getI_none {al : List (Int × Int)} {k : Int} : getI al k = none ↔ k ∉ al.map (·.1) := by
  unfold getI
  rw [Option.map_eq_none_iff, List.find?_eq_none]
  constructor
  · intro h m
    obtain ⟨p, hp, e⟩ := List.mem_map.mp m
    exact h p hp (decide_eq_true e)
  · intro h p hp e
    exact h (List.mem_map.mpr ⟨p, hp, of_decide_eq_true e⟩)
theorem any_iff {al : List (Int × Int)} {k : Int} : (al.any fun p => decide (p.1 = k)) = true ↔ k ∈ al.map (·.1) := by
  rw [List.any_eq_true]
  constructor
  · rintro ⟨p, hp, e⟩
    exact List.mem_map.mpr ⟨p, hp, of_decide_eq_true e⟩
  · intro m
    obtain ⟨p, hp, e⟩ := List.mem_map.mp m
    exact ⟨p, hp, decide_eq_true e⟩
theorem keys_put {al : List (Int × Int)} {k v : Int} : (putI al k v).map (·.1) = if k ∈ al.map (·.1) then al.map (·.1) else al.map (·.1) ++ [k] := by
  unfold putI
  by_cases h : k ∈ al.map (·.1)
  · rw [if_pos (any_iff.mpr h), if_pos h, List.map_map]
    refine List.map_congr_left fun p _ => ?_
    show (if p.1 = k then (p.1, v) else p).1 = p.1
    by_cases e : p.1 = k
    · rw [if_pos e]
    · rw [if_neg e]
  · rw [if_neg fun z => h (any_iff.mp z), if_neg h, List.map_append]; rfl
theorem getI_app : ∀ {al bl : List (Int × Int)} {k : Int}, getI (al ++ bl) k = (getI al k).or (getI bl k)
  | [], bl, k => rfl
  | p :: al, bl, k => by
    rw [List.cons_append, getI_cons, getI_cons]
    by_cases e : p.1 = k
    · rw [if_pos e, if_pos e]; rfl
    · rw [if_neg e, if_neg e]; exact getI_app
theorem getI_map {k v x : Int} : ∀ {al : List (Int × Int)}, getI (al.map fun p => if p.1 = k then (p.1, v) else p) x = if x = k then (getI al x).map (fun _ => v) else getI al x
  | [] => by
    show none = _
    by_cases e : x = k
    · rw [if_pos e]; rfl
    · rw [if_neg e]; rfl
  | p :: al => by
    rw [List.map_cons, getI_cons, getI_cons, getI_map (al := al)]
    by_cases e : p.1 = k
    · rw [if_pos e]
      show (if p.1 = x then some v else _) = _
      by_cases c : x = k
      · have : p.1 = x := by rw [e, c]
        rw [if_pos this, if_pos c, if_pos this]; rfl
      · have : ¬ p.1 = x := fun z => c (by rw [← z, e])
        rw [if_neg this, if_neg c, if_neg c, if_neg this]
    · rw [if_neg e]
      by_cases c : x = k
      · have : ¬ p.1 = x := fun z => e (by rw [z, c])
        rw [if_neg this, if_pos c, if_pos c, if_neg this]
      · rw [if_neg c, if_neg c]
theorem getI_put {al : List (Int × Int)} {k v x : Int} : getI (putI al k v) x = if x = k then some v else getI al x := by
  unfold putI
  by_cases h : k ∈ al.map (·.1)
  · rw [if_pos (any_iff.mpr h), getI_map]
    by_cases c : x = k
    · rw [if_pos c, if_pos c]
      cases e : getI al x with
      | none => exact absurd (c ▸ h) (getI_none.mp e)
      | some y => rfl
    · rw [if_neg c, if_neg c]
  · rw [if_neg fun z => h (any_iff.mp z), getI_app, getI_cons]
    by_cases c : x = k
    · subst c
      rw [if_pos rfl, if_pos rfl, getI_none.mpr h]; rfl
    · have : ¬ k = x := fun z => c z.symm
      show (getI al x).or (if k = x then some v else getI [] x) = _
      rw [if_neg this, if_neg c]
      show (getI al x).or none = _
      cases getI al x <;> rfl
theorem cf_put {al : List (Int × Int)} {k v x : Int} : cf (putI al k v) x = if x = k then v else cf al x := by
  unfold cf
  rw [getI_put]
  by_cases c : x = k
  · rw [if_pos c, if_pos c]; rfl
  · rw [if_neg c, if_neg c]
theorem mergeK_enc : ∀ (ml al : List (Int × Int)), mergeK (encD al) (encD ml) = encD (ml.foldl (fun al p => putI al p.1 p.2) al)
  | [], al => rfl
  | p :: ml, al => by
    show mergeK (putK (encD al) (.inl p.1) (.int p.2)) (encD ml) = _
    rw [putK_enc, mergeK_enc ml]; rfl
theorem merge_nd : ∀ (ml al : List (Int × Int)), ((al ++ ml).map (·.1)).Nodup → ml.foldl (fun al p => putI al p.1 p.2) al = al ++ ml
  | [], al, _ => by rw [List.append_nil]; rfl
  | p :: ml, al, h => by
    have hp : p.1 ∉ al.map (·.1) := fun m => by
      rw [List.map_append, List.map_cons] at h
      exact (List.nodup_append.mp h).2.2 p.1 m p.1 List.mem_cons_self rfl
    have e : putI al p.1 p.2 = al ++ [p] := by
      unfold putI
      rw [if_neg fun z => hp (any_iff.mp z)]
    show ml.foldl _ (putI al p.1 p.2) = _
    rw [e, merge_nd ml (al ++ [p]) (by rw [List.append_assoc]; exact h), List.append_assoc]; rfl
theorem nodup_put {al : List (Int × Int)} {k v : Int} (h : (al.map (·.1)).Nodup) : ((putI al k v).map (·.1)).Nodup := by
  rw [keys_put]
  by_cases c : k ∈ al.map (·.1)
  · rw [if_pos c]; exact h
  · rw [if_neg c]
    refine List.nodup_append.mpr ⟨h, by simp, fun a ha b hb e => ?_⟩
    rw [List.mem_singleton.mp hb] at e
    exact c (e ▸ ha)
/-- the dict, when it is not changed any more -/
def DkI (al : List (Int × Int)) : Pr := ⟨fun v h => ∃ a, v = .ref a ∧ h a = some (.dK (encD al)), fun e ⟨a, x, y⟩ => ⟨a, x, e _ _ y⟩⟩
section
variable {K : PySem.W.Frag} {b : Bs} {Γ : Ctx} {te td ty tb tx : TE} {tr : TA} {t : TT} {P R : Pr} {Dd : Ends} {tz : TS} {ff : St → Hp → Prop} {rr : VK} {bb cc : St → Hp → Prop}
abbrev prI (al : List (Int × Int)) : List PyData := al.map fun p => .tuple [.int p.1, .int p.2]
theorem pairs_I {h : Hp} : ∀ {al : List (Int × Int)} {vs : List V}, DqAll K h vs (prI al) → ∃ ads : List Addr, vs = ads.map V.ref ∧ ∀ H, Ex h H → Paired (fun p (kv : Key × V) => SqT K H p [kV kv.1, kv.2]) ads (encD al)
  | [], vs, q => by cases q; exact ⟨[], rfl, fun _ _ => .nil⟩
  | p :: al, vs, q => by
    cases q with
    | cons d q =>
      obtain ⟨a, u1, u2, rfl, s, d1, d2⟩ := dp_pair d
      obtain ⟨ads, rfl, hp⟩ := pairs_I q
      refine ⟨a :: ads, rfl, fun H e => .cons ?_ (hp H e)⟩
      rw [dp_int d1, dp_int d2] at s
      exact sqT_ex e s
/-- d = dict(t), t a plain tuple of pairs; d is to be changed -/
theorem qm_dict {i : Nat} {al : List (Int × Int)} (a : T Γ te (DPl K (prI al))) (nd : (al.map (·.1)).Nodup) (k : Nx b (Γ.set i none) (some (i, Ct.dict (encD al))) (tz Dd)) (hl : i < Γ.length := by decide) : Nx b Γ none (tSeq (tAsg (tCB (rDictT K) (tCons te tNil)) (gName i)) tz Dd) := fun σ h H x s m => a σ h H x s.st.i _ fun v h1 H1 s1 q => by
  obtain ⟨p, o, xs, rfl, ho, od, dq⟩ := q
  obtain ⟨ads, rfl, hp⟩ := pairs_I dq
  refine ⟨p, o, ads, encD al, rfl, s1.i _ _ ho, od, hp _ s1.i, fun r nr => ?_⟩
  have e0 : mergeK [] (encD al) = encD al := by
    have z := mergeK_enc al []
    rw [merge_nd al [] nd] at z
    exact z
  rw [e0]
  have s2 := s.go s1
  have n1 : h1 r = none := by
    cases z : h1 r with
    | none => rfl
    | some u => rw [s1.i r u z] at nr; cases nr
  have n0 : b.H0 r = none := by
    cases z : b.H0 r with
    | none => rfl
    | some u => rw [s2.st.e r u z] at nr; cases nr
  refine k _ h1 _ ((x.mono s1.s).blur i) (s2.go (Stp.out s2.st.i nr)) ⟨r, _, List.getElem?_set_self (by rw [x.len]; exact hl), n1, n0, upd_same, rfl⟩
/-- d[x] = d.get(x, 0) + n -/
theorem m_dput {i s : Nat} {al : List (Int × Int)} {x n : Int} (hs : Γ[s]? = some (some (I K x))) (a : T Γ tb (I K n)) (hz : al.length < 100000) (k : Nx b Γ (some (i, Ct.dict (encD (putI al x (cf al x + n))))) ff) :
    Nx b Γ (some (i, Ct.dict (encD al))) (sDPut (tVar i) (tVar s) (tOp (rI0 fun i j => .int (i + j)) (tDGet2 (tVar i) (tVar s) (tC (.int 0))) tb) ⟨ff, rr, bb, cc⟩) := fun σ h H en ok m => by
  obtain ⟨l, o, m⟩ := m
  obtain rfl := m.ct
  obtain ⟨v, hv, dv⟩ := en.at_ s _ hs
  obtain rfl := dp_int dv
  refine ⟨.ref l, m.at_, l, rfl, .inl ⟨_, .inl m.oH⟩, .int x, hv, _, DGet.k (k := .inl x) m.oH, ?_⟩
  rw [valV_enc]
  have e1 : ((getI al x).map V.int).getD (.int 0) = .int (cf al x) := by
    unfold cf
    cases getI al x <;> rfl
  rw [e1]
  refine a σ h H en ok.st.i _ fun u h1 H1 s1 q => ⟨_, _, rfl, dp_int q, .ref l, m.at_, .int x, hv, ?_⟩
  have o1 := s1.e l _ m.oH
  have n1 := s1.f l _ m.oH m.nh
  refine ⟨l, _, rfl, DPut.k (k := .inl x) o1 (Evl.sz_lt (by unfold encD; rw [List.length_map]; exact hz)), ?_⟩
  rw [putK_enc]
  have s2 := ok.go s1
  refine k σ h1 _ (en.mono s1.s) ⟨⟨fun a o e => ?_, s2.st.s, fun a o e => ?_, s2.st.f⟩, s2.kn⟩ ⟨l, _, m.at_, n1, m.n0, upd_same, rfl⟩
  · rw [upd_ne (ne_of_none e m.n0)]; exact s2.st.e a o e
  · rw [upd_ne (ne_of_none e n1)]; exact s2.st.i a o e
theorem m_freezeD {i : Nat} {al : List (Int × Int)} {F : St → Hp → Prop} (k : Nx b (Γ.set i (some (DkI al))) none F) (hl : i < Γ.length := by decide) : Nx b Γ (some (i, Ct.dict (encD al))) F := fun σ h H x s m => by
  obtain ⟨l, o, m⟩ := m
  obtain rfl := m.ct
  have e1 : Ex h (upd h l (.dK (encD al))) := fun a o e => by rw [upd_ne (ne_of_none e m.nh)]; exact e
  refine k σ (upd h l (.dK (encD al))) H ((x.mono e1).set_open i hl ⟨l, rfl, upd_same⟩ m.at_) ⟨⟨s.st.e, fun a o e => e1 a o (s.st.s a o e), fun a o e => ?_, fun a o e n => ?_⟩, fun a o e => e1 a o (s.kn a o e)⟩ trivial
  · by_cases c : a = l
    · subst c; rw [upd_same] at e; cases e; exact m.oH
    · rw [upd_ne c] at e; exact s.st.i a o e
  · rw [upd_ne (ne_of_none e m.n0)]
    exact s.st.f a o e n
theorem t_dget {al : List (Int × Int)} {x n : Int} (a : T Γ td (DkI al)) (c : T Γ ty (I K x)) (g : getI al x = some n) : T Γ (tDGet td ty) (I K n) := fun σ h H en e Q k => a σ h H en e _ fun v h1 H1 s1 q1 => c σ h1 H1 (en.mono s1.s) s1.i _ fun u h2 H2 s2 q2 => by
  obtain ⟨l, rfl, hl⟩ := q1
  rw [dp_int q2]
  have z : valV (encD al) (.inl x) = some (.int n) := by rw [valV_enc, g]; rfl
  exact ⟨l, .int n, rfl, z ▸ DGet.k (k := .inl x) (s2.e _ _ (s1.i _ _ hl)), k _ h2 H2 (s1.trans s2) (.int n)⟩
theorem t_dget2 {al : List (Int × Int)} {x : Int} (a : T Γ td (DkI al)) (c : T Γ ty (I K x)) : T Γ (tDGet2 td ty (tC (.int 0))) (I K (cf al x)) := fun σ h H en e Q k => a σ h H en e _ fun v h1 H1 s1 q1 => by
  obtain ⟨l, rfl, hl⟩ := q1
  refine ⟨l, rfl, .inl ⟨_, .inl (s1.i _ _ hl)⟩, c σ h1 H1 (en.mono s1.s) s1.i _ fun u h2 H2 s2 q2 => ?_⟩
  rw [dp_int q2]
  refine ⟨_, DGet.k (k := .inl x) (s2.e _ _ (s1.i _ _ hl)), ?_⟩
  rw [valV_enc]
  have e1 : ((getI al x).map V.int).getD (.int 0) = .int (cf al x) := by
    unfold cf
    cases getI al x <;> rfl
  rw [e1]
  exact k _ h2 H2 (s1.trans s2) (.int _)
theorem fnp_sortedD {al : List (Int × Int)} (h64 : al.length < 64) : FnP (fun xs H Q => ∃ (a : Addr) (kvs : List (Key × V)) (ks : List Int), xs = [.ref a] ∧ Rd H a (.dK kvs) ∧ kvs.map (·.1) = ks.map Sum.inl ∧ ks.length < 64 ∧
    ∀ (ys : List Int) (p : Addr), ys.Perm ks → ys.Pairwise (· ≤ ·) → H p = none → Q (.ref p) (upd H p (.lst (ys.map V.int)))) [DkI al] (Pr.some fun ys : { ys : List Int // ys.Perm (al.map (·.1)) ∧ ys.Pairwise (· ≤ ·) } => D K (dI ys.1)) := fun vs h H q e Q k => by
  cases q with
  | cons a q =>
    cases q
    obtain ⟨l, rfl, hl⟩ := a
    refine ⟨l, encD al, al.map (·.1), rfl, .inl (e _ _ hl), by unfold encD; rw [List.map_map, List.map_map]; rfl, by rw [List.length_map]; exact h64, fun ys p py sy np => k _ (upd h p (.lst (ys.map V.int))) _ (Stp.new e np) ⟨⟨ys, py, sy⟩, ints_dp upd_same⟩⟩
end
end Z

namespace Z
open PySem L2
section
variable {K : PySem.W.Frag} {Γ : Ctx} {te : TE} {t : TT} {P R : Pr}
/-- [te for x in l if t], l one of many lists -/
theorem t_lcLS {β : Type _} {A : Pr} {tl : TE} {j : Nat} {ds : β → List PyData} {φ : β → Nat → Bool → Prop} (G : β → Nat → List Pr → Prop) (hA : ∀ v h, A.p v h → ∃ s a xs, v = .ref a ∧ SqL K h a xs ∧ DqAll K h xs (ds s)) (a : T Γ tl A) (hn : ∀ s, (ds s).length ≤ 50000) (g0 : ∀ s, G s 0 []) (hz : ∀ s i Ps, G s i Ps → Ps.length ≤ i)
    (ht : ∀ s, ∀ (i : Nat) d, (ds s)[i]? = some d → TB ((wpΓ Γ [j]).set j (some (D K d))) t (φ s i))
    (hy : ∀ s, ∀ (i : Nat) d, (ds s)[i]? = some d → φ s i true → ∀ Ps, G s i Ps → ∃ (α : Type) (f : α → Pr), T ((wpΓ Γ [j]).set j (some (D K d))) te (Pr.some f) ∧ ∀ a, G s (i + 1) (Ps ++ [f a]))
    (hno : ∀ s, ∀ (i : Nat) d, (ds s)[i]? = some d → φ s i false → ∀ Ps, G s i Ps → G s (i + 1) Ps) (hd : ∀ s Ps, G s (ds s).length Ps → ∀ v h, (L K Ps).p v h → P.p v h) : T Γ (tLc (iList K tl) (gName j) t te [j]) P := fun σ h H x e Q k => a σ h H x e _ fun v h1 H1 s1 q => by
  obtain ⟨s0, ad, xs, rfl, sq, dp⟩ := hA _ _ q
  refine ⟨ad, rfl, ⟨xs, sqL_ex s1.i sq⟩, fun Dl hD => ?_⟩
  refine lc_list (K := K) (a := ad) (xs := xs) (Lw h1 H1 (G s0) Dl) (lw_start s1.i hD (g0 s0)) (fun i H' hi p => ?_) (fun i y H' hi p => ?_) (fun H' p => ?_)
  · obtain ⟨h, Ps, vs, g, hv, hl, hn', st⟩ := p.ex
    refine sqL_ex (h := h) (fun a o e => ?_) (sqL_ex st.s sq)
    have z' : (if a = Dl then none else H' a) = some o := st.i _ _ e
    by_cases c : a = Dl
    · rw [if_pos c] at z'; cases z'
    · rw [if_neg c] at z'; exact z'
  · obtain ⟨d, hd', dd⟩ := dpa_get' dp hi
    have hi' := (List.getElem?_eq_some_iff.mp hd').1
    exact ⟨wipe1, lc_turn p hD (fun Ps g => by have := hz s0 i Ps g; have := hn s0; omega) (fun h2 e2 => ((x.mono s1.s).mono e2).wp [j] |>.set j (dp_ex e2 dd)) (ht s0 i d hd') (hy s0 i d hd') (hno s0 i d hd')⟩
  · rw [dpa_len dp] at p
    obtain ⟨h', Ps, g, st, q⟩ := lw_end (K := K) p hD s1.i
    exact k _ h' H' (s1.trans st) (hd s0 Ps g _ _ q)

theorem fnp_some {β : Sort _} {r : List V → Hp → VK → Prop} {f g : β → Pr} (a : ∀ s, FnP r [f s] (g s)) : FnP r [Pr.some f] (Pr.some g) := fun vs h H q e Q k => by
  cases q with
  | cons q z =>
    cases z
    obtain ⟨s, q⟩ := q
    exact a s _ h H (.cons q .nil) e Q fun v h' H' st w => k v h' H' st ⟨s, w⟩
theorem isT_pl {ds : List PyData} : IsT K (DPl K ds) ds := fun v h q => dp_tup (dpl_D q)
theorem opp_neI0 {i j : Int} : OpP rNe (I K i) (I K j) (B K (!decide (i = j))) := opp_neI
end
end Z
namespace Z
open PySem L2
section
variable {K : PySem.W.Frag} {Γ : Ctx} {ta : TE}
/-- C(..), the argument one of many -/
theorem t_mkObS {β : Sort _} {C : Addr} {f : Str} {pre : Pr → Prop} {F : β → Pr} (a : T Γ ta (Pr.some F)) (p : ∀ s, pre (F s)) : T Γ (StX.tMakeR C (spIni K C f pre) E0 (tCons ta tNil)) (Pr.some fun s => Ob K C f (F s)) := fun σ h H x e Q k => a σ h H x e _ fun v h1 H1 s1 ⟨s, q⟩ => by
  intro y dx ny nd ne
  have nh : h1 y = none := by
    cases z : h1 y with
    | none => rfl
    | some o => rw [s1.i y o z] at ny; cases ny
  have eH : Ex H1 (upd (upd H1 dx (.own y)) y (.ins C dx [])) := fun b o z => by rw [upd_ne (ne_of_none z ny), upd_ne (ne_of_none z nd)]; exact z
  refine ⟨y, dx, F s, v, h1, rfl, upd_same, fun b o z => eH b o (s1.i b o z), nh, q, p s, fun h3 H3 s3 => ⟨rfl, ?_⟩⟩
  have hy3 : H3 y = some (.ins C dx []) := s3.e _ _ upd_same
  have ny3 : h3 y = none := s3.f _ _ upd_same nh
  have e3 : Ex h3 (upd h3 y (.ins C dx [(f, v)])) := fun b o z => by rw [upd_ne (ne_of_none z ny3)]; exact z
  refine k (.ref y) (upd h3 y (.ins C dx [(f, v)])) _ (s1.trans ⟨fun b o z => ?_, fun b o z => e3 b o (s3.s b o z), fun b o z => ?_, fun b o z n => ?_⟩) ⟨s, y, dx, v, rfl, upd_same, (F s).mono e3 ((F s).mono s3.s q)⟩
  · rw [upd_ne (ne_of_none z ny)]
    exact s3.e b o (eH b o z)
  · by_cases c : b = y
    · subst c; rw [upd_same] at z ⊢; exact z
    · rw [upd_ne c] at z ⊢; exact s3.i b o z
  · rw [upd_ne (ne_of_none z ny)]
    exact s3.f b o (eH b o z) n
end
end Z
namespace Z
open PySem L2
section
variable {K : PySem.W.Frag} {b : Bs} {Γ : Ctx} {te ta : TE} {P R : Pr} {Dd : Ends} {tz : TS} {ff : St → Hp → Prop} {rr : VK} {bb cc : St → Hp → Prop}
/-- the truth of a tuple -/
theorem tb_truT {ds : List PyData} (a : T Γ ta (D K (.tuple ds))) : TB Γ (fun σ H Q => ta σ H fun x H' => ∃ k, TruV K x H' k ∧ Q k H') (fun c => c = !ds.isEmpty) := fun σ h H x e Q k => a σ h H x e _ fun v h1 H1 s1 q => by
  obtain ⟨p, xs, rfl, s, z⟩ := dp_tup q
  refine ⟨!xs.isEmpty, .inr (.inl ⟨xs, sqT_ex s1.i s, rfl⟩), k _ h1 H1 s1 ?_⟩
  cases z <;> rfl
/-- x.append(e), e reads x: a flat answer -/
theorem m_appV {i : Nat} {Ps : List Pr} (a : T (Γ.set i (some (L K Ps))) te P) (fl : Flat P) (hz : Ps.length < 100000) (k : Nx b Γ (some (i, Ct.lst (Ps ++ [P]))) ff) (hl : i < Γ.length := by decide) : Nx b Γ (some (i, Ct.lst Ps)) (tDrop (tBM K "list" rAppend (tVar i) (tCons te tNil)) ⟨ff, rr, bb, cc⟩) := fun σ h H x s m => by
  obtain ⟨l, o, m⟩ := m
  obtain ⟨vs, rfl, hv⟩ := m.ct
  have e1 : Ex h (upd h l (.lst vs)) := fun a o e => by rw [upd_ne (ne_of_none e m.nh)]; exact e
  have i1 : Ex (upd h l (.lst vs)) H := fun a o e => by
    by_cases c : a = l
    · subst c; rw [upd_same] at e; cases e; exact m.oH
    · rw [upd_ne c] at e; exact s.st.i a o e
  refine ⟨.ref l, m.at_, .inl ⟨rfl, vs, .inl (.inl m.oH)⟩, ?_⟩
  refine a σ (upd h l (.lst vs)) H ((x.mono e1).set_open i hl ⟨l, vs, rfl, upd_same, hv.mono e1⟩ m.at_) i1 _ fun v h1 H1 s1 q => ?_
  have o1 : H1 l = some (.lst vs) := s1.e l _ m.oH
  have e2 : Ex h (fun c => if c = l then none else h1 c) := fun a o e => by
    show (if a = l then none else h1 a) = some o
    rw [if_neg (ne_of_none e m.nh)]
    exact s1.s a o (e1 a o e)
  have q' : P.p v (fun c => if c = l then none else h1 c) := fl v _ _ q
  refine ⟨l, vs, v, rfl, rfl, o1, Evl.sz_lt (by rw [hv.len]; exact hz), ?_⟩
  refine k σ (fun c => if c = l then none else h1 c) _ (x.mono e2) ⟨⟨fun a o e => ?_, fun a o e => e2 a o (s.st.s a o e), fun a o e => ?_, fun a o e n => ?_⟩, fun a o e => e2 a o (s.kn a o e)⟩ ⟨l, _, m.at_, if_pos rfl, m.n0, upd_same, _, rfl, (hv.mono e2).app q'⟩
  · rw [upd_ne (ne_of_none e m.n0)]
    exact s1.e a o (s.st.e a o e)
  · have e' : (if a = l then none else h1 a) = some o := e
    by_cases c : a = l
    · rw [if_pos c] at e'; cases e'
    · rw [if_neg c] at e'
      rw [upd_ne c]
      exact s1.i a o e'
  · show (if a = l then none else h1 a) = none
    by_cases c : a = l
    · rw [if_pos c]
    · rw [if_neg c]
      refine s1.f a o (s.st.e a o e) ?_
      rw [upd_ne c]
      exact s.st.f a o e n
theorem opp_ixLPI {ns : List Int} {i : Int} {z : Int} (q : atI ns i = some z) : OpP (rIxL K) (L K (ns.map fun n => I K n)) (I K i) (I K z) := opp_ixLP (atI_map (f := fun n => I K n) q)
end
end Z

namespace Z
open PySem L2
/-! ### an own object times a whole number -/
section
variable {prog : Program} {w : World} {A : Around} {E : Value → Shared → Prop} {s : Shared} {K : PySem.W.Frag} {x C Lm f : Addr} {h₀ : Heap} {m : Str → Option Value} {ox : Obj} {od : Option Obj}
theorem mul_int {n : Int} {t : Tok} {Q : Value → Shared → Prop} (F : PyProof.Rows.Fr h₀ Lm s.heap m) (X₀ : K.In h₀) (J : PySem.W.InstAt s.heap x ox C od) (sf : PySem.W.selfFirst K C = true) (hi : PySem.W.subIn K (.type "int") (.ref C) = some false) (hr : PySem.W.findIn K (.ref C) "__rmul__" = some none)
    (hs : PySem.W.findIn K (.ref C) "__mul__" = some (some (.ref f))) (hf : PySem.W.isFn K (.ref f) = true)
    (q : wpAny (model prog w) A (call (.ref f) [.ref x, .int n t]) (PySem.W.CmpBack Q) E s) : wpAny (model prog w) A (binaryOp .Mult (.ref x) (.int n t)) Q E s := by
  have XH := X₀.keeps F.keep
  obtain ⟨cd, hcd, hm⟩ := PySem.W.any_some sf
  obtain ⟨rest, hm⟩ : ∃ rest, cd.mro = .ref C :: rest := by
    cases z : cd.mro with
    | nil => rw [z] at hm; cases hm
    | cons a r => exact ⟨r, by rw [z, List.head?_cons] at hm; cases (beq_iff_eq.mp hm); rfl⟩
  unfold binaryOp
  refine wpAny_holding (wpAny_bind ?_)
  unfold binaryOp1
  refine wpAny_bind (J.type.here (wpAny_bind ?_))
  show wpAny _ _ (pure (Value.type "int")) _ _ _
  refine wpAny_pure (wpAny_bind ((PySem.W.fills_K (nm := "mul") XH hcd hm hs).here ?_))
  have ne : ((Value.ref C) == (Value.type "int")) = false := rfl
  simp only [ne, Bool.false_eq_true, if_false]
  rw [show fillsNumberSlot (.type "int") "mul" = pure true from PySem.F.fills_int_mul]
  refine wpAny_bind (wpAny_pure ?_)
  simp only [Bool.and_self, if_true]
  refine wpAny_bind ((PySem.W.looks_subIn XH hi).here ?_)
  simp only [Bool.false_eq_true, if_false, Bool.not_false, Bool.and_self, if_true]
  have hs' : PySem.W.findIn K (.ref C) (dunder "mul") = some (some (.ref f)) := hs
  have hr' : PySem.W.findIn K (.ref C) (dunderR "mul") = some none := hr
  have slot : PySem.W.Looks (model prog w) s.heap (numberSlotInPython (.ref C) "mul") true := by
    intro A1 Q1 E1 s1 k1 q1
    unfold numberSlotInPython
    refine wpAny_bind (PySem.W.looks_findIn XH hs' A1 _ _ s1 k1 ?_)
    refine wpAny_bind (wpAny_pure ?_)
    refine wpAny_bind (PySem.W.looks_findIn XH hr' A1 _ _ s1 k1 ?_)
    refine wpAny_bind (wpAny_pure ?_)
    exact wpAny_pure q1
  refine wpAny_bind (slot.here ?_)
  simp only [if_true]
  have slotI : numberSlotInPython (.type "int") "mul" = pure false := rfl
  rw [slotI]
  refine wpAny_bind (wpAny_pure ?_)
  simp only [Bool.not_false, if_true]
  rw [show typeLookup (.type "int") (dunderR "mul") = pure (some (.builtin "int.__rmul__")) from PySem.F.slot_int_rmul.lookup]
  refine wpAny_bind (wpAny_pure ?_)
  refine wpAny_bind (m := tryMethod (.ref x) _ (.int n t)) ?_
  unfold tryMethod
  refine wpAny_bind (PySem.W.special_fn XH J hs (beq_iff_eq.mp hf) (wpAny_mono q (fun v s' z => ?_) fun _ _ z => z))
  cases v <;> first | exact z.elim | exact wpAny_pure (wpAny_pure (wpAny_pure z))
end
end Z
namespace Z
open PySem L2
structure MulK (K : PySem.W.Frag) (C : Addr) : Prop where
  sf : PySem.W.selfFirst K C = true
  hi : PySem.W.subIn K (.type "int") (.ref C) = some false
  hr : PySem.W.findIn K (.ref C) "__rmul__" = some none
def rOwnMul (C : Addr) (sp : Sp) : R2 := fun x y H Q => ∃ a dx fs n, x = .ref a ∧ H a = some (.ins C dx fs) ∧ y = .int n ∧ sp [x, y] H Q E0
theorem op_ownMul {X : Cx} {k j : Nat} {sp : Sp} {C : Addr} (c : Mx X.prog X.w X.K X.mg X.base k C "__mul__" sp) (mk : MulK X.K C) (hr : Room j X.A) (hk : k ≤ j) : OpR X (binaryOp .Mult) (rOwnMul C sp) := by
  intro pins s σ H x y v u Q I rx ry h
  obtain ⟨a, dx, fs, n, rfl, ho, rfl, q⟩ := h
  obtain rfl : v = Value.ref a := rx
  obtain ⟨t, rfl⟩ := id ry
  obtain ⟨f, hs, hf, _, G⟩ := c.ex
  obtain ⟨mA, J, _⟩ := ins_get I.hok ho
  obtain ⟨od, J, _⟩ := J.look
  obtain ⟨m, hF⟩ := I.fr
  refine mul_int hF I.ok.mod.kin J mk.sf mk.hi mk.hr hs hf ?_
  refine wpAny_mono (run_own G (hr.mono hk) rfl I (.cons (show RelV (.ref a) (.ref a) from rfl) (.cons ry .nil)) q) (fun w s' z => ?_) fun _ _ e => e
  obtain ⟨v', H', I', rv, z⟩ := z
  exact back_of (relV_ni rv) ⟨v', H', I', rv, z⟩
section
variable {K : PySem.W.Frag} {Γ : Ctx} {C : Addr} {f : Str} {F G : Pr}
abbrev rOwnBin (C : Addr) (sp : Sp) : R2 := fun x y H Q => ∃ a dx fs b dy gs, x = .ref a ∧ H a = some (.ins C dx fs) ∧ y = .ref b ∧ H b = some (.ins C dy gs) ∧ sp [x, y] H Q E0
theorem opp_ownBin {α : Type _} {args : α → List Pr} {pre : α → Prop} {res : α → Pr} (a : α) (ha : args a = [Ob K C f F, Ob K C f G]) (p : pre a) : OpP (rOwnBin C (Sv args pre res)) (Ob K C f F) (Ob K C f G) (res a) := fun x y h H q1 q2 e Q k => by
  obtain ⟨o, dx, u, rfl, ho, z⟩ := id q1
  obtain ⟨o2, dx2, u2, rfl, ho2, z2⟩ := id q2
  exact ⟨o, dx, _, o2, dx2, _, rfl, e _ _ ho, rfl, e _ _ ho2, a, h, e, by rw [ha]; exact .cons q1 (.cons q2 .nil), p, fun v h' H' s z => k v h' H' s z⟩
theorem opp_ownMul {α : Type _} {args : α → List Pr} {pre : α → Prop} {res : α → Pr} {n : Int} (a : α) (ha : args a = [Ob K C f F, I K n]) (p : pre a) : OpP (rOwnMul C (Sv args pre res)) (Ob K C f F) (I K n) (res a) := fun x y h H q1 q2 e Q k => by
  obtain ⟨o, dx, u, rfl, ho, z⟩ := id q1
  exact ⟨o, dx, _, n, rfl, e _ _ ho, dp_int q2, a, h, e, by rw [ha]; exact .cons q1 (.cons q2 .nil), p, fun v h' H' s z => k v h' H' s z⟩
theorem unp_ownNeg {α : Type _} {args : α → List Pr} {pre : α → Prop} {res : α → Pr} (a : α) (ha : args a = [Ob K C f F]) (p : pre a) : UnP (fun x H Q => ∃ a dx fs, x = .ref a ∧ H a = some (.ins C dx fs) ∧ Sv args pre res [x] H Q E0) (Ob K C f F) (res a) := fun x h H q1 e Q k => by
  obtain ⟨o, dx, u, rfl, ho, z⟩ := id q1
  exact ⟨o, dx, _, rfl, e _ _ ho, a, h, e, by rw [ha]; exact .cons q1 .nil, p, fun v h' H' s z => k v h' H' s z⟩
theorem opp_eqS {x y : Str} : OpP rEq (D K (.str x)) (D K (.str y)) (B K (decide (x = y))) := fun u v h H p q z Q k => by
  rw [dp_str p, dp_str q]
  refine ⟨rfl, ?_⟩
  have e : decide (V.str x = V.str y) = decide (x = y) := by
    by_cases c : x = y
    · subst c; simp
    · rw [decide_eq_false c, decide_eq_false fun w => c (V.str.inj w)]
  rw [e]
  exact k _ h H (Stp.refl z) (.bl _)
end
end Z

namespace Z
open PySem L2 PyProof.Rows
/-! ### list(range(a, b, c)) -/
def rgC (i c : Int) (n : Nat) : List V := (List.range n).map fun (k : Nat) => V.int (i + (k : Int) * c)
def tLstR3 (t : TA) : TE := fun σ H Q => t σ H fun vs H1 => ∃ (i j c : Int) (n : Nat), vs = [.int i, .int j, .int c] ∧ RgC i j c n ∧ n ≤ 2 ^ 24 ∧ ∀ q, H1 q = none → Q (.ref q) (upd H1 q (.lst (rgC i c n)))
theorem vals_rgC {i c : Int} {n : Nat} {acc : Array Value} (h : ItemsOf (fun k v => ∃ t, v = Value.int (i + k * c) t) acc n) : Vals (rgC i c n) acc.toList := by
  have e : acc.toList.length = n := by rw [Array.length_toList]; exact h.1
  have go : ∀ (m : Nat) (us : List Value) (off : Nat), us.length = m → (∀ k v, us[k]? = some v → ∃ t, v = Value.int (i + ((off + k : Nat) : Int) * c) t) → Vals ((List.range m).map fun (k : Nat) => V.int (i + ((off + k : Nat) : Int) * c)) us := by
    intro m
    induction m with
    | zero => intro us off hl _; cases us with
      | nil => exact .nil
      | cons _ _ => simp at hl
    | succ m ih =>
      intro us off hl hv
      cases us with
      | nil => simp at hl
      | cons u us =>
        rw [List.range_succ_eq_map, List.map_cons, List.map_map]
        refine .cons (hv 0 u rfl) ?_
        have z := ih us (off + 1) (by simpa using hl) fun k v hk => by
          obtain ⟨t, ht⟩ := hv (k + 1) v (by simpa using hk)
          exact ⟨t, by rw [ht]; congr 3; omega⟩
        have e2 : (fun k : Nat => V.int (i + ((off + 1 + k : Nat) : Int) * c)) = (fun k : Nat => V.int (i + ((off + k : Nat) : Int) * c)) ∘ Nat.succ := by
          funext k
          show V.int _ = V.int _
          congr 3
          omega
        rw [e2] at z
        exact z
  have z := go n acc.toList 0 e fun k v hk => by
    obtain ⟨t, ht⟩ := h.2 k v (by simpa using hk)
    exact ⟨t, by rw [ht]; congr 3; omega⟩
  have e3 : (fun k : Nat => V.int (i + ((0 + k : Nat) : Int) * c)) = fun k : Nat => V.int (i + (k : Int) * c) := by
    funext k
    rw [Nat.zero_add]
  rw [e3] at z
  exact z
theorem pe_listR3 {X : Cx} {a b c : Expr} {t : TA} {p p2 pos pos2 : Pos} (hc : X.calm = true) (hg : Gl X "list") (hm : X.mg "list" = none) (hg2 : Gl X "range") (hm2 : X.mg "range" = none) (ha : PA X [a, b, c] t)
    (hs : starEach [a, b, c] X.env = (false, eval a X.env) :: starEach [b, c] X.env := by rfl) (hpl : (backTo pos2 (starEach [b, c] X.env)).any (·.1) = false := by rfl)
    (na : starEach [.Call (.Name "range" p2) [a, b, c] [] pos2] X.env = (false, eval (.Call (.Name "range" p2) [a, b, c] [] pos2) X.env) :: starEach [] X.env := by rfl) :
    PE X (.Call (.Name "list" p) [.Call (.Name "range" p2) [a, b, c] [] pos2] [] pos) (tLstR3 t) := by
  refine ⟨fun pins st τ G R J hw => ?_⟩
  have inner : wpAny (model X.prog X.w) X.A (eval (.Call (.Name "range" p2) [a, b, c] [] pos2) X.env) (fun x s1 => ∃ (i j d : Int) (n : Nat) (r : Addr) (u1 u2 u3 : Tok) (H1 : Hp), x = .ref r ∧ IsRange s1.heap r i j d u1 u2 u3 ∧ Inv X pins τ H1 s1 ∧ RgC i j d n ∧ n ≤ 2 ^ 24 ∧ ∀ q, H1 q = none → R (.ref q) (upd H1 q (.lst (rgC i d n)))) X.xe st := by
    refine Call_ (ld_blt J hg2 hm2 boot_range (PyProof.Rows.callWith_type1 (thn (ha.run pos2 pins st τ G _ J hw) fun us s1 ⟨vs, H1, J1, rv, z⟩ => ?_) hs hpl))
    obtain ⟨i, j, d, n, rfl, rc, hn, hq⟩ := z
    cases rv with
    | cons r1 rv =>
      cases rv with
      | cons r2 rv =>
        cases rv with
        | cons r3 rv =>
          cases rv
          obtain ⟨u1, rfl⟩ := r1
          obtain ⟨u2, rfl⟩ := r2
          obtain ⟨u3, rfl⟩ := r3
          refine call_range_3 rc.1 ?_ (.inl (PyProof.noPylong_small rc.2.1))
          exact ⟨i, j, d, n, _, u1, u2, u3, H1, rfl, IsRange.new .., J1.kept (t' := s1.toks) fun b o z => Heap.get?_push_of_some _ z, rc, hn, hq⟩
  refine Call_ (ld_blt J hg hm boot_list (PyProof.Rows.callWith_type1 (args_cons (thn inner fun x s1 z => args_nil ?_) na) na))
  obtain ⟨i, j, d, n, r, u1, u2, u3, H1, rfl, hr, J1, rc, hn, hq⟩ := z
  refine call_list_range (n := n) (J1.ok.hd hc) hr rc.2.2.1 rc.2.2.2 hn fun h' tk acc c' hk e' hi => ?_
  refine ⟨.ref s1.heap.objs.size, _, J1.laid (t' := tk) (o := .lst (rgC i d n)) hk (Nat.le_refl _) ⟨?_, acc.toList, c', vals_rgC hi, ?_⟩, rfl, hq _ (J1.hok.fresh (Nat.le_refl _))⟩
  · unfold rgC
    rw [List.length_map, List.length_range, sizeLine_eq]; omega
  · rw [Array.toArray_toList]; exact e'
end Z
namespace Z
open PySem L2
section
variable {K : PySem.W.Frag} {Γ : Ctx} {ta tb tc : TE}
theorem t_listR2 {i j : Int} (a : T Γ ta (I K i)) (c : T Γ tb (I K j)) (hb : -1000000000 ≤ i ∧ i ≤ 1000000000 ∧ -1000000000 ≤ j ∧ j ≤ 1000000000 ∧ j - i ≤ 50000) : T Γ (tLstRg (tRg2 ta tb)) (D K (dI ((List.range (j - i).toNat).map fun (k : Nat) => i + (k : Int)))) := fun σ h H x e Q k => a σ h H x e _ fun v h1 H1 s1 q1 => c σ h1 H1 (x.mono s1.s) s1.i _ fun u h2 H2 s2 q2 => by
  refine ⟨i, j, dp_int q1, dp_int q2, ⟨by omega, by omega, by omega, by omega, by omega⟩, fun q nq => ?_⟩
  refine k _ (upd h2 q (.lst (rgV i j))) _ ((s1.trans s2).trans (Stp.new s2.i nq)) ?_
  have e1 : rgV i j = ((List.range (j - i).toNat).map fun (k : Nat) => i + (k : Int)).map V.int := by
    unfold rgV
    rw [List.map_map]; rfl
  rw [e1]
  exact ints_dp upd_same
theorem t_listR3 {i j : Int} (a : T Γ ta (I K i)) (c : T Γ tb (I K j)) (d : T Γ tc (I K (-1))) (hb : -1000000000 ≤ i ∧ i ≤ 1000000000 ∧ -1000000000 ≤ j ∧ j ≤ 1000000000 ∧ i - j ≤ 50000) : T Γ (tLstR3 (tCons ta (tCons tb (tCons tc tNil)))) (D K (dI ((List.range (i - j).toNat).map fun (k : Nat) => i - (k : Int)))) := fun σ h H x e Q k => (ta_cons a (ta_cons c (ta_cons d ta_nil))) σ h H x e _ fun vs h1 H1 s1 q => by
  cases q with
  | cons q1 q =>
    cases q with
    | cons q2 q =>
      cases q with
      | cons q3 q =>
        cases q
        rw [dp_int q1, dp_int q2, dp_int q3]
        refine ⟨i, j, -1, _, rfl, RgC.neg (by omega) (by omega) (by omega) (by omega), by omega, fun q nq => ?_⟩
        refine k _ (upd h1 q (.lst (rgC i (-1) (i - j).toNat))) _ (s1.trans (Stp.new s1.i nq)) ?_
        have e1 : rgC i (-1) (i - j).toNat = ((List.range (i - j).toNat).map fun (k : Nat) => i - (k : Int)).map V.int := by
          unfold rgC
          rw [List.map_map]
          refine List.map_congr_left fun k _ => ?_
          show V.int (i + (k : Int) * -1) = V.int (i - (k : Int))
          congr 1
          omega
        rw [e1]
        exact ints_dp upd_same
end
end Z
namespace Z
open PySem L2
section
variable {K : PySem.W.Frag} {b : Bs} {Γ : Ctx} {μ : Mo} {te : TE} {Dd : Ends} {tz : TS} {ff : St → Hp → Prop} {rr : VK} {bb cc : St → Hp → Prop}
/-- x, y = a pair -/
theorem n_unp2 {i j : Nat} {d e : PyData} (a : T Γ te (D K (.tuple [d, e]))) (k : Nx b ((Γ.set i (some (D K d))).set j (some (D K e))) μ ff) (hm : mok μ i = true := by rfl) (hm2 : mok μ j = true := by rfl) : Nx b Γ μ (tAsg te (gTup K 2 (gCons (gName i) (gCons (gName j) gNil))) ⟨ff, rr, bb, cc⟩) := fun σ h H x s m => a σ h H x s.st.i _ fun v h1 H1 s1 q => by
  obtain ⟨ad, u1, u2, rfl, st, d1, d2⟩ := dp_pair q
  exact ⟨ad, [u1, u2], rfl, sqT_ex s1.i st, rfl, u1, [u2], rfl, u2, [], rfl, rfl, k _ h1 H1 (((x.mono s1.s).set i d1).set j d2) (s.go s1) (((m.go s1).set hm).set hm2)⟩
theorem q_unp2 {i j : Nat} {d e : PyData} (a : T Γ te (D K (.tuple [d, e]))) (k : Nx b ((Γ.set i (some (D K d))).set j (some (D K e))) μ (tz Dd)) (hm : mok μ i = true := by rfl) (hm2 : mok μ j = true := by rfl) : Nx b Γ μ (tSeq (tAsg te (gTup K 2 (gCons (gName i) (gCons (gName j) gNil)))) tz Dd) := n_unp2 a k hm hm2
end
end Z

namespace Z
open PySem L2
/-! ### values as plain things: what a run's values stand for -/
/-- the classes of memories and of rigs -/
structure Cl where
  C : Addr
  R : Addr
inductive W where
  | non | bl (b : Bool) | int (i : Int) | str (s : Str)
  | tup (xs : List W) | lst (xs : List W)
  | rig (al : List (Int × Int)) | arm (al : List (Int × Int)) | mem (ps : List Int)
  | src | scr (ns : List Int) | dct (al : List (Int × Int))
  | ty (n : String) | cls (k : Bool)
  | oth (P : Pr)
/-- the class of this kind: true rigs, false memories -/
def Cl.at (c : Cl) : Bool → Addr | true => c.R | false => c.C
section
variable (K : PySem.W.Frag) (c : Cl)
mutual
def W.p : W → Pr
  | .non => D K .none
  | .bl b => B K b
  | .int i => I K i
  | .str s => D K (.str s)
  | .tup xs => U K (W.ps xs)
  | .lst xs => L K (W.ps xs)
  | .rig al => Ob K c.R "_arms" (DPl K (prI al))
  | .arm al => DPl K (prI al)
  | .mem qs => Ob K c.C "_places" (D K (dT qs))
  | .src => Drw
  | .scr ns => Scr K ns
  | .dct al => DkI al
  | .ty n => Pr.is (.ty n)
  | .cls k => Pr.is (.ref (c.at k))
  | .oth P => P
def W.ps : List W → List Pr
  | [] => []
  | w :: ws => W.p w :: W.ps ws
end
theorem ps_map : ∀ ws : List W, W.ps K c ws = ws.map (W.p K c)
  | [] => rfl
  | w :: ws => by rw [W.ps, ps_map ws]; rfl
/-- some value as Q says -/
def SQ (Q : W → Prop) : Pr := ⟨fun v h => ∃ w, Q w ∧ (W.p K c w).p v h, fun e ⟨w, q, z⟩ => ⟨w, q, (W.p K c w).mono e z⟩⟩
end
theorem ps_len {K : PySem.W.Frag} {c : Cl} (ws : List W) : (W.ps K c ws).length = ws.length := by rw [ps_map, List.length_map]
theorem ps_app {K : PySem.W.Frag} {c : Cl} (ws us : List W) : W.ps K c (ws ++ us) = W.ps K c ws ++ W.ps K c us := by rw [ps_map, ps_map, ps_map, List.map_append]
/-- the frame's slots -/
abbrev Sl := List (Option W)
def Sl.G (K : PySem.W.Frag) (c : Cl) (ρ : Sl) : Ctx := ρ.map (Option.map (W.p K c))
section
variable {K : PySem.W.Frag} {c : Cl} {ρ : Sl}
theorem G_get {i : Nat} {w : W} (h : ρ[i]? = some (some w)) : (ρ.G K c)[i]? = some (some (w.p K c)) := by
  unfold Sl.G
  rw [List.getElem?_map, h]; rfl
theorem G_set {i : Nat} {w : W} : Sl.G K c (ρ.set i (some w)) = (ρ.G K c).set i (some (w.p K c)) := by
  unfold Sl.G
  rw [List.map_set]; rfl
theorem G_wipe {i : Nat} : Sl.G K c (ρ.set i none) = (ρ.G K c).set i none := by
  unfold Sl.G
  rw [List.map_set]; rfl
theorem G_len : (ρ.G K c).length = ρ.length := by unfold Sl.G; rw [List.length_map]
end
/-! ### expressions -/
structure XE where
  f : Sl → (W → Prop) → Prop
  m : ∀ {ρ : Sl} {Q Q' : W → Prop}, (∀ w, Q w → Q' w) → f ρ Q → f ρ Q'
structure XA where
  f : Sl → (List W → Prop) → Prop
  m : ∀ {ρ : Sl} {Q Q' : List W → Prop}, (∀ w, Q w → Q' w) → f ρ Q → f ρ Q'
structure XT where
  f : Sl → (Bool → Prop) → Prop
  m : ∀ {ρ : Sl} {Q Q' : Bool → Prop}, (∀ w, Q w → Q' w) → f ρ Q → f ρ Q'
structure XP where
  f : Sl → (Option Int → Prop) → Prop
  m : ∀ {ρ : Sl} {Q Q' : Option Int → Prop}, (∀ w, Q w → Q' w) → f ρ Q → f ρ Q'
structure XO where
  f : W → W → (W → Prop) → Prop
  m : ∀ {x y : W} {Q Q' : W → Prop}, (∀ w, Q w → Q' w) → f x y Q → f x y Q'
structure XU where
  f : W → (W → Prop) → Prop
  m : ∀ {x : W} {Q Q' : W → Prop}, (∀ w, Q w → Q' w) → f x Q → f x Q'
/-- a function of arguments -/
structure XN where
  f : List W → (W → Prop) → Prop
  m : ∀ {x : List W} {Q Q' : W → Prop}, (∀ w, Q w → Q' w) → f x Q → f x Q'
/-- a promise -/
structure XF where
  α : Type
  n : Nat
  args : α → List W
  pre : α → Prop
  post : α → W → Prop
  hn : ∀ a, (args a).length = n := by intros; rfl
def XF.f (F : XF) (ws : List W) (Q : W → Prop) : Prop := ∃ a, ws = F.args a ∧ F.pre a ∧ ∀ w, F.post a w → Q w
def XF.sp (K : PySem.W.Frag) (c : Cl) (F : XF) : Sp := Sv (fun a => W.ps K c (F.args a)) F.pre (fun a => SQ K c (F.post a))
section
variable (K : PySem.W.Frag) (c : Cl)
def Ev (te : TE) (e : XE) : Prop := ∀ (ρ : Sl) (Q : W → Prop), e.f ρ Q → T (ρ.G K c) te (SQ K c Q)
def EA (ta : TA) (a : XA) : Prop := ∀ (ρ : Sl) (Q : List W → Prop), a.f ρ Q → ∀ (σ : St) (h H : Hp), En (ρ.G K c) σ h → Ex h H → ∀ R : List V → Hp → Prop, (∀ ws vs h' H', Q ws → Stp h H h' H' → Vs (W.ps K c ws) vs h' → R vs H') → ta σ H R
def ET (tt : TT) (t : XT) : Prop := ∀ (ρ : Sl) (Q : Bool → Prop), t.f ρ Q → TB (ρ.G K c) tt Q
def EP' (to : TO) (t : XP) : Prop := ∀ (ρ : Sl) (Q : Option Int → Prop), t.f ρ Q → ∀ (σ : St) (h H : Hp), En (ρ.G K c) σ h → Ex h H → ∀ R : Option Int → Hp → Prop, (∀ o h' H', Q o → Stp h H h' H' → R o H') → to σ H R
def EO (r : R2) (o : XO) : Prop := ∀ (x y : W) (Q : W → Prop), o.f x y Q → OpP r (x.p K c) (y.p K c) (SQ K c Q)
def EU (r : V → Hp → VK → Prop) (o : XU) : Prop := ∀ (x : W) (Q : W → Prop), o.f x Q → UnP r (x.p K c) (SQ K c Q)
def EN (r : List V → Hp → VK → Prop) (o : XN) : Prop := ∀ (ws : List W) (Q : W → Prop), o.f ws Q → FnP r (W.ps K c ws) (SQ K c Q)
end
def XE.var (i : Nat) : XE := ⟨fun ρ Q => ∃ w, ρ[i]? = some (some w) ∧ Q w, fun k ⟨w, e, q⟩ => ⟨w, e, k w q⟩⟩
def XE.lit (w : W) : XE := ⟨fun _ Q => Q w, fun k q => k w q⟩
def XE.op (o : XO) (a b : XE) : XE := ⟨fun ρ Q => a.f ρ fun x => b.f ρ fun y => o.f x y Q, fun k q => a.m (fun _ z => b.m (fun _ z => o.m k z) z) q⟩
def XE.un (o : XU) (a : XE) : XE := ⟨fun ρ Q => a.f ρ fun x => o.f x Q, fun k q => a.m (fun _ z => o.m k z) q⟩
def XA.nil : XA := ⟨fun _ Q => Q [], fun k q => k _ q⟩
def XA.cons (a : XE) (r : XA) : XA := ⟨fun ρ Q => a.f ρ fun x => r.f ρ fun xs => Q (x :: xs), fun k q => a.m (fun _ z => r.m (fun _ z => k _ z) z) q⟩
def XE.fn (o : XN) (a : XA) : XE := ⟨fun ρ Q => a.f ρ fun xs => o.f xs Q, fun k q => a.m (fun _ z => o.m k z) q⟩
def XF.m (F : XF) {ws : List W} {Q Q' : W → Prop} (k : ∀ w, Q w → Q' w) (q : F.f ws Q) : F.f ws Q' := by
  obtain ⟨a, e, p, r⟩ := q
  exact ⟨a, e, p, fun w z => k w (r w z)⟩
def XE.call (F : XF) (a : XA) : XE := ⟨fun ρ Q => a.f ρ fun xs => F.f xs Q, fun k q => a.m (fun _ z => F.m k z) q⟩
def XE.ite (t : XT) (a b : XE) : XE := ⟨fun ρ Q => t.f ρ fun x => (x = true → a.f ρ Q) ∧ (x = false → b.f ρ Q), fun k q => t.m (fun _ z => ⟨fun h => a.m k (z.1 h), fun h => b.m k (z.2 h)⟩) q⟩
def XE.andV (a b : XE) : XE := ⟨fun ρ Q => a.f ρ fun x => ∃ p, x = .bl p ∧ (p = true → b.f ρ Q) ∧ (p = false → Q (.bl false)), fun k q => a.m (fun _ ⟨p, e, z, y⟩ => ⟨p, e, fun h => b.m k (z h), fun h => k _ (y h)⟩) q⟩
def XE.orV (a b : XE) : XE := ⟨fun ρ Q => a.f ρ fun x => ∃ p, x = .bl p ∧ (p = false → b.f ρ Q) ∧ (p = true → Q (.bl true)), fun k q => a.m (fun _ ⟨p, e, z, y⟩ => ⟨p, e, fun h => b.m k (z h), fun h => k _ (y h)⟩) q⟩
def XE.notV (a : XE) : XE := ⟨fun ρ Q => a.f ρ fun x => ∃ p, x = .bl p ∧ Q (.bl (!p)), fun k q => a.m (fun _ ⟨p, e, z⟩ => ⟨p, e, k _ z⟩) q⟩
def XE.lst (a : XA) : XE := ⟨fun ρ Q => a.f ρ fun ws => ws.length ≤ 100000 ∧ Q (.lst ws), fun k q => a.m (fun _ ⟨p, z⟩ => ⟨p, k _ z⟩) q⟩
def XE.tup (a : XA) : XE := ⟨fun ρ Q => a.f ρ fun ws => ws.length ≤ 100000 ∧ Q (.tup ws), fun k q => a.m (fun _ ⟨p, z⟩ => ⟨p, k _ z⟩) q⟩
def XE.chain (g g' : Int → Int → Bool) (a b d : XE) : XE := ⟨fun ρ Q => a.f ρ fun x => b.f ρ fun y => ∃ i j, x = .int i ∧ y = .int j ∧ (g i j = true → d.f ρ fun z => ∃ k, z = .int k ∧ Q (.bl (g' j k))) ∧ (g i j = false → Q (.bl false)),
  fun k q => a.m (fun _ z => b.m (fun _ ⟨i, j, e, e', z, y⟩ => ⟨i, j, e, e', fun h => d.m (fun _ ⟨n, e, z⟩ => ⟨n, e, k _ z⟩) (z h), fun h => k _ (y h)⟩) z) q⟩
def XT.val (a : XE) : XT := ⟨fun ρ Q => a.f ρ fun x => ∃ p, x = .bl p ∧ Q p, fun k q => a.m (fun _ ⟨p, e, z⟩ => ⟨p, e, k _ z⟩) q⟩
def XT.and (a b : XT) : XT := ⟨fun ρ Q => a.f ρ fun x => (x = true → b.f ρ Q) ∧ (x = false → Q false), fun k q => a.m (fun _ z => ⟨fun h => b.m k (z.1 h), fun h => k _ (z.2 h)⟩) q⟩
def XT.or (a b : XT) : XT := ⟨fun ρ Q => a.f ρ fun x => (x = false → b.f ρ Q) ∧ (x = true → Q true), fun k q => a.m (fun _ z => ⟨fun h => b.m k (z.1 h), fun h => k _ (z.2 h)⟩) q⟩
def XT.not (a : XT) : XT := ⟨fun ρ Q => a.f ρ fun x => Q (!x), fun k q => a.m (fun _ z => k _ z) q⟩
def XT.yes : XT := ⟨fun _ Q => Q true, fun k q => k _ q⟩
def XP.no : XP := ⟨fun _ Q => Q none, fun k q => k _ q⟩
def XP.at (a : XE) : XP := ⟨fun ρ Q => a.f ρ fun x => ∃ i, x = .int i ∧ Q (some i), fun k q => a.m (fun _ ⟨i, e, z⟩ => ⟨i, e, k _ z⟩) q⟩
section
variable {K : PySem.W.Frag} {c : Cl} {te ta tb tc : TE} {tr : TA} {t u : TT} {r : R2} {e a b d : XE} {ar : XA}
theorem sq_of {Q : W → Prop} {w : W} {v : V} {h : Hp} (q : Q w) (z : (w.p K c).p v h) : (SQ K c Q).p v h := ⟨w, q, z⟩
theorem ev_var {i : Nat} : Ev K c (tVar i) (.var i) := fun ρ Q ⟨w, e, q⟩ => t_weak (t_var (G_get e)) fun v h z => ⟨w, q, z⟩
theorem ev_int {i : Int} : Ev K c (tC (.int i)) (.lit (.int i)) := fun ρ Q q => t_weak t_int fun v h z => ⟨_, q, z⟩
theorem ev_bl {b : Bool} : Ev K c (tC (.bl b)) (.lit (.bl b)) := fun ρ Q q => t_weak t_bl fun v h z => ⟨_, q, z⟩
theorem ev_non : Ev K c (tC .non) (.lit .non) := fun ρ Q q => t_weak t_non fun v h z => ⟨_, q, z⟩
theorem ev_str {s : Str} : Ev K c (tC (.str s)) (.lit (.str s)) := fun ρ Q q => t_weak t_str fun v h z => ⟨_, q, z⟩
theorem ev_op {o : XO} (ha : Ev K c ta a) (hb : Ev K c tb b) (ho : EO K c r o) : Ev K c (tOp r ta tb) (.op o a b) := fun ρ Q q σ h H n e R k =>
  ha ρ _ q σ h H n e _ fun v h1 H1 s1 ⟨x, qx, px⟩ => hb ρ _ qx σ h1 H1 (n.mono s1.s) s1.i _ fun y' h2 H2 s2 ⟨y, qy, py⟩ =>
    ho x y Q qy v y' h2 H2 ((x.p K c).mono s2.s px) py s2.i R fun z h3 H3 s3 q3 => k z h3 H3 ((s1.trans s2).trans s3) q3
theorem ev_un {r : V → Hp → VK → Prop} {o : XU} (ha : Ev K c ta a) (ho : EU K c r o) : Ev K c (tUn r ta) (.un o a) := fun ρ Q q σ h H n e R k =>
  ha ρ _ q σ h H n e _ fun v h1 H1 s1 ⟨x, qx, px⟩ => ho x Q qx v h1 H1 px s1.i R fun z h3 H3 s3 q3 => k z h3 H3 (s1.trans s3) q3
theorem ea_nil : EA K c tNil .nil := fun ρ Q q σ h H n e R k => k [] [] h H q (Stp.refl e) .nil
theorem ea_cons (ha : Ev K c ta a) (hr : EA K c tr ar) : EA K c (tCons ta tr) (.cons a ar) := fun ρ Q q σ h H n e R k =>
  ha ρ _ q σ h H n e _ fun v h1 H1 s1 ⟨x, qx, px⟩ => hr ρ _ qx σ h1 H1 (n.mono s1.s) s1.i _ fun ws vs h2 H2 qw s2 p2 => k (x :: ws) (v :: vs) h2 H2 qw (s1.trans s2) (.cons ((x.p K c).mono s2.s px) p2)
theorem ev_fn {r : List V → Hp → VK → Prop} {o : XN} (ha : EA K c tr ar) (ho : EN K c r o) : Ev K c (tCB r tr) (.fn o ar) := fun ρ Q q σ h H n e R k =>
  ha ρ _ q σ h H n e _ fun ws vs h1 H1 qw s1 p1 => ho ws Q qw vs h1 H1 p1 s1.i R fun z h3 H3 s3 q3 => k z h3 H3 (s1.trans s3) q3
theorem ev_call {F : XF} (ha : EA K c tr ar) : Ev K c (tF (F.sp K c) tr) (.call F ar) := fun ρ Q q σ h H n e R k =>
  ha ρ _ q σ h H n e _ fun ws vs h1 H1 ⟨x, ex, px, kx⟩ s1 p1 => ⟨x, h1, s1.i, by subst ex; exact p1, px, fun v h2 H2 s2 ⟨w, z, pz⟩ => k v h2 H2 (s1.trans s2) ⟨w, kx w z, pz⟩⟩
theorem ev_ite {x : XT} (hx : ET K c t x) (ha : Ev K c ta a) (hb : Ev K c tb b) : Ev K c (tIf t ta tb) (.ite x a b) := fun ρ Q q =>
  t_if (hx ρ _ q) (fun z => ha ρ Q (z.1 rfl)) (fun z => hb ρ Q (z.2 rfl))
theorem p_bl {v : V} {h : Hp} {x : Bool} (q : (W.p K c (.bl x)).p v h) : v = .bl x := dp_bl q
theorem p_int {v : V} {h : Hp} {x : Int} (q : (W.p K c (.int x)).p v h) : v = .int x := dp_int q
theorem ev_and (ha : Ev K c ta a) (hb : Ev K c tb b) : Ev K c (tAndV ta tb) (.andV a b) := fun ρ Q q σ h H n e R k =>
  ha ρ _ q σ h H n e _ fun v h1 H1 s1 ⟨x, ⟨p, ex, y, z⟩, px⟩ => ⟨p, by subst ex; exact p_bl px, by
    cases p with
    | true => exact hb ρ Q (y rfl) σ h1 H1 (n.mono s1.s) s1.i R fun w h2 H2 s2 q2 => k w h2 H2 (s1.trans s2) q2
    | false => exact k _ h1 H1 s1 ⟨_, z rfl, Dq.bl false⟩⟩
theorem ev_or (ha : Ev K c ta a) (hb : Ev K c tb b) : Ev K c (tOrV ta tb) (.orV a b) := fun ρ Q q σ h H n e R k =>
  ha ρ _ q σ h H n e _ fun v h1 H1 s1 ⟨x, ⟨p, ex, y, z⟩, px⟩ => ⟨p, by subst ex; exact p_bl px, by
    cases p with
    | false => exact hb ρ Q (y rfl) σ h1 H1 (n.mono s1.s) s1.i R fun w h2 H2 s2 q2 => k w h2 H2 (s1.trans s2) q2
    | true => exact k _ h1 H1 s1 ⟨_, z rfl, Dq.bl true⟩⟩
theorem ev_not (ha : Ev K c ta a) : Ev K c (tNotV ta) (.notV a) := fun ρ Q q σ h H n e R k =>
  ha ρ _ q σ h H n e _ fun v h1 H1 s1 ⟨x, ⟨p, ex, y⟩, px⟩ => ⟨p, by subst ex; exact p_bl px, k _ h1 H1 s1 ⟨_, y, Dq.bl _⟩⟩
theorem ev_lst (ha : EA K c tr ar) : Ev K c (tLst tr) (.lst ar) := fun ρ Q q σ h H n e R k =>
  ha ρ _ q σ h H n e _ fun ws vs h1 H1 ⟨hz, qw⟩ s1 p1 => ⟨by rw [p1.len, ps_len]; exact Evl.sz_of hz, fun p np => k _ (upd h1 p (.lst vs)) _ (s1.trans (Stp.new s1.i np)) ⟨_, qw, p, vs, rfl, upd_same, p1.mono (Stp.new (o := .lst vs) s1.i np).s⟩⟩
theorem ev_tup (ha : EA K c tr ar) : Ev K c (tTup tr) (.tup ar) := fun ρ Q q σ h H n e R k =>
  ha ρ _ q σ h H n e _ fun ws vs h1 H1 ⟨hz, qw⟩ s1 p1 => ⟨by rw [p1.len, ps_len]; exact Evl.sz_of hz, fun p np => k _ (upd h1 p (.tup vs)) _ (s1.trans (Stp.new s1.i np)) ⟨_, qw, p, vs, rfl, .inl (.inl upd_same), p1.mono (Stp.new (o := .tup vs) s1.i np).s⟩⟩
theorem ev_chain {g g' : Int → Int → Bool} (ha : Ev K c ta a) (hb : Ev K c tb b) (hd : Ev K c tc d) : Ev K c (tChain (rI0 fun i j => .bl (g i j)) (rI0 fun i j => .bl (g' i j)) ta tb tc) (.chain g g' a b d) := fun ρ Q q σ h H n e R k =>
  ha ρ _ q σ h H n e _ fun v h1 H1 s1 ⟨x, qx, px⟩ => hb ρ _ qx σ h1 H1 (n.mono s1.s) s1.i _ fun y' h2 H2 s2 ⟨y, qy, py⟩ => by
    obtain ⟨i, j, rfl, rfl, z1, z2⟩ := qy
    refine ⟨i, j, p_int px, p_int py, g i j, rfl, ?_⟩
    cases hg : g i j with
    | true => exact hd ρ _ (z1 hg) σ h2 H2 (n.mono (s1.trans s2).s) s2.i _ fun z h3 H3 s3 ⟨w, ⟨l, el, ql⟩, pw⟩ => ⟨j, l, p_int py, by subst el; exact p_int pw, k _ h3 H3 ((s1.trans s2).trans s3) ⟨_, ql, Dq.bl _⟩⟩
    | false => exact k _ h2 H2 (s1.trans s2) ⟨_, z2 hg, Dq.bl _⟩
theorem et_b (ha : Ev K c ta a) : ET K c (tB ta) (.val a) := fun ρ Q q σ h H n e R k =>
  ha ρ _ q σ h H n e _ fun v h1 H1 s1 ⟨x, ⟨p, ex, y⟩, px⟩ => ⟨p, by subst ex; exact p_bl px, k p h1 H1 s1 y⟩
theorem et_test (ha : Ev K c ta a) : ET K c (tTest ta) (.val a) := fun ρ Q q σ h H n e R k =>
  ha ρ _ q σ h H n e _ fun v h1 H1 s1 ⟨x, ⟨p, ex, y⟩, px⟩ => ⟨p, by subst ex; exact p_bl px, k p h1 H1 s1 y⟩
theorem et_and {x y : XT} (hx : ET K c t x) (hy : ET K c u y) : ET K c (tAnd t u) (.and x y) := fun ρ Q q σ h H n e R k =>
  hx ρ _ q σ h H n e _ fun p h1 H1 s1 z => by
    cases p with
    | true => exact hy ρ Q (z.1 rfl) σ h1 H1 (n.mono s1.s) s1.i R fun w h2 H2 s2 q2 => k w h2 H2 (s1.trans s2) q2
    | false => exact k false h1 H1 s1 (z.2 rfl)
theorem et_or {x y : XT} (hx : ET K c t x) (hy : ET K c u y) : ET K c (tOr t u) (.or x y) := fun ρ Q q σ h H n e R k =>
  hx ρ _ q σ h H n e _ fun p h1 H1 s1 z => by
    cases p with
    | false => exact hy ρ Q (z.1 rfl) σ h1 H1 (n.mono s1.s) s1.i R fun w h2 H2 s2 q2 => k w h2 H2 (s1.trans s2) q2
    | true => exact k true h1 H1 s1 (z.2 rfl)
theorem et_not {x : XT} (hx : ET K c t x) : ET K c (tNot t) (.not x) := fun ρ Q q σ h H n e R k =>
  hx ρ _ q σ h H n e _ fun p h1 H1 s1 z => k _ h1 H1 s1 z
theorem et_yes : ET K c tYes .yes := fun ρ Q q σ h H n e R k => k true h H (Stp.refl e) q
theorem ep_no : EP' K c tNoPart .no := fun ρ Q q σ h H n e R k => k none h H q (Stp.refl e)
theorem ep_at (ha : Ev K c ta a) : EP' K c (tPart ta) (.at a) := fun ρ Q q σ h H n e R k =>
  ha ρ _ q σ h H n e _ fun v h1 H1 s1 ⟨x, ⟨i, ex, y⟩, px⟩ => ⟨i, by subst ex; exact p_int px, k _ h1 H1 y s1⟩
end
end Z

namespace Z
open PySem L2
/-! ### operators on plain values -/
noncomputable instance : DecidableEq W := fun a b => Classical.propDecidable (a = b)
/-- numbers, texts, None in lists and tuples less than n deep -/
def Pl : Nat → W → Prop
  | 0, _ => False
  | n + 1, .int _ => True
  | n + 1, .str s => PyData.strOk s = true
  | n + 1, .non => True
  | n + 1, .tup xs => ∀ x ∈ xs, Pl n x
  | n + 1, .lst xs => ∀ x ∈ xs, Pl n x
  | n + 1, _ => False
mutual
def W.dat : W → PyData
  | .non => .none
  | .bl b => .bool b
  | .int i => .int i
  | .str s => .str s
  | .tup xs => .tuple (W.dats xs)
  | .lst xs => .list (W.dats xs)
  | .rig _ => .none
  | .arm _ => .none
  | .mem _ => .none
  | .src => .none
  | .scr _ => .none
  | .dct _ => .none
  | .ty _ => .none
  | .cls _ => .none
  | .oth _ => .none
def W.dats : List W → List PyData
  | [] => []
  | w :: ws => W.dat w :: W.dats ws
end
theorem pl_dat {K : PySem.W.Frag} {c : Cl} : ∀ (n : Nat) (w : W), Pl n w → (∀ v h, (w.p K c).p v h → Dq K h v w.dat) ∧ w.dat.canLay0 = true ∧ w.dat.depth ≤ n
  | 0, w, h => h.elim
  | n + 1, w, h => by
    have go : ∀ xs : List W, (∀ x ∈ xs, Pl n x) → (∀ vs h, Vs (W.ps K c xs) vs h → DqAll K h vs (W.dats xs)) ∧ PyData.canLayAll0 (W.dats xs) = true ∧ PyData.depthAll (W.dats xs) ≤ n := by
      intro xs
      induction xs with
      | nil => exact fun _ => ⟨fun vs h q => by cases q; exact .nil, rfl, Nat.zero_le _⟩
      | cons x xs ih =>
        intro hx
        obtain ⟨a1, a2, a3⟩ := pl_dat n x (hx x List.mem_cons_self)
        obtain ⟨b1, b2, b3⟩ := ih fun y hy => hx y (List.mem_cons_of_mem _ hy)
        refine ⟨fun vs h q => ?_, ?_, ?_⟩
        · rw [W.ps] at q
          cases q with
          | cons q1 q2 => exact .cons (a1 _ _ q1) (b1 _ _ q2)
        · show (x.dat.canLay0 && PyData.canLayAll0 (W.dats xs)) = true
          rw [a2, b2]; rfl
        · show max x.dat.depth (PyData.depthAll (W.dats xs)) ≤ n
          omega
    cases w with
    | non => exact ⟨fun v h q => q, rfl, Nat.zero_le _⟩
    | int i => exact ⟨fun v h q => q, rfl, Nat.zero_le _⟩
    | str s => exact ⟨fun v h q => q, h, Nat.zero_le _⟩
    | tup xs =>
      obtain ⟨b1, b2, b3⟩ := go xs h
      refine ⟨fun v h q => ?_, b2, Nat.succ_le_succ b3⟩
      obtain ⟨a, vs, rfl, s, z⟩ := (show (U K (W.ps K c xs)).p v h from q)
      exact .tup s (b1 _ _ z)
    | lst xs =>
      obtain ⟨b1, b2, b3⟩ := go xs h
      refine ⟨fun v h q => ?_, b2, Nat.succ_le_succ b3⟩
      obtain ⟨a, vs, rfl, s, z⟩ := (show (L K (W.ps K c xs)).p v h from q)
      exact .lst s (b1 _ _ z)
    | bl b => exact h.elim
    | rig _ => exact h.elim
    | arm _ => exact h.elim
    | mem _ => exact h.elim
    | src => exact h.elim
    | scr _ => exact h.elim
    | dct _ => exact h.elim
    | ty _ => exact h.elim
    | cls _ => exact h.elim
    | oth _ => exact h.elim
theorem pl_shape {K : PySem.W.Frag} {c : Cl} {n : Nat} {w : W} (h : Pl n w) (hn : n ≤ 64) : SeqAt.shaped w.dat = true := by
  obtain ⟨_, a, b⟩ := pl_dat (K := K) (c := c) n w h
  show (w.dat.canLay0 && decide (w.dat.depth ≤ 64)) = true
  rw [a, decide_eq_true (by omega : w.dat.depth ≤ 64)]; rfl
theorem pl_eqv : ∀ (n : Nat) (x y : W), Pl n x → Pl n y → PyData.eqv x.dat y.dat = decide (x = y)
  | 0, x, y, h, _ => h.elim
  | n + 1, x, y, hx, hy => by
    have go : ∀ xs ys : List W, (∀ x ∈ xs, Pl n x) → (∀ x ∈ ys, Pl n x) → PyData.eqvAll (W.dats xs) (W.dats ys) = decide (xs = ys) := by
      intro xs
      induction xs with
      | nil =>
        intro ys _ _
        cases ys with
        | nil => show true = _; simp
        | cons y ys => show false = _; simp
      | cons x xs ih =>
        intro ys hx hy
        cases ys with
        | nil => show false = _; simp
        | cons y ys =>
          show (PyData.eqv x.dat y.dat && PyData.eqvAll (W.dats xs) (W.dats ys)) = _
          rw [pl_eqv n x y (hx x List.mem_cons_self) (hy y List.mem_cons_self), ih ys (fun z hz => hx z (List.mem_cons_of_mem _ hz)) (fun z hz => hy z (List.mem_cons_of_mem _ hz))]
          simp
    cases x <;> first | exact hx.elim | (cases y <;> first | exact hy.elim | (show (false : Bool) = _; simp; done) | (show (true : Bool) = _; simp; done) | skip)
    · rename_i i j; show (i == j) = _; by_cases h : i = j <;> simp [h]
    · rename_i i j; show (i == j) = _; by_cases h : i = j <;> simp [h]
    · rename_i i j; show PyData.eqvAll _ _ = _; rw [go i j hx hy]; simp
    · rename_i i j; show PyData.eqvAll _ _ = _; rw [go i j hx hy]; simp
end Z

namespace Z
open PySem L2
section
variable {K : PySem.W.Frag} {c : Cl} {te ta tb tc : TE} {tr : TA} {t u : TT} {r r' : R2} {e a b d : XE} {ar : XA}
/-! ### two operands -/
def XO.or (o o' : XO) : XO := ⟨fun x y Q => o.f x y Q ∨ o'.f x y Q, fun k q => q.elim (fun z => .inl (o.m k z)) (fun z => .inr (o'.m k z))⟩
theorem eo_or {o o' : XO} (h : EO K c r o) (h' : EO K c r' o') : EO K c (fun x y H Q => r x y H Q ∨ r' x y H Q) (o.or o') := fun x y Q q => q.elim (fun z => opp_inl (h x y Q z)) (fun z => opp_inr (h' x y Q z))
def XO.iic (C : Int → Int → Prop) (g : Int → Int → W) : XO := ⟨fun x y Q => ∃ i j, x = .int i ∧ y = .int j ∧ C i j ∧ Q (g i j), fun k ⟨i, j, a, b, d, q⟩ => ⟨i, j, a, b, d, k _ q⟩⟩
def XO.ii (g : Int → Int → W) : XO := ⟨fun x y Q => ∃ i j, x = .int i ∧ y = .int j ∧ Q (g i j), fun k ⟨i, j, a, b, q⟩ => ⟨i, j, a, b, k _ q⟩⟩
theorem opp_sq {A C P : Pr} {Q : W → Prop} {w : W} (q : Q w) (h : OpP r A C P) (k : ∀ v h, P.p v h → (w.p K c).p v h) : OpP r A C (SQ K c Q) := opp_to h fun v h z => ⟨w, q, k v h z⟩
theorem eo_I {g : Int → Int → Int} : EO K c (rI0 fun i j => .int (g i j)) (.ii fun i j => .int (g i j)) := fun x y Q ⟨i, j, ex, ey, q⟩ => by
  subst ex ey; exact opp_sq q opp_I fun v h z => z
theorem eo_B {g : Int → Int → Bool} : EO K c (rI0 fun i j => .bl (g i j)) (.ii fun i j => .bl (g i j)) := fun x y Q ⟨i, j, ex, ey, q⟩ => by
  subst ex ey; exact opp_sq q opp_B fun v h z => z
theorem eo_IC {C : Int → Int → Prop} {g : Int → Int → Int} : EO K c (rI C fun i j => .int (g i j)) (.iic C fun i j => .int (g i j)) := fun x y Q ⟨i, j, ex, ey, hc, q⟩ => by
  subst ex ey; exact opp_sq q (opp_IC hc) fun v h z => z
def XO.catL : XO := ⟨fun x y Q => ∃ xs ys, x = .lst xs ∧ y = .lst ys ∧ xs.length + ys.length ≤ 100000 ∧ Q (.lst (xs ++ ys)), fun k ⟨i, j, a, b, d, q⟩ => ⟨i, j, a, b, d, k _ q⟩⟩
def XO.catT : XO := ⟨fun x y Q => ∃ xs ys, x = .tup xs ∧ y = .tup ys ∧ xs.length + ys.length ≤ 100000 ∧ Q (.tup (xs ++ ys)), fun k ⟨i, j, a, b, d, q⟩ => ⟨i, j, a, b, d, k _ q⟩⟩
theorem vs_app {Ps Rs : List Pr} {vs us : List V} {h : Hp} (a : Vs Ps vs h) (b : Vs Rs us h) : Vs (Ps ++ Rs) (vs ++ us) h := by
  induction a with
  | nil => exact b
  | cons q _ ih => exact .cons q (ih b)
theorem eo_catL : EO K c rCat .catL := fun x y Q ⟨xs, ys, ex, ey, hz, q⟩ u v h H a d e R k => by
  subst ex ey
  obtain ⟨p, us, rfl, hp, zp⟩ := (show (L K (W.ps K c xs)).p u h from a)
  obtain ⟨l, vs, rfl, hl, zl⟩ := (show (L K (W.ps K c ys)).p v h from d)
  refine ⟨p, l, us, vs, rfl, rfl, e _ _ hp, e _ _ hl, by rw [zp.len, zl.len, ps_len, ps_len]; exact Evl.sz_of hz, fun n nn => k _ (upd h n (.lst (us ++ vs))) _ (Stp.new e nn) ⟨_, q, n, _, rfl, upd_same, ?_⟩⟩
  have st := (Stp.new (o := .lst (us ++ vs)) e nn).s
  rw [ps_app]
  exact vs_app (zp.mono st) (zl.mono st)
theorem eo_catT : EO K c (rCatA K) .catT := fun x y Q ⟨xs, ys, ex, ey, hz, q⟩ u v h H a d e R k => by
  subst ex ey
  obtain ⟨p, us, rfl, hp, zp⟩ := (show (U K (W.ps K c xs)).p u h from a)
  obtain ⟨l, vs, rfl, hl, zl⟩ := (show (U K (W.ps K c ys)).p v h from d)
  refine ⟨p, l, us, vs, rfl, rfl, sqT_ex e hp, sqT_ex e hl, by rw [zp.len, zl.len, ps_len, ps_len]; exact Evl.sz_of hz, fun z => k _ h H (Stp.refl e) ⟨_, q, ?_⟩, fun _ z => k _ h H (Stp.refl e) ⟨_, q, ?_⟩, fun _ _ n nn => k _ (upd h n (.tup (us ++ vs))) _ (Stp.new e nn) ⟨_, q, n, _, rfl, .inl (.inl upd_same), ?_⟩⟩
  · subst z
    cases xs with
    | nil => exact ⟨l, vs, rfl, hl, zl⟩
    | cons x xs => rw [W.ps] at zp; cases zp
  · subst z
    cases ys with
    | nil => rw [List.append_nil]; exact ⟨p, us, rfl, hp, zp⟩
    | cons x xs => rw [W.ps] at zl; cases zl
  · have st := (Stp.new (o := .tup (us ++ vs)) e nn).s
    rw [ps_app]
    exact vs_app (zp.mono st) (zl.mono st)
/-- xs[i] -/
def XO.ixL : XO := ⟨fun x y Q => ∃ xs i w, x = .lst xs ∧ y = .int i ∧ atI xs i = some w ∧ Q w, fun k ⟨i, j, w, a, b, d, q⟩ => ⟨i, j, w, a, b, d, k _ q⟩⟩
def XO.ixT : XO := ⟨fun x y Q => ∃ xs i w, x = .tup xs ∧ y = .int i ∧ atI xs i = some w ∧ Q w, fun k ⟨i, j, w, a, b, d, q⟩ => ⟨i, j, w, a, b, d, k _ q⟩⟩
theorem ps_atI {xs : List W} {i : Int} {w : W} (h : atI xs i = some w) : atI (W.ps K c xs) i = some (w.p K c) := by rw [ps_map]; exact atI_map h
theorem eo_ixL : EO K c (rIxL K) .ixL := fun x y Q ⟨xs, i, w, ex, ey, hw, q⟩ => by
  subst ex ey; exact opp_sq q (opp_ixLP (ps_atI hw)) fun v h z => z
theorem eo_ixT : EO K c (rIxT K) .ixT := fun x y Q ⟨xs, i, w, ex, ey, hw, q⟩ => by
  subst ex ey; exact opp_sq q (opp_ixTP (ps_atI hw)) fun v h z => z
/-- == -/
def XO.eqS (n : Bool) : XO := ⟨fun x y Q => (∃ i j, x = .int i ∧ y = .int j ∧ Q (.bl (n ^^ decide (i = j)))) ∨ (∃ i j, x = .str i ∧ y = .str j ∧ Q (.bl (n ^^ decide (i = j)))) ∨ (∃ i j, x = .bl i ∧ y = .bl j ∧ Q (.bl (n ^^ decide (i = j)))),
  fun k q => by rcases q with ⟨i, j, a, b, q⟩ | ⟨i, j, a, b, q⟩ | ⟨i, j, a, b, q⟩; exact .inl ⟨i, j, a, b, k _ q⟩; exact .inr (.inl ⟨i, j, a, b, k _ q⟩); exact .inr (.inr ⟨i, j, a, b, k _ q⟩)⟩
theorem opp_neS {x y : Str} : OpP rNe (D K (.str x)) (D K (.str y)) (B K (!decide (x = y))) := fun u v h H p q z Q k => by
  rw [dp_str p, dp_str q]
  refine ⟨rfl, ?_⟩
  have e : decide (V.str x = V.str y) = decide (x = y) := by
    by_cases c : x = y
    · subst c; simp
    · rw [decide_eq_false c, decide_eq_false fun w => c (V.str.inj w)]
  rw [e]
  exact k _ h H (Stp.refl z) (.bl _)
theorem eo_eqS : EO K c rEq (.eqS false) := fun x y Q q => by
  rcases q with ⟨i, j, rfl, rfl, q⟩ | ⟨i, j, rfl, rfl, q⟩ | ⟨i, j, rfl, rfl, q⟩
  · exact opp_sq q opp_eqI fun v h z => by show (B K _).p v h; simpa using z
  · exact opp_sq q opp_eqS fun v h z => by show (B K _).p v h; simpa using z
  · exact opp_sq q opp_eqB fun v h z => by show (B K _).p v h; simpa using z
theorem eo_neS : EO K c rNe (.eqS true) := fun x y Q q => by
  rcases q with ⟨i, j, rfl, rfl, q⟩ | ⟨i, j, rfl, rfl, q⟩ | ⟨i, j, rfl, rfl, q⟩
  · exact opp_sq q opp_neI fun v h z => by show (B K _).p v h; simpa using z
  · exact opp_sq q opp_neS fun v h z => by show (B K _).p v h; simpa using z
  · exact opp_sq q opp_neB fun v h z => by show (B K _).p v h; simpa using z
def W.sq : W → Bool | .lst _ => true | .tup _ => true | _ => false
def XO.eqD (n : Bool) : XO := ⟨fun x y Q => (x.sq = true ∧ y.sq = true ∧ Pl 60 x ∧ Pl 60 y ∧ Q (.bl (n ^^ decide (x = y)))) ∨ ∃ al bl, x = .arm al ∧ y = .arm bl ∧ Q (.bl (n ^^ decide (al = bl))),
  fun k q => by rcases q with ⟨i, j, a, b, q⟩ | ⟨i, j, a, b, q⟩; exact .inl ⟨i, j, a, b, k _ q⟩; exact .inr ⟨i, j, a, b, k _ q⟩⟩
theorem opp_dp {A C A' C' P : Pr} (h : OpP r A C P) (ha : ∀ v h, A'.p v h → A.p v h) (hc : ∀ v h, C'.p v h → C.p v h) : OpP r A' C' P := fun x y h0 H a d e Q k => h x y h0 H (ha _ _ a) (hc _ _ d) e Q k
abbrev arW (al : List (Int × Int)) : List W := al.map fun p => .tup [.int p.1, .int p.2]
theorem pl_arW (al : List (Int × Int)) : Pl 60 (.tup (arW al)) := by
  intro x hx
  obtain ⟨p, _, rfl⟩ := List.mem_map.mp hx
  intro y hy
  rcases List.mem_cons.mp hy with rfl | hy
  · trivial
  · rw [List.mem_singleton.mp hy]; trivial
theorem dat_arW (al : List (Int × Int)) : (W.tup (arW al)).dat = .tuple (prI al) := by
  have go : ∀ al : List (Int × Int), W.dats (arW al) = prI al := by
    intro al
    induction al with
    | nil => rfl
    | cons p al ih => show W.dat _ :: W.dats _ = _ :: _; rw [show W.dats (List.map (fun p : Int × Int => W.tup [.int p.1, .int p.2]) al) = prI al from ih]; rfl
  show PyData.tuple _ = _
  rw [go]
theorem arW_inj {al bl : List (Int × Int)} : (W.tup (arW al) = W.tup (arW bl)) ↔ al = bl := by
  refine ⟨fun h => ?_, fun h => by rw [h]⟩
  have h' : arW al = arW bl := W.tup.inj h
  exact (List.map_inj_right (fun p q e => by
    have z := W.tup.inj e
    simp at z
    exact Prod.ext z.1 z.2)).mp h'
theorem arm_eqv (al bl : List (Int × Int)) : PyData.eqv (.tuple (prI al)) (.tuple (prI bl)) = decide (al = bl) := by
  rw [← dat_arW, ← dat_arW, pl_eqv 60 _ _ (pl_arW al) (pl_arW bl)]
  by_cases h : al = bl
  · rw [decide_eq_true (arW_inj.mpr h), decide_eq_true h]
  · rw [decide_eq_false (fun z => h (arW_inj.mp z)), decide_eq_false h]
theorem eo_eqD : EO K c (rEqD K) (.eqD false) := fun x y Q q => by
  rcases q with ⟨_, _, hx, hy, q⟩ | ⟨al, bl, rfl, rfl, q⟩
  · obtain ⟨dx, _, _⟩ := pl_dat (K := K) (c := c) 60 x hx
    obtain ⟨dy, _, _⟩ := pl_dat (K := K) (c := c) 60 y hy
    refine opp_sq q (opp_dp (opp_eq (pl_shape (K := K) (c := c) hx (by decide)) (pl_shape (K := K) (c := c) hy (by decide))) dx dy) fun v h z => ?_
    rw [pl_eqv 60 x y hx hy] at z
    show (B K _).p v h
    simpa using z
  · have s : ∀ al, SeqAt.shaped (.tuple (prI al)) = true := fun al => by rw [← dat_arW]; exact pl_shape (K := K) (c := c) (pl_arW al) (by decide)
    refine opp_sq q (opp_dp (opp_eq (s al) (s bl)) (fun _ _ z => dpl_D z) (fun _ _ z => dpl_D z)) fun v h z => ?_
    rw [arm_eqv] at z
    show (B K _).p v h
    simpa using z
theorem eo_neD : EO K c (rNeD K) (.eqD true) := fun x y Q q => by
  rcases q with ⟨_, _, hx, hy, q⟩ | ⟨al, bl, rfl, rfl, q⟩
  · obtain ⟨dx, _, _⟩ := pl_dat (K := K) (c := c) 60 x hx
    obtain ⟨dy, _, _⟩ := pl_dat (K := K) (c := c) 60 y hy
    refine opp_sq q (opp_dp (opp_ne (pl_shape (K := K) (c := c) hx (by decide)) (pl_shape (K := K) (c := c) hy (by decide))) dx dy) fun v h z => ?_
    rw [pl_eqv 60 x y hx hy] at z
    show (B K _).p v h
    simpa using z
  · have s : ∀ al, SeqAt.shaped (.tuple (prI al)) = true := fun al => by rw [← dat_arW]; exact pl_shape (K := K) (c := c) (pl_arW al) (by decide)
    refine opp_sq q (opp_dp (opp_ne (s al) (s bl)) (fun _ _ z => dpl_D z) (fun _ _ z => dpl_D z)) fun v h z => ?_
    rw [arm_eqv] at z
    show (B K _).p v h
    simpa using z
/-- is None -/
def W.kn : W → Bool | .oth _ => false | .ty _ => false | .cls _ => false | _ => true
theorem p_non {w : W} (hk : w.kn = true) {v : V} {h : Hp} (q : (w.p K c).p v h) : decide (v = .non) = decide (w = .non) := by
  cases w with
  | non => obtain rfl := dp_non q; simp
  | bl b => obtain rfl := dp_bl q; simp
  | int i => obtain rfl := dp_int q; simp
  | str s => obtain rfl := dp_str q; simp
  | tup xs => obtain ⟨a, vs, rfl, _⟩ := (show (U K (W.ps K c xs)).p v h from q); simp
  | lst xs => obtain ⟨a, vs, rfl, _⟩ := (show (L K (W.ps K c xs)).p v h from q); simp
  | rig al => obtain ⟨a, _, _, rfl, _⟩ := q; simp
  | arm al => obtain ⟨a, _, _, rfl, _⟩ := q; simp
  | mem qs => obtain ⟨a, _, _, rfl, _⟩ := q; simp
  | src => obtain ⟨a, rfl, _⟩ := q; simp
  | scr ns => obtain ⟨a, rfl, _⟩ := q; simp
  | dct al => obtain ⟨a, rfl, _⟩ := q; simp
  | ty _ => cases hk
  | cls _ => cases hk
  | oth _ => cases hk
def XO.isN (n : Bool) : XO := ⟨fun x y Q => y = .non ∧ x.kn = true ∧ Q (.bl (n ^^ decide (x = .non))), fun k ⟨a, b, q⟩ => ⟨a, b, k _ q⟩⟩
theorem eo_isN : EO K c (fun x y H Q => y = .non ∧ Q (.bl (decide (x = .non))) H) (.isN false) := fun x y Q ⟨ey, hk, q⟩ u v h H a d e R k => by
  subst ey
  refine ⟨dp_non d, ?_⟩
  rw [p_non hk a]
  exact k _ h H (Stp.refl e) ⟨_, q, by rw [Bool.false_xor]; exact Dq.bl _⟩
theorem eo_notN : EO K c (fun x y H Q => y = .non ∧ Q (.bl (!decide (x = .non))) H) (.isN true) := fun x y Q ⟨ey, hk, q⟩ u v h H a d e R k => by
  subst ey
  refine ⟨dp_non d, ?_⟩
  rw [p_non hk a]
  exact k _ h H (Stp.refl e) ⟨_, q, by rw [Bool.true_xor]; exact Dq.bl _⟩
def XU.neg : XU := ⟨fun x Q => ∃ i, x = .int i ∧ Q (.int (-i)), fun k ⟨i, a, q⟩ => ⟨i, a, k _ q⟩⟩
theorem eu_neg : EU K c (rU fun i => .int (-i)) .neg := fun x Q ⟨i, ex, q⟩ v h H a e R k => by
  subst ex
  exact ⟨i, dp_int a, k _ h H (Stp.refl e) ⟨_, q, Dq.int _⟩⟩
def XU.or (o o' : XU) : XU := ⟨fun x Q => o.f x Q ∨ o'.f x Q, fun k q => q.elim (fun z => .inl (o.m k z)) (fun z => .inr (o'.m k z))⟩
theorem eu_or {r r' : V → Hp → VK → Prop} {o o' : XU} (h : EU K c r o) (h' : EU K c r' o') : EU K c (fun x H Q => r x H Q ∨ r' x H Q) (o.or o') := fun x Q q v h0 H a e R k => q.elim (fun z => .inl (h x Q z v h0 H a e R k)) (fun z => .inr (h' x Q z v h0 H a e R k))
/-! ### own classes -/
def W.is : Bool → W → Prop
  | true, .rig _ => True
  | false, .mem _ => True
  | _, _ => False
theorem is_ob {k : Bool} {w : W} (i : w.is k) {v : V} {h : Hp} (q : (w.p K c).p v h) : ∃ (f : Str) (F : Pr), w.p K c = Ob K (c.at k) f F := by
  cases k <;> cases w <;> first | exact i.elim | exact ⟨_, _, rfl⟩
theorem is_ins {k : Bool} {w : W} (i : w.is k) {v : V} {h : Hp} (q : (w.p K c).p v h) : ∃ o dx fs, v = .ref o ∧ h o = some (.ins (c.at k) dx fs) := by
  obtain ⟨f, F, e⟩ := is_ob (K := K) (c := c) i q
  rw [e] at q
  obtain ⟨o, dx, u, rfl, ho, _⟩ := q
  exact ⟨o, dx, _, rfl, ho⟩
def XO.ownBin (k : Bool) (F : XF) : XO := ⟨fun x y Q => x.is k ∧ y.is k ∧ F.f [x, y] Q, fun k ⟨a, b, q⟩ => ⟨a, b, F.m k q⟩⟩
theorem sp_of {F : XF} {ws : List W} {Q : W → Prop} (q : F.f ws Q) {vs : List V} {h H : Hp} (e : Ex h H) (z : Vs (W.ps K c ws) vs h) {R : VK} (k : ∀ v h' H', Stp h H h' H' → (SQ K c Q).p v h' → R v H') : F.sp K c vs H R E0 := by
  obtain ⟨x, rfl, px, kx⟩ := q
  exact ⟨x, h, e, z, px, fun v h' H' s ⟨w, y, pw⟩ => k v h' H' s ⟨w, kx w y, pw⟩⟩
theorem eo_ownBin {k : Bool} {F : XF} : EO K c (rOwnBin (c.at k) (F.sp K c)) (.ownBin k F) := fun x y Q ⟨ix, iy, q⟩ u v h H a d e R kk => by
  obtain ⟨o, dx, fs, rfl, ho⟩ := is_ins ix a
  obtain ⟨o2, dx2, fs2, rfl, ho2⟩ := is_ins iy d
  exact ⟨o, dx, fs, o2, dx2, fs2, rfl, e _ _ ho, rfl, e _ _ ho2, sp_of q e (.cons a (.cons d .nil)) kk⟩
def XO.ownMul (k : Bool) (F : XF) : XO := ⟨fun x y Q => x.is k ∧ (∃ n, y = .int n) ∧ F.f [x, y] Q, fun k ⟨a, b, q⟩ => ⟨a, b, F.m k q⟩⟩
theorem eo_ownMul {k : Bool} {F : XF} : EO K c (rOwnMul (c.at k) (F.sp K c)) (.ownMul k F) := fun x y Q ⟨ix, ⟨n, ey⟩, q⟩ u v h H a d e R kk => by
  subst ey
  obtain ⟨o, dx, fs, rfl, ho⟩ := is_ins ix a
  exact ⟨o, dx, fs, n, rfl, e _ _ ho, dp_int d, sp_of q e (.cons a (.cons d .nil)) kk⟩
def XU.ownNeg (k : Bool) (F : XF) : XU := ⟨fun x Q => x.is k ∧ F.f [x] Q, fun k ⟨a, q⟩ => ⟨a, F.m k q⟩⟩
theorem eu_ownNeg {k : Bool} {F : XF} : EU K c (fun x H Q => ∃ a dx fs, x = .ref a ∧ H a = some (.ins (c.at k) dx fs) ∧ F.sp K c [x] H Q E0) (.ownNeg k F) := fun x Q ⟨ix, q⟩ u h H a e R kk => by
  obtain ⟨o, dx, fs, rfl, ho⟩ := is_ins ix a
  exact ⟨o, dx, fs, rfl, e _ _ ho, sp_of q e (.cons a .nil) kk⟩
/-- what may stand at the right of an own == : an object of the class, a tuple -/
def W.eqr (k : Bool) : W → Prop
  | .tup xs => Pl 60 (.tup xs)
  | w => w.is k
structure OkEq (K : PySem.W.Frag) (c : Cl) (k : Bool) : Prop where
  nf : PySem.W.notFirst K (c.at k) (.type "tuple") = true
theorem eqr_ty {k : Bool} {w : W} (ok : OkEq K c k) (i : w.eqr k) {v : V} {h : Hp} (q : (w.p K c).p v h) : ∃ t, TyV K h v t ∧ PySem.W.notFirst K (c.at k) t = true := by
  have own : ∀ (i : w.is k), ∃ t, TyV K h v t ∧ PySem.W.notFirst K (c.at k) t = true := fun i => by
    obtain ⟨o, dx, fs, rfl, ho⟩ := is_ins i q
    exact ⟨_, .inl ⟨o, _, dx, fs, rfl, ho, rfl⟩, notFirst_self⟩
  cases w with
  | tup xs => exact ⟨_, .inr ⟨_, "tuple", (pl_dat (K := K) (c := c) 60 _ i).1 _ _ q, rfl, rfl⟩, ok.nf⟩
  | rig al => exact own i
  | mem al => exact own i
  | _ => cases k <;> exact i.elim
theorem is_eqv {k : Bool} {F : XF} (ok : OkEq K c k) {x y : W} {Q : W → Prop} {R : VK} (ix : x.is k) (iy : y.eqr k) (q : F.f [x, y] Q) {u v : V} {h H : Hp} (a : (x.p K c).p u h) (d : (y.p K c).p v h) (e : Ex h H) (kk : ∀ v h' H', Stp h H h' H' → (SQ K c Q).p v h' → R v H') : rOwn K (c.at k) (F.sp K c) u v H R := by
  obtain ⟨o, dx, fs, rfl, ho⟩ := is_ins ix a
  obtain ⟨t, ht, nf⟩ := eqr_ty ok iy ((y.p K c).mono e d)
  exact ⟨o, dx, fs, t, rfl, e _ _ ho, ht, nf, sp_of q e (.cons a (.cons d .nil)) kk⟩
def XO.ownEq (k : Bool) (F : XF) : XO := ⟨fun x y Q => x.is k ∧ y.eqr k ∧ F.f [x, y] Q, fun k ⟨a, b, q⟩ => ⟨a, b, F.m k q⟩⟩
theorem eo_ownEq {k : Bool} {F : XF} (ok : OkEq K c k) : EO K c (rOwn K (c.at k) (F.sp K c)) (.ownEq k F) := fun x y Q ⟨ix, iy, q⟩ u v h H a d e R kk => is_eqv ok ix iy q a d e kk
def XO.ownNe (k : Bool) (F : XF) : XO := ⟨fun x y Q => x.is k ∧ y.eqr k ∧ F.f [x, y] fun w => ∃ b, w = .bl b ∧ Q (.bl (!b)), fun k ⟨a, b, q⟩ => ⟨a, b, F.m (fun w ⟨b, e, z⟩ => ⟨b, e, k _ z⟩) q⟩⟩
theorem eo_ownNe {k : Bool} {F : XF} (ok : OkEq K c k) : EO K c (rOwnNe K (c.at k) (F.sp K c)) (.ownNe k F) := fun x y Q ⟨ix, iy, q⟩ u v h H a d e R kk => by
  obtain ⟨o, dx, fs, rfl, ho⟩ := is_ins ix a
  obtain ⟨t, ht, nf⟩ := eqr_ty ok iy ((y.p K c).mono e d)
  refine ⟨o, dx, fs, t, rfl, e _ _ ho, ht, nf, sp_of q e (.cons a (.cons d .nil)) fun z h' H' s ⟨w, ⟨b, ew, qw⟩, pw⟩ => ?_⟩
  subst ew
  exact ⟨b, dp_bl pw, kk _ h' H' s ⟨_, qw, Dq.bl _⟩⟩
/-! ### functions -/
def XN.or (o o' : XN) : XN := ⟨fun x Q => o.f x Q ∨ o'.f x Q, fun k q => q.elim (fun z => .inl (o.m k z)) (fun z => .inr (o'.m k z))⟩
theorem en_or {r r' : List V → Hp → VK → Prop} {o o' : XN} (h : EN K c r o) (h' : EN K c r' o') : EN K c (fun xs H Q => r xs H Q ∨ r' xs H Q) (o.or o') := fun x Q q vs h0 H a e R k => q.elim (fun z => .inl (h x Q z vs h0 H a e R k)) (fun z => .inr (h' x Q z vs h0 H a e R k))
theorem fnp_sq {r : List V → Hp → VK → Prop} {As Bs : List Pr} {P : Pr} {Q : W → Prop} {w : W} (q : Q w) (h : FnP r As P) (ha : ∀ vs h, Vs Bs vs h → Vs As vs h) (k : ∀ v h, P.p v h → (w.p K c).p v h) : FnP r Bs (SQ K c Q) := fun vs h0 H a e R kk => h vs h0 H (ha _ _ a) e R fun v h' H' s z => kk v h' H' s ⟨w, q, k _ _ z⟩
theorem vs1 {P : Pr} {vs : List V} {h : Hp} (q : Vs [P] vs h) : ∃ v, vs = [v] ∧ P.p v h := by
  cases q with
  | cons a z => cases z; exact ⟨_, rfl, a⟩
theorem vs2 {P R : Pr} {vs : List V} {h : Hp} (q : Vs [P, R] vs h) : ∃ v u, vs = [v, u] ∧ P.p v h ∧ R.p u h := by
  cases q with
  | cons a z =>
    cases z with
    | cons b z => cases z; exact ⟨_, _, rfl, a, b⟩
abbrev rLenSeq (K : PySem.W.Frag) : List V → Hp → VK → Prop := fun xs H Q => ∃ p ys, xs = [.ref p] ∧ (SqL K H p ys ∨ SqT K H p ys) ∧ Q (.int ys.length) H
def XN.len : XN := ⟨fun ws Q => (∃ xs, ws = [.lst xs] ∧ Q (.int xs.length)) ∨ (∃ xs, ws = [.tup xs] ∧ Q (.int xs.length)) ∨ (∃ al, ws = [.arm al] ∧ Q (.int al.length)),
  fun k q => by rcases q with ⟨i, a, q⟩ | ⟨i, a, q⟩ | ⟨i, a, q⟩; exact .inl ⟨i, a, k _ q⟩; exact .inr (.inl ⟨i, a, k _ q⟩); exact .inr (.inr ⟨i, a, k _ q⟩)⟩
theorem en_len : EN K c (rLenSeq K) .len := fun ws Q q vs h H a e R k => by
  rcases q with ⟨xs, rfl, q⟩ | ⟨xs, rfl, q⟩ | ⟨al, rfl, q⟩ <;> obtain ⟨v, rfl, pv⟩ := vs1 a
  · obtain ⟨p, us, rfl, hp, z⟩ := (show (L K (W.ps K c xs)).p v h from pv)
    exact ⟨p, us, rfl, .inl (.inl (.inl (e _ _ hp))), k _ h H (Stp.refl e) ⟨_, q, by rw [z.len, ps_len]; exact Dq.int _⟩⟩
  · obtain ⟨p, us, rfl, hp, z⟩ := (show (U K (W.ps K c xs)).p v h from pv)
    exact ⟨p, us, rfl, .inr (sqT_ex e hp), k _ h H (Stp.refl e) ⟨_, q, by rw [z.len, ps_len]; exact Dq.int _⟩⟩
  · obtain ⟨p, us, rfl, hp, z⟩ := dp_tup (dpl_D pv)
    exact ⟨p, us, rfl, .inr (sqT_ex e hp), k _ h H (Stp.refl e) ⟨_, q, by rw [dpa_len z, List.length_map]; exact Dq.int _⟩⟩
def XN.ii (g : Int → Int → W) : XN := ⟨fun ws Q => ∃ i j, ws = [.int i, .int j] ∧ Q (g i j), fun k ⟨i, j, a, q⟩ => ⟨i, j, a, k _ q⟩⟩
def XN.i (g : Int → W) : XN := ⟨fun ws Q => ∃ i, ws = [.int i] ∧ Q (g i), fun k ⟨i, a, q⟩ => ⟨i, a, k _ q⟩⟩
theorem en_min2 : EN K c (fun xs H Q => ∃ i j, xs = [.int i, .int j] ∧ Q (.int (if j < i then j else i)) H) (.ii fun i j => .int (min i j)) := fun ws Q ⟨i, j, e, q⟩ => by subst e; exact fnp_sq q fnp_min2 (fun _ _ z => z) fun v h z => z
theorem en_max2 : EN K c (fun xs H Q => ∃ i j, xs = [.int i, .int j] ∧ Q (.int (if j > i then j else i)) H) (.ii fun i j => .int (max i j)) := fun ws Q ⟨i, j, e, q⟩ => by subst e; exact fnp_sq q fnp_max2 (fun _ _ z => z) fun v h z => z
theorem en_abs : EN K c (fun xs H Q => ∃ i, xs = [.int i] ∧ Q (.int (if i < 0 then -i else i)) H) (.i fun i => .int (i.natAbs : Int)) := fun ws Q ⟨i, e, q⟩ => by
  subst e
  refine fnp_sq q fnp_abs (fun _ _ z => z) fun v h z => ?_
  have e : (if i < 0 then -i else i) = (i.natAbs : Int) := by split <;> omega
  rw [e] at z
  exact z
theorem p_ints {ns : List Int} {v : V} {h : Hp} (q : (W.p K c (.lst (ns.map .int))).p v h) : (D K (dI ns)).p v h := by
  refine l_data (K := K) ?_
  have z : (L K (W.ps K c (ns.map .int))).p v h := q
  rw [ps_map, List.map_map] at z
  rw [List.map_map]
  exact z
theorem ints_p {ns : List Int} {v : V} {h : Hp} (q : (D K (dI ns)).p v h) : (W.p K c (.lst (ns.map .int))).p v h := by
  have z := data_l q
  show (L K (W.ps K c (ns.map .int))).p v h
  rw [ps_map, List.map_map]
  rw [List.map_map] at z
  exact z
theorem p_intsT {ns : List Int} {v : V} {h : Hp} (q : (W.p K c (.tup (ns.map .int))).p v h) : (D K (dT ns)).p v h := by
  obtain ⟨a, vs, rfl, s, z⟩ := (show (U K (W.ps K c (ns.map .int))).p v h from q)
  rw [ps_map, List.map_map] at z
  refine Dq.tup s (vs_dpa (K := K) ?_)
  rw [List.map_map]
  exact z
theorem intsT_p {ns : List Int} {v : V} {h : Hp} (q : (D K (dT ns)).p v h) : (W.p K c (.tup (ns.map .int))).p v h := by
  have z := data_t q
  show (U K (W.ps K c (ns.map .int))).p v h
  rw [ps_map, List.map_map]
  rw [List.map_map] at z
  exact z
theorem vs_1 {P R : Pr} (h : ∀ v h, P.p v h → R.p v h) : ∀ vs h, Vs [P] vs h → Vs [R] vs h := fun vs h0 q => by
  obtain ⟨v, rfl, z⟩ := vs1 q
  exact .cons (h _ _ z) .nil
def XN.sum : XN := ⟨fun ws Q => ∃ ns : List Int, ws = [.lst (ns.map .int)] ∧ Q (.int ns.sum), fun k ⟨i, a, q⟩ => ⟨i, a, k _ q⟩⟩
theorem en_sum : EN K c (rSum K) .sum := fun ws Q ⟨ns, e, q⟩ => by subst e; exact fnp_sq q fnp_sum (vs_1 fun _ _ z => p_ints z) fun v h z => z
def XN.minL : XN := ⟨fun ws Q => ∃ ns : List Int, ws = [.lst (ns.map .int)] ∧ ns ≠ [] ∧ ∀ m, m ∈ ns → (∀ y ∈ ns, m ≤ y) → Q (.int m), fun k ⟨i, a, n, q⟩ => ⟨i, a, n, fun m hm hy => k _ (q m hm hy)⟩⟩
theorem fnp_sqS {β : Type _} {r : List V → Hp → VK → Prop} {As Bs : List Pr} {P : β → Pr} {Q : W → Prop} (w : β → W) (q : ∀ b, Q (w b)) (h : FnP r As (Pr.some P)) (ha : ∀ vs h, Vs Bs vs h → Vs As vs h) (k : ∀ b v h, (P b).p v h → ((w b).p K c).p v h) : FnP r Bs (SQ K c Q) := fun vs h0 H a e R kk => h vs h0 H (ha _ _ a) e R fun v h' H' s ⟨b, z⟩ => kk v h' H' s ⟨w b, q b, k _ _ _ z⟩
theorem en_minL : EN K c (rMin K) .minL := fun ws Q ⟨ns, e, hn, q⟩ => by subst e; exact fnp_sqS (β := { m : Int // m ∈ ns ∧ ∀ y ∈ ns, m ≤ y }) (fun b => W.int b.1) (fun b => q b.1 b.2.1 b.2.2) (fnp_min hn) (vs_1 fun _ _ z => p_ints z) fun b v h z => z
def XN.maxL : XN := ⟨fun ws Q => ∃ ns : List Int, ws = [.lst (ns.map .int)] ∧ ns ≠ [] ∧ ∀ m, m ∈ ns → (∀ y ∈ ns, y ≤ m) → Q (.int m), fun k ⟨i, a, n, q⟩ => ⟨i, a, n, fun m hm hy => k _ (q m hm hy)⟩⟩
theorem en_maxL : EN K c (rMax K) .maxL := fun ws Q ⟨ns, e, hn, q⟩ => by subst e; exact fnp_sqS (β := { m : Int // m ∈ ns ∧ ∀ y ∈ ns, y ≤ m }) (fun b => W.int b.1) (fun b => q b.1 b.2.1 b.2.2) (fnp_max hn) (vs_1 fun _ _ z => p_ints z) fun b v h z => z
def XN.maxT : XN := ⟨fun ws Q => ∃ ns : List Int, ws = [.tup (ns.map .int)] ∧ ns ≠ [] ∧ ∀ m, m ∈ ns → (∀ y ∈ ns, y ≤ m) → Q (.int m), fun k ⟨i, a, n, q⟩ => ⟨i, a, n, fun m hm hy => k _ (q m hm hy)⟩⟩
theorem en_maxT : EN K c (rMaxT K) .maxT := fun ws Q ⟨ns, e, hn, q⟩ => by subst e; exact fnp_sqS (β := { m : Int // m ∈ ns ∧ ∀ y ∈ ns, y ≤ m }) (fun b => W.int b.1) (fun b => q b.1 b.2.1 b.2.2) (fnp_maxT hn) (vs_1 fun _ _ z => p_intsT z) fun b v h z => z
theorem p_bools {bs : List Bool} {v : V} {h : Hp} (q : (W.p K c (.lst (bs.map .bl))).p v h) : (D K (.list (bs.map PyData.bool))).p v h := by
  refine l_data (K := K) ?_
  have z : (L K (W.ps K c (bs.map .bl))).p v h := q
  rw [ps_map, List.map_map] at z
  rw [List.map_map]
  exact z
def XN.all : XN := ⟨fun ws Q => ∃ bs : List Bool, ws = [.lst (bs.map .bl)] ∧ Q (.bl (bs.all id)), fun k ⟨i, a, q⟩ => ⟨i, a, k _ q⟩⟩
theorem en_all : EN K c (rAll K) .all := fun ws Q ⟨ns, e, q⟩ => by subst e; exact fnp_sq q fnp_all (vs_1 fun _ _ z => p_bools z) fun v h z => z
abbrev rInt1 : List V → Hp → VK → Prop := fun xs H Q => (∃ i, xs = [.int i] ∧ Q (.int i) H) ∨ ∃ k, xs = [.bl k] ∧ Q (.int (if k then 1 else 0)) H
def XN.int1 : XN := ⟨fun ws Q => (∃ i, ws = [.int i] ∧ Q (.int i)) ∨ ∃ b, ws = [.bl b] ∧ Q (.int (if b = true then 1 else 0)), fun k q => by rcases q with ⟨i, a, q⟩ | ⟨i, a, q⟩; exact .inl ⟨i, a, k _ q⟩; exact .inr ⟨i, a, k _ q⟩⟩
theorem en_int1 : EN K c rInt1 .int1 := fun ws Q q vs h H a e R k => by
  rcases q with ⟨i, rfl, q⟩ | ⟨b, rfl, q⟩ <;> obtain ⟨v, rfl, pv⟩ := vs1 a
  · obtain rfl := dp_int pv
    exact .inl ⟨i, rfl, k _ h H (Stp.refl e) ⟨_, q, Dq.int _⟩⟩
  · obtain rfl := dp_bl pv
    exact .inr ⟨b, rfl, k _ h H (Stp.refl e) ⟨_, q, Dq.int _⟩⟩
abbrev rListOf (K : PySem.W.Frag) : List V → Hp → VK → Prop := fun xs H Q => ∃ p ys, xs = [.ref p] ∧ (SqL K H p ys ∨ SqT K H p ys) ∧ ∀ l, H l = none → Q (.ref l) (upd H l (.lst ys))
def XN.list : XN := ⟨fun ws Q => (∃ xs, ws = [.lst xs] ∧ Q (.lst xs)) ∨ (∃ xs, ws = [.tup xs] ∧ Q (.lst xs)) ∨ ∃ ns : List Int, ws = [.scr ns] ∧ Q (.lst (ns.map .int)), fun k q => by rcases q with ⟨i, a, q⟩ | ⟨i, a, q⟩ | ⟨i, a, q⟩; exact .inl ⟨i, a, k _ q⟩; exact .inr (.inl ⟨i, a, k _ q⟩); exact .inr (.inr ⟨i, a, k _ q⟩)⟩
theorem en_list : EN K c (rListOf K) .list := fun ws Q q vs h H a e R k => by
  rcases q with ⟨xs, rfl, q⟩ | ⟨xs, rfl, q⟩ | ⟨ns, rfl, q⟩ <;> obtain ⟨v, rfl, pv⟩ := vs1 a
  · obtain ⟨p, us, rfl, hp, z⟩ := (show (L K (W.ps K c xs)).p v h from pv)
    exact ⟨p, us, rfl, .inl (.inl (.inl (e _ _ hp))), fun l nl => k _ (upd h l (.lst us)) _ (Stp.new e nl) ⟨_, q, l, us, rfl, upd_same, z.mono (Stp.new (o := .lst us) e nl).s⟩⟩
  · obtain ⟨p, us, rfl, hp, z⟩ := (show (U K (W.ps K c xs)).p v h from pv)
    exact ⟨p, us, rfl, .inr (sqT_ex e hp), fun l nl => k _ (upd h l (.lst us)) _ (Stp.new e nl) ⟨_, q, l, us, rfl, upd_same, z.mono (Stp.new (o := .lst us) e nl).s⟩⟩
  · obtain ⟨p, rfl, hp⟩ := pv
    refine ⟨p, _, rfl, .inl (sqL_ex e hp), fun l nl => k _ (upd h l (.lst (ns.map V.int))) _ (Stp.new e nl) ⟨_, q, ints_p (ints_dp upd_same)⟩⟩
abbrev rTupleOf (K : PySem.W.Frag) : List V → Hp → VK → Prop := fun xs H Q => ∃ p ys, xs = [.ref p] ∧ ((SqL K H p ys ∧ ∀ l, H l = none → Q (.ref l) (upd H l (.tup ys))) ∨ (SqT K H p ys ∧ Q (.ref p) H))
def XN.tuple : XN := ⟨fun ws Q => (∃ xs, ws = [.lst xs] ∧ Q (.tup xs)) ∨ (∃ xs, ws = [.tup xs] ∧ Q (.tup xs)), fun k q => by rcases q with ⟨i, a, q⟩ | ⟨i, a, q⟩; exact .inl ⟨i, a, k _ q⟩; exact .inr ⟨i, a, k _ q⟩⟩
theorem en_tuple : EN K c (rTupleOf K) .tuple := fun ws Q q vs h H a e R k => by
  rcases q with ⟨xs, rfl, q⟩ | ⟨xs, rfl, q⟩ <;> obtain ⟨v, rfl, pv⟩ := vs1 a
  · obtain ⟨p, us, rfl, hp, z⟩ := (show (L K (W.ps K c xs)).p v h from pv)
    exact ⟨p, us, rfl, .inl ⟨.inl (.inl (e _ _ hp)), fun l nl => k _ (upd h l (.tup us)) _ (Stp.new e nl) ⟨_, q, l, us, rfl, .inl (.inl upd_same), z.mono (Stp.new (o := .tup us) e nl).s⟩⟩⟩
  · obtain ⟨p, us, rfl, hp, z⟩ := (show (U K (W.ps K c xs)).p v h from pv)
    exact ⟨p, us, rfl, .inr ⟨sqT_ex e hp, k _ h H (Stp.refl e) ⟨_, q, p, us, rfl, hp, z⟩⟩⟩
/-- tuple(list of pairs), plain -/
def XN.tupF : XN := ⟨fun ws Q => ∃ al, ws = [.lst (arW al)] ∧ Q (.arm al), fun k ⟨i, a, q⟩ => ⟨i, a, k _ q⟩⟩
theorem p_prs {al : List (Int × Int)} {v : V} {h : Hp} (q : (W.p K c (.lst (arW al))).p v h) : (D K (.list (prI al))).p v h := by
  have z := (pl_dat (K := K) (c := c) 60 (.lst (arW al)) (pl_arW al)).1 v h q
  have e : (W.lst (arW al)).dat = .list (prI al) := by
    have := dat_arW al
    show PyData.list _ = _
    exact congrArg PyData.list (PyData.tuple.inj this)
  rw [e] at z
  exact z
theorem en_tupF : EN K c (rTupF K) .tupF := fun ws Q ⟨al, e, q⟩ => by subst e; exact fnp_sq q fnp_tupF (vs_1 fun _ _ z => p_prs z) fun v h z => z
def XN.sortedI : XN := ⟨fun ws Q => ∃ ns : List Int, ws = [.lst (ns.map .int)] ∧ ∀ ys : List Int, ys.Perm ns → ys.Pairwise (· ≤ ·) → Q (.lst (ys.map .int)), fun k ⟨i, a, q⟩ => ⟨i, a, fun y h h' => k _ (q y h h')⟩⟩
theorem en_sortedI : EN K c (rSortedI K) .sortedI := fun ws Q ⟨ns, e, q⟩ vs h H a ee R k => by
  subst e
  obtain ⟨v, rfl, pv⟩ := vs1 a
  obtain ⟨p, rfl, s⟩ := dp_ints (p_ints pv)
  exact ⟨p, ns, rfl, .inl (.inl (ee _ _ s)), fun ys l hp hs nl => k _ (upd h l (.lst (ys.map V.int))) _ (Stp.new ee nl) ⟨_, q ys hp hs, ints_p (ints_dp upd_same)⟩⟩
abbrev rSortedD : List V → Hp → VK → Prop := fun xs H Q => ∃ (a : Addr) (kvs : List (Key × V)) (ks : List Int), xs = [.ref a] ∧ Rd H a (.dK kvs) ∧ kvs.map (·.1) = ks.map Sum.inl ∧ ks.length < 64 ∧
    ∀ (ys : List Int) (p : Addr), ys.Perm ks → ys.Pairwise (· ≤ ·) → H p = none → Q (.ref p) (upd H p (.lst (ys.map V.int)))
def XN.sortedD : XN := ⟨fun ws Q => ∃ al : List (Int × Int), ws = [.dct al] ∧ al.length < 64 ∧ ∀ ys : List Int, ys.Perm (al.map (·.1)) → ys.Pairwise (· ≤ ·) → Q (.lst (ys.map .int)), fun k q => by obtain ⟨i, a, n, q⟩ := q; exact ⟨i, a, n, fun y h h' => k _ (q y h h')⟩⟩
theorem en_sortedD : EN K c rSortedD .sortedD := fun ws Q ⟨al, e, h64, q⟩ => by
  subst e
  exact fnp_sqS (fun b => .lst (b.1.map .int)) (fun b => q b.1 b.2.1 b.2.2) (fnp_sortedD h64) (fun _ _ z => z) fun b v h z => ints_p z
/-! isinstance -/
def W.tyn : W → Option String
  | .non => some "NoneType" | .bl _ => some "bool" | .int _ => some "int" | .str _ => some "str" | .lst _ => some "list" | .tup _ => some "tuple" | .arm _ => some "tuple" | _ => none
structure OkIs (K : PySem.W.Frag) (c : Cl) (k : Bool) : Prop where
  cl : Cls K (c.at k)
  ha : PySem.W.findIn K (.ref (c.at k)) "__class__" = some (some (.builtin "object.__class__"))
  hn : PySem.W.specialIn K (.builtin "object.__class__") "__get__" = some (some (.builtin "getset_descriptor.__get__"))
  htk : PySem.W.takesIn K (.builtin "object.__class__") = some true
  hm : PySem.W.mroIn K (c.at k) (.type "object") = some true
  ic : PySem.W.isClsIn K (c.at k) = true
  ty : PySem.W.typeIn K (.ref (c.at k)) = some (.type "type")
  st : PySem.W.subIn K (.type "tuple") (.ref (c.at k)) = some false
theorem ty_of {w : W} {n : String} (h : w.tyn = some n) {v : V} {h0 : Hp} (q : (w.p K c).p v h0) : TyX K h0 v (.type n) := by
  cases w <;> first | (cases h; done) | skip
  · cases h; obtain rfl := dp_non q; exact .base .non
  · cases h; obtain rfl := dp_bl q; exact .base (.bl _)
  · cases h; obtain rfl := dp_int q; exact .base (.int _)
  · cases h; obtain rfl := dp_str q; exact .base (.str _)
  · cases h
    obtain ⟨p, us, rfl, s, z⟩ := (show (U K (W.ps K c _)).p v h0 from q)
    rcases s with (s | ⟨o, s⟩) | ⟨o, its, m, s, c, _⟩
    · exact .base (.tup s)
    · exact .fTuple s
    · exact .kTuple s c
  · cases h
    obtain ⟨p, us, rfl, s, z⟩ := (show (L K (W.ps K c _)).p v h0 from q)
    exact .base (.lst s)
  · cases h; exact tyX_of (dpl_D q) rfl
/-- the class's own isinstance: yes for its objects, no for tuples -/
def W.isT (x t : W) : Option Bool := match t with
  | .ty n => match x.tyn with | some m => L2.kitB m n | none => none
  | .cls true => match x with | .rig _ => some true | .tup _ => some false | _ => none
  | .cls false => match x with | .mem _ => some true | .tup _ => some false | _ => none
  | _ => none
def XN.isi : XN := ⟨fun ws Q => ∃ x t r, ws = [x, t] ∧ x.isT t = some r ∧ Q (.bl r), fun k ⟨x, t, r, a, e, q⟩ => ⟨x, t, r, a, e, k _ q⟩⟩
theorem kit_self {k : Bool} : PySem.W.kitOne K (.ref (c.at k)) (.ref (c.at k)) = some true := by
  unfold PySem.W.kitOne
  rw [if_pos (by simp)]
theorem kit_tup {k : Bool} (o : OkIs K c k) : PySem.W.kitOne K (.type "tuple") (.ref (c.at k)) = some false := by
  unfold PySem.W.kitOne
  rw [if_neg (by simp)]
  show (if ((PySem.W.clsIn K (c.at k)).isSome && PySem.W.typeIn K (.ref (c.at k)) == some (.type "type")) = true then PySem.W.subIn K (.type "tuple") (.ref (c.at k)) else none) = some false
  have i : (PySem.W.clsIn K (c.at k)).isSome = true := o.ic
  rw [if_pos (by rw [i, o.ty] <;> rfl)]
  exact o.st
theorem ins_ty {k : Bool} (o : OkIs K c k) {w : W} (i : w.is k) {v : V} {h : Hp} (q : (w.p K c).p v h) : TyX K h v (.ref (c.at k)) := by
  obtain ⟨l, dx, fs, rfl, ho⟩ := is_ins i q
  exact .base (.ins ho o.cl o.ha o.hn o.htk o.hm)
theorem en_isi0 : EN K c (rIsi K) ⟨fun ws Q => ∃ x n r, ws = [x, .ty n] ∧ x.isT (.ty n) = some r ∧ Q (.bl r), fun k ⟨x, t, r, a, e, q⟩ => ⟨x, t, r, a, e, k _ q⟩⟩ := fun ws Q ⟨x, n, r, ew, er, q⟩ vs h H a e R k => by
  subst ew
  obtain ⟨v, u, rfl, pv, pu⟩ := vs2 a
  obtain rfl : u = .ty n := pu
  cases hx : x.tyn with
  | none => unfold W.isT at er; rw [hx] at er; cases er
  | some m =>
    have er' : L2.kitB m n = some r := by unfold W.isT at er; rw [hx] at er; exact er
    exact ⟨_, _, .type m, .type n, r, rfl, .ty n, ty_of hx ((x.p K c).mono e pv), kit_ty er', k _ h H (Stp.refl e) ⟨_, q, Dq.bl r⟩⟩
theorem en_isiC {j : Bool} (o : OkIs K c j) : EN K c (rIsi K) ⟨fun ws Q => ∃ x r, ws = [x, .cls j] ∧ x.isT (.cls j) = some r ∧ Q (.bl r), fun k ⟨x, r, a, e, q⟩ => ⟨x, r, a, e, k _ q⟩⟩ := fun ws Q ⟨x, r, ew, er, q⟩ vs h H a e R k => by
  subst ew
  obtain ⟨v, u, rfl, pv, pu⟩ := vs2 a
  obtain rfl : u = .ref (c.at j) := pu
  have yes : x.is j → r = true → rIsi K [v, .ref (c.at j)] H R := fun i er => by
    subst er
    exact ⟨_, _, .ref (c.at j), .ref (c.at j), true, rfl, .own _, ins_ty o i ((x.p K c).mono e pv), kit_self, k _ h H (Stp.refl e) ⟨_, q, Dq.bl _⟩⟩
  have no : x.tyn = some "tuple" → r = false → rIsi K [v, .ref (c.at j)] H R := fun i er => by
    subst er
    exact ⟨_, _, .type "tuple", .ref (c.at j), false, rfl, .own _, ty_of i ((x.p K c).mono e pv), kit_tup o, k _ h H (Stp.refl e) ⟨_, q, Dq.bl _⟩⟩
  cases j <;> cases x <;> first | (cases er; done) | exact yes trivial (Option.some.inj er).symm | exact no rfl (Option.some.inj er).symm
/-- len of an own object -/
def XN.ownLen (k : Bool) (F : XF) : XN := ⟨fun ws Q => ∃ x, ws = [x] ∧ x.is k ∧ F.f [x] fun w => ∃ n : Nat, w = .int n ∧ n < 100000 ∧ Q (.int n), fun k ⟨x, a, i, q⟩ => ⟨x, a, i, F.m (fun _ ⟨n, e, l, z⟩ => ⟨n, e, l, k _ z⟩) q⟩⟩
theorem en_ownLen {k : Bool} {F : XF} : EN K c (rOwnLen (c.at k) (F.sp K c)) (.ownLen k F) := fun ws Q ⟨x, ew, i, q⟩ vs h H a e R kk => by
  subst ew
  obtain ⟨v, rfl, pv⟩ := vs1 a
  obtain ⟨o, dx, fs, rfl, ho⟩ := is_ins i pv
  refine ⟨o, dx, fs, rfl, e _ _ ho, sp_of q e (.cons pv .nil) fun z h' H' s ⟨w, ⟨n, ew, hn, qw⟩, pw⟩ => ?_⟩
  subst ew
  exact ⟨n, dp_int pw, by omega, kk _ h' H' s ⟨_, qw, Dq.int _⟩⟩
end
/-! ### fields, properties, calls of objects, methods -/
section
variable {K : PySem.W.Frag} {c : Cl} {te ta tb tc : TE} {tr : TA} {e a b d : XE} {ar : XA}
/-- self._arms, self._places -/
def XE.fld (k : Bool) (a : XE) : XE := ⟨fun ρ Q => a.f ρ fun w => (∃ al, k = true ∧ w = .rig al ∧ Q (.arm al)) ∨ ∃ ns : List Int, k = false ∧ w = .mem ns ∧ Q (.tup (ns.map .int)), fun k q => a.m (fun w q => by rcases q with ⟨i, h, a, q⟩ | ⟨i, h, a, q⟩; exact .inl ⟨i, h, a, k _ q⟩; exact .inr ⟨i, h, a, k _ q⟩) q⟩
def fldN : Bool → Str | true => "_arms" | false => "_places"
theorem ev_fld {k : Bool} (cl : Cls K (c.at k)) (n : NoAttr K (c.at k) (fldN k)) (ha : Ev K c ta a) : Ev K c (tFld K ta (fldN k)) (.fld k a) := fun ρ Q q σ h H nn ee R kk => ha ρ _ q σ h H nn ee _ fun v h1 H1 s1 ⟨w, qw, pw⟩ => by
  rcases qw with ⟨al, rfl, rfl, q⟩ | ⟨ns, rfl, rfl, q⟩
  · obtain ⟨p, dx, u, rfl, ho, z⟩ := pw
    exact ⟨p, c.R, dx, _, u, rfl, s1.i _ _ ho, cl, n, lookup1, kk u h1 H1 s1 ⟨_, q, z⟩⟩
  · obtain ⟨p, dx, u, rfl, ho, z⟩ := pw
    exact ⟨p, c.C, dx, _, u, rfl, s1.i _ _ ho, cl, n, lookup1, kk u h1 H1 s1 ⟨_, q, intsT_p z⟩⟩
def XE.prop (k : Bool) (F : XF) (a : XE) : XE := ⟨fun ρ Q => a.f ρ fun w => w.is k ∧ F.f [w] Q, fun k q => a.m (fun w ⟨i, z⟩ => ⟨i, F.m k z⟩) q⟩
theorem ev_prop {k : Bool} {F : XF} (ha : Ev K c ta a) : Ev K c (tProp (c.at k) (F.sp K c) [] E0 ta) (.prop k F a) := fun ρ Q q σ h H nn ee R kk => ha ρ _ q σ h H nn ee _ fun v h1 H1 s1 ⟨w, ⟨i, qw⟩, pw⟩ => by
  obtain ⟨o, dx, fs, rfl, ho⟩ := is_ins i pw
  exact ⟨o, dx, fs, rfl, s1.i _ _ ho, sp_of qw s1.i (.cons pw .nil) fun v h2 H2 s2 z => kk v h2 H2 (s1.trans s2) z⟩
def XE.callO (k : Bool) (F : XF) (a : XE) (r : XA) : XE := ⟨fun ρ Q => a.f ρ fun w => w.is k ∧ r.f ρ fun ws => F.f (w :: ws) Q, fun k q => a.m (fun w ⟨i, z⟩ => ⟨i, r.m (fun _ z => F.m k z) z⟩) q⟩
theorem ev_callO {X : Cx} {k : Bool} {F : XF} (ha : Ev K c ta a) (hr : EA K c tr ar) : Ev K c (StX.tCallO X (c.at k) (F.sp K c) E0 ta tr) (.callO k F a ar) := fun ρ Q q σ h H nn ee R kk => ha ρ _ q σ h H nn ee _ fun v h1 H1 s1 ⟨w, ⟨i, qw⟩, pw⟩ => by
  obtain ⟨o, dx, fs, rfl, ho⟩ := is_ins i pw
  refine ⟨o, rfl, hr ρ _ qw σ h1 H1 (nn.mono s1.s) s1.i _ fun ws vs h2 H2 q2 s2 p2 => ⟨.inr ⟨dx, fs, s2.e _ _ (s1.i _ _ ho)⟩, ?_⟩⟩
  exact sp_of q2 s2.i (.cons ((w.p K c).mono s2.s pw) p2) fun v h3 H3 s3 z => kk v h3 H3 ((s1.trans s2).trans s3) z
def hasFld : Bool → Str → Bool | true, m => m == ("_arms" : Str) | false, m => m == ("_places" : Str)
theorem ev_mth {k : Bool} {m : Str} {F : XF} (ha : Ev K c ta a) (hr : EA K c tr ar) (hm : hasFld k m = false := by decide) : Ev K c (tMethR (c.at k) m (F.sp K c) E0 ta tr) (.callO k F a ar) := fun ρ Q q σ h H nn ee R kk => ha ρ _ q σ h H nn ee _ fun v h1 H1 s1 ⟨w, ⟨i, qw⟩, pw⟩ => by
  have go : ∃ o dx fs, v = .ref o ∧ h1 o = some (.ins (c.at k) dx fs) ∧ fs.lookup m = none := by
    cases k <;> cases w <;> first | exact i.elim | (obtain ⟨o, dx, u, rfl, ho, z⟩ := pw; exact ⟨o, dx, _, rfl, ho, lookup1_ne hm⟩)
  obtain ⟨o, dx, fs, rfl, ho, hl⟩ := go
  refine ⟨o, dx, fs, rfl, s1.i _ _ ho, hl, hr ρ _ qw σ h1 H1 (nn.mono s1.s) s1.i _ fun ws vs h2 H2 q2 s2 p2 => ?_⟩
  exact sp_of q2 s2.i (.cons ((w.p K c).mono s2.s pw) p2) fun v h3 H3 s3 z => kk v h3 H3 ((s1.trans s2).trans s3) z
/-- Rig(arms), Memory(places) -/
structure XI' where
  pre : W → Prop
def spIniW (K : PySem.W.Frag) (c : Cl) (k : Bool) (pre : W → Prop) : Sp := spIni K (c.at k) (fldN k) fun P => ∃ w, P = W.p K c w ∧ pre w
def XE.mkRig (pre : List (Int × Int) → Prop) (a : XE) : XE := ⟨fun ρ Q => a.f ρ fun w => ∃ al, w = .arm al ∧ pre al ∧ Q (.rig al), fun k q => a.m (fun w ⟨al, e, p, q⟩ => ⟨al, e, p, k _ q⟩) q⟩
def XE.mkMem (pre : List Int → Prop) (a : XE) : XE := ⟨fun ρ Q => a.f ρ fun w => ∃ ns : List Int, w = .tup (ns.map .int) ∧ pre ns ∧ Q (.mem ns), fun k q => a.m (fun w ⟨al, e, p, q⟩ => ⟨al, e, p, k _ q⟩) q⟩
theorem ev_mkRig {preF : Pr → Prop} {pre : List (Int × Int) → Prop} (hp : ∀ al, pre al → preF (DPl K (prI al))) (ha : Ev K c ta a) : Ev K c (StX.tMakeR c.R (spIni K c.R "_arms" preF) E0 (tCons ta tNil)) (.mkRig pre a) := fun ρ Q q => by
  have z : T (ρ.G K c) ta (Pr.some fun al : { al // pre al ∧ Q (.rig al) } => DPl K (prI al.1)) := t_weak (ha ρ _ q) fun v h ⟨w, ⟨al, ew, p, qq⟩, pw⟩ => by subst ew; exact ⟨⟨al, p, qq⟩, pw⟩
  exact t_weak (t_mkObS z fun s => hp s.1 s.2.1) fun v h ⟨al, y⟩ => ⟨.rig al.1, al.2.2, y⟩
theorem ev_mkMem {preF : Pr → Prop} {pre : List Int → Prop} (hp : ∀ ns, pre ns → preF (D K (dT ns))) (ha : Ev K c ta a) : Ev K c (StX.tMakeR c.C (spIni K c.C "_places" preF) E0 (tCons ta tNil)) (.mkMem pre a) := fun ρ Q q => by
  have z : T (ρ.G K c) ta (Pr.some fun ns : { ns : List Int // pre ns ∧ Q (.mem ns) } => D K (dT ns.1)) := t_weak (ha ρ _ q) fun v h ⟨w, ⟨al, ew, p, qq⟩, pw⟩ => by subst ew; exact ⟨⟨al, p, qq⟩, p_intsT pw⟩
  exact t_weak (t_mkObS z fun s => hp s.1 s.2.1) fun v h ⟨al, y⟩ => ⟨.mem al.1, al.2.2, y⟩
/-- the display of a plain tuple -/
def XE.tupF (a : XA) : XE := ⟨fun ρ Q => a.f ρ fun ws => ∃ al, ws = arW al ∧ al.length ≤ 100000 ∧ Q (.arm al), fun k q => a.m (fun w ⟨al, e, p, q⟩ => ⟨al, e, p, k _ q⟩) q⟩
theorem ev_tupF (hr : EA K c tr ar) : Ev K c (tTupF tr) (.tupF ar) := fun ρ Q q σ h H n e R k =>
  hr ρ _ q σ h H n e _ fun ws vs h1 H1 ⟨al, ew, hz, qw⟩ s1 p1 => by
    subst ew
    refine ⟨by rw [p1.len, ps_len, List.length_map]; exact Evl.sz_of hz, fun p o np od => k _ (upd h1 p (.frz o (.tup vs))) _ (s1.trans (Stp.new s1.i np)) ⟨_, qw, p, o, vs, rfl, upd_same, od, ?_⟩⟩
    have st := (Stp.new (o := .frz o (.tup vs)) s1.i np).s
    have z := p1.mono st
    have hx : ∀ x ∈ arW al, Pl 59 x := pl_arW al
    have go : ∀ (al : List (Int × Int)) (vs : List V), (∀ x ∈ arW al, Pl 59 x) → Vs (W.ps K c (arW al)) vs (upd h1 p (.frz o (.tup vs))) → True := fun _ _ _ _ => trivial
    have goal : ∀ (al : List (Int × Int)) (us : List V) (hh : Hp), Vs (W.ps K c (arW al)) us hh → DqAll K hh us (prI al) := by
      intro al
      induction al with
      | nil => intro us hh q; cases q; exact .nil
      | cons x al ih =>
        intro us hh q
        cases q with
        | cons q1 q2 =>
          refine .cons ?_ (ih _ _ q2)
          have y := (pl_dat (K := K) (c := c) 59 (.tup [.int x.1, .int x.2]) (pl_arW [x] _ List.mem_cons_self)).1 _ _ q1
          exact y
    exact goal al vs _ z
/-! ### slices -/
abbrev rSlU (K : PySem.W.Frag) : V → Option Int → Option Int → Hp → VK → Prop := fun x lo hi H Q => rSlL K x lo hi H Q ∨ rSlA K x lo hi H Q
def XE.sl (a : XE) (l u : XP) : XE := ⟨fun ρ Q => a.f ρ fun w => l.f ρ fun i => u.f ρ fun j => (∃ xs, w = .lst xs ∧ Q (.lst (cutD xs i j))) ∨ ∃ xs, w = .tup xs ∧ Q (.tup (cutD xs i j)),
  fun k q => a.m (fun w z => l.m (fun i z => u.m (fun j z => by rcases z with ⟨x, e, q⟩ | ⟨x, e, q⟩; exact .inl ⟨x, e, k _ q⟩; exact .inr ⟨x, e, k _ q⟩) z) z) q⟩
theorem vs_cut {Ps : List Pr} {vs : List V} {h : Hp} (q : Vs Ps vs h) (lo hi : Option Int) : Vs (cutD Ps lo hi) (cutD vs lo hi) h := by
  have dr : ∀ (n : Nat) {Ps : List Pr} {vs : List V}, Vs Ps vs h → Vs (Ps.drop n) (vs.drop n) h := by
    intro n
    induction n with
    | zero => intro Ps vs q; exact q
    | succ n ih =>
      intro Ps vs q
      cases q with
      | nil => exact .nil
      | cons a q => exact ih q
  have tk : ∀ (n : Nat) {Ps : List Pr} {vs : List V}, Vs Ps vs h → Vs (Ps.take n) (vs.take n) h := by
    intro n
    induction n with
    | zero => intro Ps vs q; exact .nil
    | succ n ih =>
      intro Ps vs q
      cases q with
      | nil => exact .nil
      | cons a q => exact .cons a (ih q)
  unfold cutD
  rw [q.len]
  exact tk _ (dr _ q)
theorem ps_cut (xs : List W) (lo hi : Option Int) : W.ps K c (cutD xs lo hi) = cutD (W.ps K c xs) lo hi := by rw [ps_map, ps_map, cutD_map]
theorem ev_sl {tl th : TO} {l u : XP} (ha : Ev K c ta a) (hl : EP' K c tl l) (hu : EP' K c th u) : Ev K c (tSl (rSlU K) ta tl th) (.sl a l u) := fun ρ Q q σ h H nn ee R k =>
  ha ρ _ q σ h H nn ee _ fun v h1 H1 s1 ⟨w, q1, pw⟩ => hl ρ _ q1 σ h1 H1 (nn.mono s1.s) s1.i _ fun i h2 H2 q2 s2 => hu ρ _ q2 σ h2 H2 (nn.mono (s1.trans s2).s) s2.i _ fun j h3 H3 q3 s3 => by
    have s := (s1.trans s2).trans s3
    have pw3 := (w.p K c).mono (s2.trans s3).s pw
    rcases q3 with ⟨xs, rfl, q⟩ | ⟨xs, rfl, q⟩
    · obtain ⟨p, us, rfl, hp, z⟩ := (show (L K (W.ps K c xs)).p v h3 from pw3)
      refine .inl ⟨p, us, rfl, .inl (.inl (s3.i _ _ hp)), fun p' np => k _ (upd h3 p' (.lst (cutV us i j))) _ (s.trans (Stp.new s3.i np)) ⟨_, q, p', _, rfl, upd_same, ?_⟩⟩
      rw [ps_cut]
      exact vs_cut (z.mono (Stp.new (o := .lst (cutV us i j)) s3.i np).s) i j
    · obtain ⟨p, us, rfl, hp, z⟩ := (show (U K (W.ps K c xs)).p v h3 from pw3)
      refine .inr ⟨p, us, rfl, sqT_ex s3.i hp, fun w => k _ h3 H3 s ⟨_, q, p, us, rfl, hp, ?_⟩, fun _ p' np => k _ (upd h3 p' (.tup (cutV us i j))) _ (s.trans (Stp.new s3.i np)) ⟨_, q, p', _, rfl, .inl (.inl upd_same), ?_⟩⟩
      · have e : cutD xs i j = xs := by
          have hlen : us.length = xs.length := by rw [z.len, ps_len]
          unfold cutD
          rw [← hlen, w.1, w.2, List.drop_zero, Nat.sub_zero, hlen, List.take_length]
        rw [e]; exact z
      · rw [ps_cut]
        exact vs_cut (z.mono (Stp.new (o := .tup (cutV us i j)) s3.i np).s) i j
end
end Z

namespace Z
open PySem L2
/-! ### things gone over -/
section
variable (K : PySem.W.Frag) (c : Cl)
/-- the iterator J gives what ws says, as long as the part h1 stands -/
structure ItOk (J : It) (h1 : Hp) (ws : List W) : Prop where
  go : ∀ (i : Nat) (w : W) (h H : Hp), ws[i]? = some w → Ex h1 h → Ex h H → J.go i H ∧ ∀ v H', J.yld i H v H' → ∃ h', Stp h H h' H' ∧ (w.p K c).p v h'
  stop : ∀ (h H : Hp), Ex h1 h → Ex h H → J.stop ws.length H
structure XI where
  f : Sl → (List W → Prop) → Prop
  m : ∀ {ρ : Sl} {Q Q' : List W → Prop}, (∀ w, Q w → Q' w) → f ρ Q → f ρ Q'
def EI (wi : TI) (it : XI) : Prop := ∀ (ρ : Sl) (Q : List W → Prop), it.f ρ Q → ∀ (σ : St) (h H : Hp), En (ρ.G K c) σ h → Ex h H → ∀ R : It → Hp → Prop, (∀ ws J h1 H1, Q ws → Stp h H h1 H1 → ItOk K c J h1 ws → R J H1) → wi σ H R
end
section
variable {K : PySem.W.Frag} {c : Cl} {te ta tb tc : TE} {tr : TA} {e a b d : XE} {ar : XA} {J : It} {h1 : Hp}
theorem ps_get {ws : List W} {i : Nat} {w : W} (h : ws[i]? = some w) : (W.ps K c ws)[i]? = some (w.p K c) := by rw [ps_map, List.getElem?_map, h]; rfl
theorem it_list {p : Addr} {vs : List V} {ws : List W} (hs : SqL K h1 p vs) (hv : Vs (W.ps K c ws) vs h1) : ItOk K c (Itl K p) h1 ws := by
  have ln : vs.length = ws.length := by rw [hv.len, ps_len]
  refine ⟨fun i w h H hi e1 e2 => ?_, fun h H e1 e2 => ⟨vs, sqL_ex e2 (sqL_ex e1 hs), Nat.le_of_eq ln⟩⟩
  obtain ⟨v, hv1, pv⟩ := vs_get hv (ps_get hi)
  refine ⟨⟨vs, v, sqL_ex e2 (sqL_ex e1 hs), hv1⟩, fun u H' y => ?_⟩
  obtain ⟨rfl, y⟩ := y
  have e := y vs (sqL_ex e2 (sqL_ex e1 hs))
  rw [hv1] at e
  cases e
  exact ⟨h, Stp.refl e2, (w.p K c).mono e1 pv⟩
theorem it_tup {p : Addr} {vs : List V} {ws : List W} (hs : SqT K h1 p vs) (hv : Vs (W.ps K c ws) vs h1) : ItOk K c (Itt K p) h1 ws := by
  have ln : vs.length = ws.length := by rw [hv.len, ps_len]
  refine ⟨fun i w h H hi e1 e2 => ?_, fun h H e1 e2 => ⟨vs, sqT_ex e2 (sqT_ex e1 hs), Nat.le_of_eq ln⟩⟩
  obtain ⟨v, hv1, pv⟩ := vs_get hv (ps_get hi)
  refine ⟨⟨vs, v, sqT_ex e2 (sqT_ex e1 hs), hv1⟩, fun u H' y => ?_⟩
  obtain ⟨rfl, y⟩ := y
  have e := y vs (sqT_ex e2 (sqT_ex e1 hs))
  rw [hv1] at e
  cases e
  exact ⟨h, Stp.refl e2, (w.p K c).mono e1 pv⟩
/-- list, tuple: the items -/
def W.itL : W → Option (List W) | .lst xs => some xs | .scr ns => some (ns.map .int) | _ => none
def W.itT : W → Option (List W) | .tup xs => some xs | .arm al => some (arW al) | _ => none
theorem scr_vs (ns : List Int) (h : Hp) : Vs (W.ps K c (ns.map .int)) (ns.map V.int) h := by
  rw [ps_map, List.map_map]
  induction ns with
  | nil => exact .nil
  | cons n ns ih => exact .cons (Dq.int n) ih
theorem itL_of {w : W} {xs : List W} (hx : w.itL = some xs) {v : V} {h : Hp} (q : (w.p K c).p v h) : ∃ p vs, v = .ref p ∧ SqL K h p vs ∧ Vs (W.ps K c xs) vs h := by
  cases w <;> first | (cases hx; done) | skip
  · cases hx; obtain ⟨p, vs, rfl, s, z⟩ := (show (L K (W.ps K c _)).p v h from q); exact ⟨p, vs, rfl, .inl (.inl s), z⟩
  · cases hx; obtain ⟨p, rfl, s⟩ := q; exact ⟨p, _, rfl, s, scr_vs _ h⟩
theorem itT_of {w : W} {xs : List W} (hx : w.itT = some xs) {v : V} {h : Hp} (q : (w.p K c).p v h) : ∃ p vs, v = .ref p ∧ SqT K h p vs ∧ Vs (W.ps K c xs) vs h := by
  cases w <;> first | (cases hx; done) | skip
  · cases hx; exact q
  · cases hx
    rename_i al
    obtain ⟨p, vs, rfl, s, z⟩ := dp_tup (dpl_D q)
    refine ⟨p, vs, rfl, s, ?_⟩
    have go : ∀ (al : List (Int × Int)) (us : List V), DqAll K h us (prI al) → Vs (W.ps K c (arW al)) us h := by
      intro al
      induction al with
      | nil => intro us q; cases q; exact .nil
      | cons x al ih =>
        intro us q
        cases q with
        | cons q1 q2 =>
          refine .cons ?_ (ih _ q2)
          obtain ⟨l, u1, u2, rfl, s, d1, d2⟩ := dp_pair q1
          exact ⟨l, [u1, u2], rfl, s, .cons d1 (.cons d2 .nil)⟩
    exact go al vs z
/-- over a list, over a tuple, over either -/
def XI.seq (a : XE) : XI := ⟨fun ρ Q => a.f ρ fun w => (∃ xs, w.itL = some xs ∧ Q xs) ∨ ∃ xs, w.itT = some xs ∧ Q xs, fun k q => a.m (fun w z => by rcases z with ⟨x, e, q⟩ | ⟨x, e, q⟩; exact .inl ⟨x, e, k _ q⟩; exact .inr ⟨x, e, k _ q⟩) q⟩
def tSeqI (K : PySem.W.Frag) (ta : TE) : TI := fun σ H R => ta σ H fun x H1 => (∃ a, x = .ref a ∧ (∃ xs, SqL K H1 a xs) ∧ R (Itl K a) H1) ∨ (∃ a, x = .ref a ∧ (∃ xs, SqT K H1 a xs) ∧ R (Itt K a) H1)
theorem pi_seq {X : Cx} {tg l : Expr} {tl : TE} (hl : PE X l tl) : PI X tg l (tSeqI X.K tl) := by
  refine ⟨fun pins s σ H R I h => ?_⟩
  refine thn (hl.run pins s σ H _ I h) fun v s1 ⟨x, H1, I1, r1, q1⟩ => ?_
  rcases q1 with q1 | q1
  · obtain ⟨a, e, ⟨xs, hq⟩, q⟩ := q1
    subst e
    cases r1
    obtain ⟨its, rv, p, hz⟩ := I1.list hq
    refine PySem.wpAny_pyIter_list p.isList ?_
    refine ⟨s1.heap.objs.size, [s1.heap.objs.size], _, _, H1, rfl, I1.kept (t' := s1.toks) fun b o e => Heap.get?_push_of_some _ e, turn_list a _, ⟨_, Heap.get?_push_size _ rfl, rfl, rfl⟩, fun b hb => ?_, q⟩
    have e : b = s1.heap.objs.size := by simpa using hb
    subst e
    exact I1.fpOk (Nat.le_refl _) (I1.hok.fresh (Nat.le_refl _))
  · obtain ⟨a, e, ⟨xs, hq⟩, q⟩ := q1
    subst e
    cases r1
    obtain ⟨its, rv, p, hz⟩ := I1.tuple hq
    refine PySem.wpAny_pyIter_tuple (show s1.heap.IsTuple a its.toArray from p) ?_
    refine ⟨s1.heap.objs.size, [s1.heap.objs.size], _, _, H1, rfl, I1.kept (t' := s1.toks) fun b o e => Heap.get?_push_of_some _ e, turn_tuple a _, ⟨_, Heap.get?_push_size _ rfl, rfl, rfl⟩, fun b hb => ?_, q⟩
    have e : b = s1.heap.objs.size := by simpa using hb
    subst e
    exact I1.fpOk (Nat.le_refl _) (I1.hok.fresh (Nat.le_refl _))
theorem ei_seq (ha : Ev K c ta a) : EI K c (tSeqI K ta) (.seq a) := fun ρ Q q σ h H n e R k => ha ρ _ q σ h H n e _ fun v h1 H1 s1 ⟨w, qw, pw⟩ => by
  rcases qw with ⟨xs, hx, q⟩ | ⟨xs, hx, q⟩
  · obtain ⟨p, vs, rfl, s, z⟩ := itL_of hx pw
    exact .inl ⟨p, rfl, ⟨vs, sqL_ex s1.i s⟩, k xs _ h1 H1 q s1 (it_list s z)⟩
  · obtain ⟨p, vs, rfl, s, z⟩ := itT_of hx pw
    exact .inr ⟨p, rfl, ⟨vs, sqT_ex s1.i s⟩, k xs _ h1 H1 q s1 (it_tup s z)⟩
def rgW (lo : Int) (n : Nat) : List W := (List.range n).map fun (k : Nat) => .int (lo + (k : Int))
theorem rgW_get {lo : Int} {n i : Nat} {w : W} (h : (rgW lo n)[i]? = some w) : i < n ∧ w = .int (lo + (i : Int)) := by
  unfold rgW at h
  have hl := (List.getElem?_eq_some_iff.mp h).1
  rw [List.length_map, List.length_range] at hl
  rw [List.getElem?_map, List.getElem?_range hl] at h
  exact ⟨hl, (Option.some.inj h).symm⟩
theorem rgW_len {lo : Int} {n : Nat} : (rgW lo n).length = n := by unfold rgW; rw [List.length_map, List.length_range]
theorem it_range {lo : Int} {n : Nat} : ItOk K c (Itr lo n) h1 (rgW lo n) := by
  refine ⟨fun i w h H hi e1 e2 => ?_, fun h H e1 e2 => ?_⟩
  · obtain ⟨hl, rfl⟩ := rgW_get hi
    refine ⟨hl, fun v H' y => ?_⟩
    obtain ⟨rfl, rfl⟩ := y
    exact ⟨h, Stp.refl e2, Dq.int _⟩
  · rw [rgW_len]; exact Nat.le_refl _
def XI.rng1 (a : XA) : XI := ⟨fun ρ Q => a.f ρ fun ws => ∃ j, ws = [.int j] ∧ (-1000000000 ≤ j ∧ j ≤ 1000000000) ∧ Q (rgW 0 j.toNat), fun k q => a.m (fun w ⟨j, e, z, q⟩ => ⟨j, e, z, k _ q⟩) q⟩
theorem ei_rng1 (hr : EA K c tr ar) : EI K c (iRng1 tr) (.rng1 ar) := fun ρ Q q σ h H n e R k => hr ρ _ q σ h H n e _ fun ws vs h1 H1 ⟨j, ew, ⟨b1, b2⟩, q⟩ s1 p1 => by
  subst ew
  obtain ⟨v, rfl, pv⟩ := vs1 p1
  exact ⟨j, by rw [dp_int pv], by omega, by omega, k _ _ h1 H1 q s1 it_range⟩
def XI.rng2 (a : XA) : XI := ⟨fun ρ Q => a.f ρ fun ws => ∃ i j, ws = [.int i, .int j] ∧ (-1000000000 ≤ i ∧ i ≤ 1000000000 ∧ -1000000000 ≤ j ∧ j ≤ 1000000000) ∧ Q (rgW i (j - i).toNat), fun k q => a.m (fun w ⟨i, j, e, z, q⟩ => ⟨i, j, e, z, k _ q⟩) q⟩
theorem ei_rng2 (hr : EA K c tr ar) : EI K c (iRng2 tr) (.rng2 ar) := fun ρ Q q σ h H n e R k => hr ρ _ q σ h H n e _ fun ws vs h1 H1 ⟨i, j, ew, ⟨b1, b2, b3, b4⟩, q⟩ s1 p1 => by
  subst ew
  obtain ⟨v, u, rfl, pv, pu⟩ := vs2 p1
  exact ⟨i, j, by rw [dp_int pv, dp_int pu], ⟨by omega, by omega, by omega, by omega⟩, k _ _ h1 H1 q s1 it_range⟩
/-- enumerate(list), zip(list, list) -/
def enumW (xs : List W) : List W := xs.zipIdx.map fun p => .tup [.int (p.2 : Int), p.1]
def XI.enum (a : XA) : XI := ⟨fun ρ Q => a.f ρ fun ws => ∃ w xs, ws = [w] ∧ w.itL = some xs ∧ Q (enumW xs), fun k q => a.m (fun w ⟨j, x, e, z, q⟩ => ⟨j, x, e, z, k _ q⟩) q⟩
theorem ei_enum (hr : EA K c tr ar) : EI K c (iEnum K tr) (.enum ar) := fun ρ Q q σ h H n e R k => hr ρ _ q σ h H n e _ fun ws vs h1 H1 ⟨w, xs, ew, hx, q⟩ s1 p1 => by
  subst ew
  obtain ⟨v, rfl, pv⟩ := vs1 p1
  obtain ⟨p, us, rfl, s, z⟩ := itL_of hx pv
  have ln : us.length = xs.length := by rw [z.len, ps_len]
  refine ⟨p, us, rfl, sqL_ex s1.i s, k _ _ h1 H1 q s1 ⟨fun i w h H hi e1 e2 => ?_, fun h H e1 e2 => ?_⟩⟩
  · unfold enumW at hi
    rw [List.getElem?_map] at hi
    cases hz : xs.zipIdx[i]? with
    | none => rw [hz] at hi; cases hi
    | some pr =>
      rw [hz] at hi
      obtain rfl := Option.some.inj hi
      rw [List.getElem?_zipIdx] at hz
      cases hx2 : xs[i]? with
      | none => rw [hx2] at hz; cases hz
      | some x =>
        rw [hx2] at hz
        obtain rfl : (x, 0 + i) = pr := by simpa using hz
        obtain ⟨u, hu, pu⟩ := vs_get z (ps_get hx2)
        have sH := sqL_ex e2 (sqL_ex e1 s)
        refine ⟨⟨us, u, sH, hu⟩, fun v H' y => ?_⟩
        obtain ⟨T, y', rfl, nT, rfl, hy⟩ := y
        have e := hy us sH
        rw [hu] at e
        cases e
        have st := Stp.new (o := .tup [.int (i : Nat), u]) e2 nT
        refine ⟨_, st, T, _, rfl, .inl (.inl upd_same), .cons ?_ (.cons ((x.p K c).mono st.s ((x.p K c).mono e1 pu)) .nil)⟩
        show (I K (((0 + i : Nat)) : Int)).p (.int (i : Nat)) _
        rw [Nat.zero_add]
        exact Dq.int _
  · refine ⟨us, sqL_ex e2 (sqL_ex e1 s), ?_⟩
    unfold enumW
    rw [List.length_map, List.length_zipIdx, ln]
    exact Nat.le_refl _
def zipW (xs ys : List W) : List W := (xs.zip ys).map fun p => .tup [p.1, p.2]
def XI.zip (a : XA) : XI := ⟨fun ρ Q => a.f ρ fun ws => ∃ w u xs ys, ws = [w, u] ∧ w.itL = some xs ∧ u.itL = some ys ∧ Q (zipW xs ys), fun k q => a.m (fun w ⟨j, x, e, z, y, a, b, q⟩ => ⟨j, x, e, z, y, a, b, k _ q⟩) q⟩
theorem ei_zip (hr : EA K c tr ar) : EI K c (iZip K tr) (.zip ar) := fun ρ Q q σ h H n e R k => hr ρ _ q σ h H n e _ fun ws vs h1 H1 ⟨w, w2, xs, ys, ew, hx, hy, q⟩ s1 p1 => by
  subst ew
  obtain ⟨v, v2, rfl, pv, pv2⟩ := vs2 p1
  obtain ⟨p, us, rfl, s, z⟩ := itL_of hx pv
  obtain ⟨p2, us2, rfl, s2, z2⟩ := itL_of hy pv2
  have ln : us.length = xs.length := by rw [z.len, ps_len]
  have ln2 : us2.length = ys.length := by rw [z2.len, ps_len]
  refine ⟨p, p2, us, us2, rfl, sqL_ex s1.i s, sqL_ex s1.i s2, k _ _ h1 H1 q s1 ⟨fun i w h H hi e1 e2 => ?_, fun h H e1 e2 => ?_⟩⟩
  · unfold zipW at hi
    rw [List.getElem?_map] at hi
    cases hz : (xs.zip ys)[i]? with
    | none => rw [hz] at hi; cases hi
    | some pr =>
      rw [hz] at hi
      obtain rfl := Option.some.inj hi
      obtain ⟨hx1, hy1⟩ := List.getElem?_zip_eq_some.mp hz
      obtain ⟨u, hu, pu⟩ := vs_get z (ps_get hx1)
      obtain ⟨u2, hu2, pu2⟩ := vs_get z2 (ps_get hy1)
      have sH := sqL_ex e2 (sqL_ex e1 s)
      have sH2 := sqL_ex e2 (sqL_ex e1 s2)
      refine ⟨⟨us, us2, u, u2, sH, sH2, hu, hu2⟩, fun v H' y => ?_⟩
      obtain ⟨T, y1, y2, rfl, nT, rfl, f1, f2⟩ := y
      have e := f1 us sH
      have e' := f2 us2 sH2
      rw [hu] at e
      rw [hu2] at e'
      cases e
      cases e'
      have st := Stp.new (o := .tup [u, u2]) e2 nT
      exact ⟨_, st, T, _, rfl, .inl (.inl upd_same), .cons ((pr.1.p K c).mono st.s ((pr.1.p K c).mono e1 pu)) (.cons ((pr.2.p K c).mono st.s ((pr.2.p K c).mono e1 pu2)) .nil)⟩
  · refine ⟨us, us2, sqL_ex e2 (sqL_ex e1 s), sqL_ex e2 (sqL_ex e1 s2), ?_⟩
    unfold zipW
    rw [List.length_map, List.length_zip, ln, ln2]
    omega
/-! ### targets -/
structure XG where
  f : W → Sl → (Sl → Prop) → Prop
  m : ∀ {w : W} {ρ : Sl} {Q Q' : Sl → Prop}, (∀ r, Q r → Q' r) → f w ρ Q → f w ρ Q'
  vs : List Nat
structure XGs where
  f : List W → Sl → (Sl → Prop) → Prop
  m : ∀ {ws : List W} {ρ : Sl} {Q Q' : Sl → Prop}, (∀ r, Q r → Q' r) → f ws ρ Q → f ws ρ Q'
  vs : List Nat
def XG.name (i : Nat) : XG := ⟨fun w ρ Q => Q (ρ.set i (some w)), fun k q => k _ q, [i]⟩
def XGs.nil : XGs := ⟨fun ws ρ Q => ws = [] ∧ Q ρ, fun k q => ⟨q.1, k _ q.2⟩, []⟩
def XGs.cons (g : XG) (r : XGs) : XGs := ⟨fun ws ρ Q => ∃ x xs, ws = x :: xs ∧ g.f x ρ fun ρ' => r.f xs ρ' Q, fun k ⟨x, xs, e, q⟩ => ⟨x, xs, e, g.m (fun _ z => r.m k z) q⟩, g.vs ++ r.vs⟩
def XG.tup (r : XGs) : XG := ⟨fun w ρ Q => ∃ xs, w = .tup xs ∧ r.f xs ρ Q, fun k ⟨xs, e, q⟩ => ⟨xs, e, r.m k q⟩, r.vs⟩
section
variable (K : PySem.W.Frag) (c : Cl)
def EG (g : TG) (x : XG) : Prop := ∀ (w : W) (v : V) (σ : St) (h H : Hp) (ρ : Sl) (Q : Sl → Prop), x.f w ρ Q → En (ρ.G K c) σ h → Ex h H → (w.p K c).p v h → ∀ R : St → Hp → Prop, (∀ ρ' σ', Q ρ' → En (ρ'.G K c) σ' h → (∀ i, i ∉ x.vs → σ'[i]? = σ[i]?) → σ'.length = σ.length → R σ' H) → g v σ H R
def EGs (g : TGs) (x : XGs) : Prop := ∀ (ws : List W) (us : List V) (σ : St) (h H : Hp) (ρ : Sl) (Q : Sl → Prop), x.f ws ρ Q → En (ρ.G K c) σ h → Ex h H → Vs (W.ps K c ws) us h → ∀ R : St → Hp → Prop, (∀ ρ' σ', Q ρ' → En (ρ'.G K c) σ' h → (∀ i, i ∉ x.vs → σ'[i]? = σ[i]?) → σ'.length = σ.length → R σ' H) → g us σ H R
end
theorem eg_name {i : Nat} : EG K c (gName i) (.name i) := fun w v σ h H ρ Q q n e pv R k => k (ρ.set i (some w)) (σ.set i (some v)) q (by rw [G_set]; exact n.set i pv) (fun j hj => List.getElem?_set_ne fun z => hj (by rw [z]; exact List.mem_cons_self)) (List.length_set ..)
theorem egs_nil : EGs K c gNil .nil := fun ws us σ h H ρ Q ⟨e1, q⟩ n e pv R k => by
  subst e1
  cases pv
  exact ⟨rfl, k ρ σ q n (fun _ _ => rfl) rfl⟩
theorem egs_cons {g : TG} {gs : TGs} {x : XG} {xs : XGs} (h1 : EG K c g x) (h2 : EGs K c gs xs) : EGs K c (gCons g gs) (.cons x xs) := fun ws us σ h H ρ Q ⟨y, ys, e1, q⟩ n e pv R k => by
  subst e1
  cases pv with
  | cons a b =>
    refine ⟨_, _, rfl, h1 y _ σ h H ρ _ q n e a _ fun ρ' σ' q' n' o' l' => h2 ys _ σ' h H ρ' Q q' n' e b R fun ρ2 σ2 q2 n2 o2 l2 => k ρ2 σ2 q2 n2 (fun i hi => ?_) (l2.trans l')⟩
    have hi' : i ∉ x.vs ++ xs.vs := hi
    rw [List.mem_append, not_or] at hi'
    rw [o2 i hi'.2, o' i hi'.1]
theorem eg_tup {gs : TGs} {xs : XGs} {n : Nat} (h : EGs K c gs xs) (hn : ∀ ws ρ Q, xs.f ws ρ Q → ws.length = n) : EG K c (gTup K n gs) (.tup xs) := fun w v σ h0 H ρ Q ⟨ws, e1, q⟩ nn e pv R k => by
  subst e1
  obtain ⟨p, us, rfl, s, z⟩ := (show (U K (W.ps K c ws)).p v h0 from pv)
  exact ⟨p, us, rfl, sqT_ex e s, by rw [z.len, ps_len]; exact hn ws ρ Q q, h ws us σ h0 H ρ Q q nn e z R k⟩
/-! ### comprehensions -/
def wS (ρ : Sl) : List Nat → Sl
  | [] => ρ
  | v :: vs => (wS ρ vs).set v none
theorem G_wS {ρ : Sl} : ∀ vs : List Nat, Sl.G K c (wS ρ vs) = wpΓ (ρ.G K c) vs
  | [] => rfl
  | v :: vs => by
    show Sl.G K c ((wS ρ vs).set v none) = (wpΓ (ρ.G K c) vs).set v none
    rw [G_wipe, G_wS vs]
theorem wipe_len (σ : St) : ∀ vs : List Nat, (wipe σ vs).length = σ.length
  | [] => rfl
  | v :: vs => by show ((wipe σ vs).set v none).length = _; rw [List.length_set, wipe_len σ vs]
theorem wipe_get (σ : St) : ∀ (vs : List Nat) (i : Nat), i < σ.length → (wipe σ vs)[i]? = if i ∈ vs then some none else σ[i]?
  | [], i, h => by rw [if_neg (by simp)]; rfl
  | v :: vs, i, h => by
    show ((wipe σ vs).set v none)[i]? = _
    by_cases e : v = i
    · subst e
      rw [List.getElem?_set_self (by rw [wipe_len]; exact h), if_pos List.mem_cons_self]
    · rw [List.getElem?_set_ne e, wipe_get σ vs i h]
      by_cases m : i ∈ vs
      · rw [if_pos m, if_pos (List.mem_cons_of_mem _ m)]
      · rw [if_neg m, if_neg fun z => (List.mem_cons.mp z).elim (fun y => e y.symm) m]
theorem wipe_back {σ σ' : St} {vs us : List Nat} (hs : ∀ i ∈ us, i ∈ vs) (ho : ∀ i, i ∉ us → σ'[i]? = (wipe σ vs)[i]?) (hl : σ'.length = (wipe σ vs).length) : wipe σ' vs = wipe σ vs := by
  have hl' : σ'.length = σ.length := by rw [hl, wipe_len]
  apply List.ext_getElem?
  intro i
  by_cases hi : i < σ.length
  · rw [wipe_get σ' vs i (by omega), wipe_get σ vs i hi]
    by_cases m : i ∈ vs
    · rw [if_pos m, if_pos m]
    · rw [if_neg m, if_neg m, ho i (fun z => m (hs i z)), wipe_get σ vs i hi, if_neg m]
  · rw [List.getElem?_eq_none (by rw [wipe_len]; omega), List.getElem?_eq_none (by rw [wipe_len]; omega)]
/-- a list is made item by item -/
def CompI (ws : List W) (g : XG) (t : XT) (e : XE) (ρ : Sl) (Q : W → Prop) : Prop := ∃ I : Nat → List W → Prop, I 0 [] ∧
  (∀ (i : Nat) (w : W) (acc : List W), ws[i]? = some w → I i acc → g.f w ρ fun ρ' => t.f ρ' fun b => (b = true → e.f ρ' fun y => I (i + 1) (acc ++ [y])) ∧ (b = false → I (i + 1) acc)) ∧ (∀ acc, I ws.length acc → Q (.lst acc))
def XE.comp (it : XI) (g : XG) (t : XT) (e : XE) (vs : List Nat) : XE := ⟨fun ρ Q => it.f ρ fun ws => ws.length ≤ 50000 ∧ CompI ws g t e (wS ρ vs) Q, fun k q => it.m (fun ws ⟨hz, I, a, b, d⟩ => ⟨hz, I, a, b, fun acc z => k _ (d acc z)⟩) q⟩
/-- the list made so far -/
structure Lx (K : PySem.W.Frag) (c : Cl) (h0 H0 : Hp) (Dl : Addr) (acc : List W) (h H' : Hp) : Prop where
  v : ∃ vs, Vs (W.ps K c acc) vs h ∧ H' Dl = some (.lst vs)
  n : h Dl = none
  st : Stp h0 H0 h (fun a => if a = Dl then none else H' a)
theorem Lx.ex {h0 H0 h H' : Hp} {Dl : Addr} {acc : List W} (x : Lx K c h0 H0 Dl acc h H') : Ex h H' := fun a o e => by
  have z : (if a = Dl then none else H' a) = some o := x.st.i a o e
  by_cases c : a = Dl
  · rw [if_pos c] at z; cases z
  · rw [if_neg c] at z; exact z
theorem Lx.go {h0 H0 h H' h1 H1 : Hp} {Dl : Addr} {acc : List W} (x : Lx K c h0 H0 Dl acc h H') (s : Stp h H' h1 H1) : Lx K c h0 H0 Dl acc h1 H1 := by
  obtain ⟨vs, hv, hl⟩ := x.v
  have n1 := s.f Dl _ hl x.n
  refine ⟨⟨vs, hv.mono s.s, s.e _ _ hl⟩, n1, fun a o e => ?_, fun a o e => s.s a o (x.st.s a o e), fun a o e => ?_, fun a o e n => ?_⟩
  · have z : (if a = Dl then none else H' a) = some o := x.st.e a o e
    show (if a = Dl then none else H1 a) = some o
    by_cases c : a = Dl
    · rw [if_pos c] at z; cases z
    · rw [if_neg c] at z ⊢; exact s.e a o z
  · show (if a = Dl then none else H1 a) = some o
    rw [if_neg (ne_of_none e n1)]
    exact s.i a o e
  · have z : (if a = Dl then none else H' a) = some o := x.st.e a o e
    by_cases c : a = Dl
    · rw [if_pos c] at z; cases z
    · rw [if_neg c] at z
      exact s.f a o z (x.st.f a o e n)
theorem ev_comp {wi : TI} {g : TG} {tt : TT} {it : XI} {x : XG} {t : XT} {vs : List Nat} (hi : EI K c wi it) (hg : EG K c g x) (ht : ET K c tt t) (he : Ev K c te e) (hs : ∀ i ∈ x.vs, i ∈ vs) : Ev K c (tLc wi g tt te vs) (.comp it x t e vs) := fun ρ Q q σ h H n ee R k => by
  refine hi ρ _ q σ h H n ee _ fun ws J h1 H1 ⟨hz, I, i0, is, id⟩ s1 io => ?_
  intro Dl hD
  have hn1 : h1 Dl = none := by
    cases z : h1 Dl with
    | none => rfl
    | some o => rw [s1.i Dl o z] at hD; cases hD
  have start : Lx K c h1 H1 Dl [] h1 (upd H1 Dl (.lst [])) := by
    refine ⟨⟨[], .nil, upd_same⟩, hn1, ?_⟩
    have z : (fun a => if a = Dl then none else upd H1 Dl (.lst []) a) = H1 := by
      funext a
      by_cases c : a = Dl
      · subst c; rw [if_pos rfl]; exact hD.symm
      · rw [if_neg c, upd_ne c]
    rw [z]
    exact Stp.refl s1.i
  refine ⟨fun i m H' => m = ws.length - i ∧ i ≤ ws.length ∧ ∃ h' acc, I i acc ∧ acc.length ≤ i ∧ Lx K c h1 H1 Dl acc h' H', ⟨ws.length, by simp, Nat.zero_le _, h1, [], i0, Nat.le_refl _, start⟩, ?_⟩
  rintro i m H' ⟨rfl, hi', h', acc, iv, al, lx⟩
  have e01 : Ex h1 h' := lx.st.s
  by_cases hlt : i < ws.length
  · have hw : ws[i]? = some ws[i] := List.getElem?_eq_getElem hlt
    obtain ⟨go, yl⟩ := io.go i _ h' H' hw e01 lx.ex
    refine .inr ⟨go, fun H2 => ∃ h2 acc2, I (i + 1) acc2 ∧ acc2.length ≤ i + 1 ∧ Lx K c h1 H1 Dl acc2 h2 H2, fun H2 p2 => ⟨ws.length - (i + 1), by omega, rfl, hlt, p2⟩, fun v H2 y => ?_⟩
    obtain ⟨h2, s2, pv⟩ := yl v H2 y
    have lx2 := lx.go s2
    have en2 : En ((wS ρ vs).G K c) (wipe σ vs) h2 := by
      rw [G_wS]
      exact ((n.mono s1.s).wp vs).mono fun a o z => s2.s a o (e01 a o z)
    refine hg _ v (wipe σ vs) h2 H2 (wS ρ vs) _ (is i _ acc hw iv) en2 s2.i pv _ fun ρ3 σ3 q3 en3 ho hl3 => ⟨wipe_back hs ho hl3, ?_⟩
    refine ht ρ3 _ q3 σ3 h2 H2 en3 s2.i _ fun bb h3 H3 s3 q4 => ?_
    have lx3 := lx2.go s3
    cases bb with
    | true =>
      show te σ3 H3 _
      refine he ρ3 _ (q4.1 rfl) σ3 h3 H3 (en3.mono s3.s) s3.i _ fun y' h4 H4 s4 ⟨w4, q5, p5⟩ => ?_
      have lx4 := lx3.go s4
      obtain ⟨us, hv, hl⟩ := lx4.v
      refine ⟨us, hl, Evl.sz_lt (by rw [hv.len, ps_len]; omega), h4, acc ++ [w4], q5, by simp; omega, ⟨us ++ [y'], ?_, upd_same⟩, lx4.n, ?_⟩
      · rw [ps_app]
        exact hv.app p5
      · have e : (fun a => if a = Dl then none else upd H4 Dl (.lst (us ++ [y'])) a) = (fun a => if a = Dl then none else H4 a) := by
          funext a
          by_cases c : a = Dl
          · rw [if_pos c, if_pos c]
          · rw [if_neg c, if_neg c, upd_ne c]
        rw [e]
        exact lx4.st
    | false => exact ⟨h3, acc, q4.2 rfl, by omega, lx3⟩
  · have e : i = ws.length := by omega
    subst e
    refine .inl ⟨io.stop h' H' e01 lx.ex, ?_⟩
    obtain ⟨us, hv, hl⟩ := lx.v
    have e1 : Ex h' (upd h' Dl (.lst us)) := fun a o e => by rw [upd_ne (ne_of_none e lx.n)]; exact e
    refine k _ (upd h' Dl (.lst us)) H' (s1.trans ⟨fun a o e => ?_, fun a o e => e1 a o (e01 a o e), fun a o e => ?_, fun a o e nn => ?_⟩) ⟨_, id acc iv, Dl, us, rfl, upd_same, hv.mono e1⟩
    · have z : (if a = Dl then none else H' a) = some o := lx.st.e a o e
      by_cases c : a = Dl
      · rw [if_pos c] at z; cases z
      · rw [if_neg c] at z; exact z
    · by_cases c : a = Dl
      · subst c; rw [upd_same] at e; cases e; exact hl
      · rw [upd_ne c] at e
        exact lx.ex a o e
    · rw [upd_ne (ne_of_none e hD)]
      exact lx.st.f a o e nn
end
end Z

namespace Z
open PySem L2
/-! ### statements -/
/-- what the one mutable thing holds -/
inductive Co where
  | lst (xs : List W) | dct (al : List (Int × Int))
def Co.w : Co → W | .lst xs => .lst xs | .dct al => .dct al
def Co.ct (K : PySem.W.Frag) (c : Cl) : Co → Ct | .lst xs => Ct.lst (W.ps K c xs) | .dct al => Ct.dict (encD al)
structure Fr where
  s : Sl
  m : Option (Nat × Co)
def Fr.mu (K : PySem.W.Frag) (c : Cl) (φ : Fr) : Mo := φ.m.map fun p => (p.1, p.2.ct K c)
/-- the slots, the mutable thing seen as it is -/
def Fr.rev (φ : Fr) : Sl := match φ.m with | none => φ.s | some (i, co) => φ.s.set i (some co.w)
def Fr.off (φ : Fr) (is : List Nat) : Prop := ∀ p, φ.m = some p → p.1 ∉ is
structure Ko where
  nx : Fr → Prop
  rt : W → Prop
  bk : Fr → Prop
  ct : Fr → Prop
structure Ko.Le (a b : Ko) : Prop where
  nx : ∀ φ, a.nx φ → b.nx φ
  rt : ∀ w, a.rt w → b.rt w
  bk : ∀ φ, a.bk φ → b.bk φ
  ct : ∀ φ, a.ct φ → b.ct φ
structure XS where
  f : Fr → Ko → Prop
  m : ∀ {φ : Fr} {a b : Ko}, a.Le b → f φ a → f φ b
section
variable (K : PySem.W.Frag) (c : Cl)
structure Lk (b : Bs) (κ : Ko) (D : Ends) : Prop where
  nx : ∀ φ, κ.nx φ → Nx b (φ.s.G K c) (φ.mu K c) D.nx
  rt : ∀ w, κ.rt w → ∀ v h H, Stp b.h0 b.H0 h H → (w.p K c).p v h → D.rt v H
  bk : ∀ φ, κ.bk φ → Nx b (φ.s.G K c) (φ.mu K c) D.bk
  ct : ∀ φ, κ.ct φ → Nx b (φ.s.G K c) (φ.mu K c) D.ct
def ES (tu : TS) (s : XS) : Prop := ∀ (φ : Fr) (κ : Ko) (b : Bs) (D : Ends), s.f φ κ → Lk K c b κ D → Nx b (φ.s.G K c) (φ.mu K c) (tu D)
end
def W.flat : W → Bool | .non => true | .bl _ => true | .int _ => true | .str _ => true | _ => false
section
variable {K : PySem.W.Frag} {c : Cl} {te ta tb tc : TE} {tr : TA} {t : TT} {tu tw tz : TS} {e a d : XE} {ar : XA} {b : Bs} {φ : Fr} {σ : St} {h H : Hp}
theorem flat_p {w : W} (hf : w.flat = true) : Flat (w.p K c) := by
  cases w <;> first | (cases hf; done) | skip
  · intro v h h' q; obtain rfl := dp_non q; exact Dq.non
  · exact flat_bl
  · exact flat_int
  · intro v h h' q; obtain rfl := dp_str q; exact Dq.str _
/-- the mutable thing is looked at -/
theorem borrow (x : En (φ.s.G K c) σ h) (s : b.Ok h H) (m : Mu b (φ.mu K c) σ h H) : ∃ hp, En (φ.rev.G K c) σ hp ∧ b.Ok hp H ∧ ∀ h1 H1, Stp hp H h1 H1 → ∃ h1', Stp h H h1' H1 := by
  obtain ⟨sl, mm⟩ := φ
  cases mm with
  | none => exact ⟨h, x, s, fun h1 H1 st => ⟨h1, st⟩⟩
  | some p =>
    obtain ⟨i, co⟩ := p
    obtain ⟨l, o, m⟩ := (show ∃ l o, Mu1 b i (co.ct K c) σ h H l o from m)
    have e1 : Ex h (upd h l o) := fun a o e => by rw [upd_ne (ne_of_none e m.nh)]; exact e
    have il : i < sl.length := by
      have z := (List.getElem?_eq_some_iff.mp m.at_).1
      have y : σ.length = (Sl.G K c sl).length := x.len
      rw [G_len] at y
      omega
    have pw : (co.w.p K c).p (.ref l) (upd h l o) := by
      cases co with
      | lst xs =>
        obtain ⟨vs, rfl, hv⟩ := m.ct
        exact ⟨l, vs, rfl, upd_same, hv.mono e1⟩
      | dct al =>
        obtain rfl := m.ct
        exact ⟨l, rfl, upd_same⟩
    refine ⟨upd h l o, ?_, ⟨⟨s.st.e, fun a o e => e1 a o (s.st.s a o e), fun a u e => ?_, fun a u e n => ?_⟩, fun a o e => e1 a o (s.kn a o e)⟩, fun h1 H1 st => ⟨fun c => if c = l then none else h1 c, ⟨st.e, fun a u e => ?_, fun a u e => ?_, fun a u e n => ?_⟩⟩⟩
    · show En (Sl.G K c (sl.set i (some co.w))) σ _
      rw [G_set]
      exact (x.mono e1).set_open i (by rw [G_len]; exact il) pw m.at_
    · by_cases c : a = l
      · subst c; rw [upd_same] at e; cases e; exact m.oH
      · rw [upd_ne c] at e; exact s.st.i a u e
    · rw [upd_ne (ne_of_none e m.n0)]
      exact s.st.f a u e n
    · show (if a = l then none else h1 a) = some u
      rw [if_neg (ne_of_none e m.nh)]
      exact st.s a u (e1 a u e)
    · have e' : (if a = l then none else h1 a) = some u := e
      by_cases c : a = l
      · rw [if_pos c] at e'; cases e'
      · rw [if_neg c] at e'; exact st.i a u e'
    · show (if a = l then none else h1 a) = none
      by_cases c : a = l
      · rw [if_pos c]
      · rw [if_neg c]
        exact st.f a u e (by rw [upd_ne c]; exact n)
theorem Mu.tg {μ : Mo} {σ' : St} {is : List Nat} (m : Mu b μ σ h H) (ho : ∀ i, i ∉ is → σ'[i]? = σ[i]?) (hm : ∀ p, μ = some p → p.1 ∉ is) : Mu b μ σ' h H := by
  cases μ with
  | none => trivial
  | some p =>
    obtain ⟨l, o, m⟩ := m
    exact ⟨l, o, by rw [ho _ (hm _ rfl)]; exact m.at_, m.nh, m.n0, m.oH, m.ct⟩
theorem off_mu {is : List Nat} (h : φ.off is) : ∀ p, φ.mu K c = some p → p.1 ∉ is := fun p e => by
  unfold Fr.mu at e
  cases hm : φ.m with
  | none => rw [hm] at e; cases e
  | some q =>
    rw [hm] at e
    obtain rfl := Option.some.inj e
    exact h q hm
def XS.asg (g : XG) (a : XE) : XS := ⟨fun φ κ => φ.off g.vs ∧ a.f φ.s fun w => g.f w φ.s fun s => κ.nx ⟨s, φ.m⟩, fun k ⟨o, q⟩ => ⟨o, a.m (fun _ z => g.m (fun _ y => k.nx _ y) z) q⟩⟩
theorem es_asg {g : TG} {x : XG} (ha : Ev K c ta a) (hg : EG K c g x) : ES K c (tAsg ta g) (.asg x a) := fun φ κ b D ⟨ho, q⟩ lk σ h H n s m => by
  refine ha φ.s _ q σ h H n s.st.i _ fun v h1 H1 s1 ⟨w, qw, pw⟩ => ?_
  refine hg w v σ h1 H1 φ.s _ qw (n.mono s1.s) s1.i pw _ fun ρ' σ' q' n' o' l' => ?_
  exact lk.nx ⟨ρ', φ.m⟩ q' σ' h1 H1 n' (s.go s1) ((m.go s1).tg o' (off_mu ho))
/-- the mutable thing is read; a flat answer -/
def XS.asgV (g : XG) (a : XE) : XS := ⟨fun φ κ => φ.off g.vs ∧ a.f φ.rev fun w => w.flat = true ∧ g.f w φ.s fun s => κ.nx ⟨s, φ.m⟩, fun k ⟨o, q⟩ => ⟨o, a.m (fun _ z => ⟨z.1, g.m (fun _ y => k.nx _ y) z.2⟩) q⟩⟩
theorem es_asgV {g : TG} {x : XG} (ha : Ev K c ta a) (hg : EG K c g x) : ES K c (tAsg ta g) (.asgV x a) := fun φ κ b D ⟨ho, q⟩ lk σ h H n s m => by
  obtain ⟨hp, np, sp, back⟩ := borrow n s m
  refine ha φ.rev _ q σ hp H np sp.st.i _ fun v h1 H1 s1 ⟨w, ⟨fl, qw⟩, pw⟩ => ?_
  obtain ⟨h2, s2⟩ := back h1 H1 s1
  refine hg w v σ h2 H1 φ.s _ qw (n.mono s2.s) s2.i (flat_p fl _ _ _ pw) _ fun ρ' σ' q' n' o' l' => ?_
  exact lk.nx ⟨ρ', φ.m⟩ q' σ' h2 H1 n' (s.go s2) ((m.go s2).tg o' (off_mu ho))
def XS.par (i j : Nat) (a : XA) : XS := ⟨fun φ κ => φ.off [i, j] ∧ a.f φ.s fun ws => ∃ u v, ws = [u, v] ∧ κ.nx ⟨(φ.s.set i (some u)).set j (some v), φ.m⟩, fun k ⟨o, q⟩ => ⟨o, a.m (fun _ ⟨u, v, e, z⟩ => ⟨u, v, e, k.nx _ z⟩) q⟩⟩
theorem es_par {i j : Nat} (hr : EA K c tr ar) : ES K c (tPar i j tr) (.par i j ar) := fun φ κ b D ⟨ho, q⟩ lk σ h H n s m => by
  refine hr φ.s _ q σ h H n s.st.i _ fun ws vs h1 H1 ⟨u, v, ew, qw⟩ s1 p1 => ?_
  subst ew
  obtain ⟨x, y, rfl, px, py⟩ := vs2 p1
  refine ⟨x, y, rfl, lk.nx _ qw _ h1 H1 ?_ (s.go s1) ((m.go s1).tg (is := [i, j]) (fun k hk => ?_) (off_mu ho))⟩
  · show En (Sl.G K c ((φ.s.set i (some u)).set j (some v))) _ _
    rw [G_set, G_set]
    exact ((n.mono s1.s).set i px).set j py
  · rw [List.getElem?_set_ne (fun z => hk (by rw [← z]; exact List.mem_cons_of_mem _ List.mem_cons_self)), List.getElem?_set_ne (fun z => hk (by rw [← z]; exact List.mem_cons_self))]
theorem vs3 {P R S : Pr} {vs : List V} {h : Hp} (q : Vs [P, R, S] vs h) : ∃ v u w, vs = [v, u, w] ∧ P.p v h ∧ R.p u h ∧ S.p w h := by
  cases q with
  | cons a z =>
    obtain ⟨v, u, rfl, b, d⟩ := vs2 z
    exact ⟨_, _, _, rfl, a, b, d⟩
def XS.par3 (i j l : Nat) (a : XA) : XS := ⟨fun φ κ => φ.off [i, j, l] ∧ a.f φ.s fun ws => ∃ u v w, ws = [u, v, w] ∧ κ.nx ⟨((φ.s.set i (some u)).set j (some v)).set l (some w), φ.m⟩, fun k ⟨o, q⟩ => ⟨o, a.m (fun _ ⟨u, v, w, e, z⟩ => ⟨u, v, w, e, k.nx _ z⟩) q⟩⟩
theorem es_par3 {i j l : Nat} (hr : EA K c tr ar) : ES K c (tPar3 i j l tr) (.par3 i j l ar) := fun φ κ b D ⟨ho, q⟩ lk σ h H n s m => by
  refine hr φ.s _ q σ h H n s.st.i _ fun ws vs h1 H1 ⟨u, v, w, ew, qw⟩ s1 p1 => ?_
  subst ew
  obtain ⟨x, y, z, rfl, px, py, pz⟩ := vs3 p1
  refine ⟨x, y, z, rfl, lk.nx _ qw _ h1 H1 ?_ (s.go s1) ((m.go s1).tg (is := [i, j, l]) (fun k hk => ?_) (off_mu ho))⟩
  · show En (Sl.G K c (((φ.s.set i (some u)).set j (some v)).set l (some w))) _ _
    rw [G_set, G_set, G_set]
    exact (((n.mono s1.s).set i px).set j py).set l pz
  · have h1 : i ≠ k := fun z => hk (by rw [← z]; exact List.mem_cons_self)
    have h2 : j ≠ k := fun z => hk (by rw [← z]; exact List.mem_cons_of_mem _ List.mem_cons_self)
    have h3 : l ≠ k := fun z => hk (by rw [← z]; exact List.mem_cons_of_mem _ (List.mem_cons_of_mem _ List.mem_cons_self))
    rw [List.getElem?_set_ne h3, List.getElem?_set_ne h2, List.getElem?_set_ne h1]
def XS.ret (a : XE) : XS := ⟨fun φ κ => a.f φ.rev κ.rt, fun k q => a.m (fun _ z => k.rt _ z) q⟩
theorem es_ret (ha : Ev K c ta a) : ES K c (tRet ta) (.ret a) := fun φ κ b D q lk σ h H n s m => by
  obtain ⟨hp, np, sp, back⟩ := borrow n s m
  exact ha φ.rev _ q σ hp H np sp.st.i _ fun v h1 H1 s1 ⟨w, qw, pw⟩ => lk.rt w qw v h1 H1 (sp.st.trans s1) pw
def XS.retN : XS := ⟨fun φ κ => κ.rt .non, fun k q => k.rt _ q⟩
theorem es_retN : ES K c tRetN .retN := fun φ κ b D q lk σ h H n s m => lk.rt .non q .non h H s.st Dq.non
def XS.drop (a : XE) : XS := ⟨fun φ κ => a.f φ.s fun _ => κ.nx φ, fun k q => a.m (fun _ z => k.nx _ z) q⟩
theorem es_drop (ha : Ev K c ta a) : ES K c (tDrop ta) (.drop a) := fun φ κ b D q lk σ h H n s m => by
  refine ha φ.s _ q σ h H n s.st.i _ fun v h1 H1 s1 ⟨w, qw, pw⟩ => ?_
  exact lk.nx φ qw σ h1 H1 (n.mono s1.s) (s.go s1) (m.go s1)
def XS.next : XS := ⟨fun φ κ => κ.nx φ, fun k q => k.nx _ q⟩
theorem es_next : ES K c tNext .next := fun φ κ b D q lk => lk.nx φ q
def XS.never : XS := ⟨fun _ _ => False, fun _ q => q⟩
theorem es_never : ES K c tNever .never := fun φ κ b D q lk => q.elim
def XS.brk : XS := ⟨fun φ κ => κ.bk φ, fun k q => k.bk _ q⟩
def XS.cnt : XS := ⟨fun φ κ => κ.ct φ, fun k q => k.ct _ q⟩
def XS.seq (x y : XS) : XS := ⟨fun φ κ => x.f φ ⟨fun φ' => y.f φ' κ, κ.rt, κ.bk, κ.ct⟩, fun {φ a b} k q => x.m (a := ⟨fun φ' => y.f φ' a, a.rt, a.bk, a.ct⟩) (b := ⟨fun φ' => y.f φ' b, b.rt, b.bk, b.ct⟩) ⟨fun _ z => y.m k z, k.rt, k.bk, k.ct⟩ q⟩
theorem es_seq {x y : XS} (hx : ES K c tu x) (hy : ES K c tw y) : ES K c (tSeq tu tw) (.seq x y) := fun φ κ b D q lk =>
  hx φ ⟨fun φ' => y.f φ' κ, κ.rt, κ.bk, κ.ct⟩ b { D with nx := tw D } q ⟨fun φ' z => hy φ' κ b D z lk, lk.rt, lk.bk, lk.ct⟩
def XS.ifs (t : XT) (x y : XS) : XS := ⟨fun φ κ => t.f φ.rev fun b => (b = true → x.f φ κ) ∧ (b = false → y.f φ κ), fun k q => t.m (fun _ z => ⟨fun h => x.m k (z.1 h), fun h => y.m k (z.2 h)⟩) q⟩
theorem es_if {x : XT} {y z : XS} (hx : ET K c t x) (hy : ES K c tu y) (hz : ES K c tw z) : ES K c (tIfS t tu tw) (.ifs x y z) := fun φ κ b D q lk σ h H n s m => by
  obtain ⟨hp, np, sp, back⟩ := borrow n s m
  refine hx φ.rev _ q σ hp H np sp.st.i _ fun bb h1 H1 s1 qq => ?_
  obtain ⟨h2, s2⟩ := back h1 H1 s1
  cases bb with
  | true => exact hy φ κ b D (qq.1 rfl) lk σ h2 H1 (n.mono s2.s) (s.go s2) (m.go s2)
  | false => exact hz φ κ b D (qq.2 rfl) lk σ h2 H1 (n.mono s2.s) (s.go s2) (m.go s2)
/-- from here on the mutable thing is not changed -/
def XS.frz (x : XS) : XS := ⟨fun φ κ => x.f ⟨φ.rev, none⟩ κ, fun k q => x.m k q⟩
theorem es_frz {x : XS} (hx : ES K c tu x) : ES K c tu (.frz x) := fun φ κ b D q lk σ h H n s m => by
  obtain ⟨hp, np, sp, back⟩ := borrow n s m
  exact hx ⟨φ.rev, none⟩ κ b D q lk σ hp H np sp trivial
/-- x op= e, whole numbers -/
def XS.aug (i : Nat) (f : Int → Int → Int) (a : XE) : XS := ⟨fun φ κ => φ.off [i] ∧ ∃ x, φ.s[i]? = some (some (.int x)) ∧ a.f φ.s fun w => ∃ n, w = .int n ∧ κ.nx ⟨φ.s.set i (some (.int (f x n))), φ.m⟩, fun k ⟨o, x, e, q⟩ => ⟨o, x, e, a.m (fun _ ⟨n, e, z⟩ => ⟨n, e, k.nx _ z⟩) q⟩⟩
theorem es_aug {i : Nat} {f : Int → Int → Int} (ha : Ev K c ta a) : ES K c (tAug i ta (ipI f)) (.aug i f a) := fun φ κ b D ⟨ho, x, ex, q⟩ lk σ h H n s m => by
  obtain ⟨v, e1, e2⟩ := n.at_ i _ (G_get ex)
  obtain rfl := p_int e2
  refine ⟨_, e1, ha φ.s _ q σ h H n s.st.i _ fun u h1 H1 s1 ⟨w, ⟨k, ew, qw⟩, pw⟩ => ?_⟩
  subst ew
  refine ⟨x, k, rfl, p_int pw, lk.nx _ qw _ h1 H1 ?_ (s.go s1) ((m.go s1).tg (is := [i]) (fun j hj => List.getElem?_set_ne fun z => hj (by rw [z]; exact List.mem_cons_self)) (off_mu ho))⟩
  show En (Sl.G K c (φ.s.set i (some (.int (f x k))))) _ _
  rw [G_set]
  exact (n.mono s1.s).set i (show (W.p K c (.int (f x k))).p _ _ from Dq.int _)
/-! loops -/
def ForI (ws : List W) (g : XG) (x : XS) (φ : Fr) (κ : Ko) : Prop := ∃ I : Nat → Fr → Prop, I 0 φ ∧
  (∀ (i : Nat) (w : W) (φ' : Fr), ws[i]? = some w → I i φ' → φ'.off g.vs ∧ g.f w φ'.s fun s => x.f ⟨s, φ'.m⟩ ⟨I (i + 1), κ.rt, κ.nx, I (i + 1)⟩) ∧ (∀ φ', I ws.length φ' → κ.nx φ')
def XS.forr (it : XI) (g : XG) (x : XS) : XS := ⟨fun φ κ => it.f φ.s fun ws => ForI ws g x φ κ, fun {φ κ κ'} k q => it.m (fun ws ⟨I, a, b, d⟩ => ⟨I, a, fun i w φ' hw hi => ⟨(b i w φ' hw hi).1, g.m (fun _ z => x.m (a := ⟨I (i + 1), κ.rt, κ.nx, I (i + 1)⟩) (b := ⟨I (i + 1), κ'.rt, κ'.nx, I (i + 1)⟩) ⟨fun _ y => y, k.rt, k.nx, fun _ y => y⟩ z) (b i w φ' hw hi).2⟩, fun φ' z => k.nx _ (d φ' z)⟩) q⟩
theorem es_for {wi : TI} {g : TG} {it : XI} {xg : XG} {x : XS} (hi : EI K c wi it) (hg : EG K c g xg) (hx : ES K c tu x) : ES K c (tFor wi g tu) (.forr it xg x) := fun φ κ b D q lk σ h H n s m => by
  refine hi φ.s _ q σ h H n s.st.i _ fun ws J h1 H1 ⟨I, i0, is, id⟩ s1 io => ?_
  have hk1 := (s.go s1).kn
  have lk' : ∀ i N, (∀ φ' σ' h' H', I (i + 1) φ' → En (φ'.s.G K c) σ' h' → Bs.Ok ⟨b.h0, b.H0, h1⟩ h' H' → Mu ⟨b.h0, b.H0, h1⟩ (φ'.mu K c) σ' h' H' → N σ' H') → Lk K c ⟨b.h0, b.H0, h1⟩ ⟨I (i + 1), κ.rt, κ.nx, I (i + 1)⟩ { D with nx := N, ct := N, bk := D.nx } := fun i N hN =>
    ⟨fun φ' z σ' h' H' n' s' m' => hN φ' σ' h' H' z n' s' m', lk.rt, fun φ' z => n_back hk1 (lk.nx φ' z), fun φ' z σ' h' H' n' s' m' => hN φ' σ' h' H' z n' s' m'⟩
  refine ⟨fun i k σ H => k = ws.length - i ∧ i ≤ ws.length ∧ ∃ φ' h', I i φ' ∧ En (φ'.s.G K c) σ h' ∧ Bs.Ok ⟨b.h0, b.H0, h1⟩ h' H ∧ Mu ⟨b.h0, b.H0, h1⟩ (φ'.mu K c) σ h' H, ⟨ws.length, by simp, Nat.zero_le _, φ, h1, i0, n.mono s1.s, ⟨(s.go s1).st, fun _ _ q => q⟩, (m.go s1).reb rfl⟩, ?_⟩
  rintro i k σ' H' ⟨rfl, hi', φ', h', iv, n', s', m'⟩
  by_cases hlt : i < ws.length
  · have hw : ws[i]? = some ws[i] := List.getElem?_eq_getElem hlt
    obtain ⟨go, yl⟩ := io.go i _ h' H' hw s'.kn s'.st.i
    refine .inr ⟨go, fun σ2 H2 => ∃ φ2 h2, I (i + 1) φ2 ∧ En (φ2.s.G K c) σ2 h2 ∧ Bs.Ok ⟨b.h0, b.H0, h1⟩ h2 H2 ∧ Mu ⟨b.h0, b.H0, h1⟩ (φ2.mu K c) σ2 h2 H2, fun σ2 H2 z => ⟨ws.length - (i + 1), by omega, rfl, hlt, z⟩, fun v H2 y => ?_⟩
    obtain ⟨h2, s2, pv⟩ := yl v H2 y
    obtain ⟨ho, qg⟩ := is i _ φ' hw iv
    refine hg _ v σ' h2 H2 φ'.s _ qg (n'.mono s2.s) s2.i pv _ fun ρ3 σ3 q3 n3 o3 l3 => ?_
    exact hx ⟨ρ3, φ'.m⟩ _ ⟨b.h0, b.H0, h1⟩ _ q3 (lk' i _ fun φ4 σ4 h4 H4 a b c d => ⟨φ4, h4, a, b, c, d⟩) σ3 h2 H2 n3 (s'.go s2) ((m'.go s2).tg o3 (off_mu ho))
  · have e : i = ws.length := by omega
    subst e
    exact .inl ⟨io.stop h' H' s'.kn s'.st.i, n_back hk1 (lk.nx φ' (id φ' iv)) σ' h' H' n' s' m'⟩
def WhI (t : XT) (x : XS) (φ : Fr) (κ : Ko) : Prop := ∃ I : Nat → Fr → Prop, (∃ m, I m φ) ∧
  ∀ (m : Nat) (φ' : Fr), I m φ' → t.f φ'.rev fun b => (b = true → x.f φ' ⟨fun φ2 => ∃ m', m' < m ∧ I m' φ2, κ.rt, κ.nx, fun φ2 => ∃ m', m' < m ∧ I m' φ2⟩) ∧ (b = false → κ.nx φ')
def XS.whil (t : XT) (x : XS) : XS := ⟨fun φ κ => WhI t x φ κ, fun {φ κ κ'} k ⟨I, a, b⟩ => ⟨I, a, fun m φ' hi => t.m (fun _ z => ⟨fun h => x.m (a := ⟨fun φ2 => ∃ m', m' < m ∧ I m' φ2, κ.rt, κ.nx, fun φ2 => ∃ m', m' < m ∧ I m' φ2⟩) (b := ⟨fun φ2 => ∃ m', m' < m ∧ I m' φ2, κ'.rt, κ'.nx, fun φ2 => ∃ m', m' < m ∧ I m' φ2⟩) ⟨fun _ y => y, k.rt, k.nx, fun _ y => y⟩ (z.1 h), fun h => k.nx _ (z.2 h)⟩) (b m φ' hi)⟩⟩
theorem es_while {tt : XT} {x : XS} (ht : ET K c t tt) (hx : ES K c tu x) : ES K c (tWhile t tu) (.whil tt x) := fun φ κ b D ⟨I, ⟨m0, i0⟩, is⟩ lk σ h H n s m => by
  refine ⟨fun k σ H => ∃ φ' h', I k φ' ∧ En (φ'.s.G K c) σ h' ∧ b.Ok h' H ∧ Mu b (φ'.mu K c) σ h' H, ⟨m0, φ, h, i0, n, s, m⟩, ?_⟩
  rintro k σ' H' ⟨φ', h', iv, n', s', m'⟩
  obtain ⟨hp, np, sp, back⟩ := borrow n' s' m'
  refine ht φ'.rev _ (is k φ' iv) σ' hp H' np sp.st.i _ fun bb h2 H2 s2 qq => ?_
  obtain ⟨h3, s3⟩ := back h2 H2 s2
  cases bb with
  | true =>
    refine ⟨fun σ4 H4 => ∃ j φ4 h4, j < k ∧ I j φ4 ∧ En (φ4.s.G K c) σ4 h4 ∧ b.Ok h4 H4 ∧ Mu b (φ4.mu K c) σ4 h4 H4, fun σ4 H4 ⟨j, φ4, h4, hj, z⟩ => ⟨j, hj, φ4, h4, z⟩, ?_⟩
    exact hx φ' ⟨fun φ2 => ∃ m', m' < k ∧ I m' φ2, κ.rt, κ.nx, fun φ2 => ∃ m', m' < k ∧ I m' φ2⟩ b { D with nx := fun σ4 H4 => ∃ j φ4 h4, j < k ∧ I j φ4 ∧ En (φ4.s.G K c) σ4 h4 ∧ b.Ok h4 H4 ∧ Mu b (φ4.mu K c) σ4 h4 H4, ct := fun σ4 H4 => ∃ j φ4 h4, j < k ∧ I j φ4 ∧ En (φ4.s.G K c) σ4 h4 ∧ b.Ok h4 H4 ∧ Mu b (φ4.mu K c) σ4 h4 H4, bk := D.nx } (qq.1 rfl) ⟨fun φ4 ⟨j, hj, z⟩ σ4 h4 H4 a b c => ⟨j, φ4, h4, hj, z, a, b, c⟩, lk.rt, fun φ4 z => lk.nx φ4 z, fun φ4 ⟨j, hj, z⟩ σ4 h4 H4 a b c => ⟨j, φ4, h4, hj, z, a, b, c⟩⟩ σ' h3 H2 (n'.mono s3.s) (s'.go s3) (m'.go s3)
  | false => exact lk.nx φ' (qq.2 rfl) σ' h3 H2 (n'.mono s3.s) (s'.go s3) (m'.go s3)
/-! the mutable thing -/
theorem new_mu {l : Addr} {i : Nat} {co : Co} {o : HO} (il : i < φ.s.length) (n : En (φ.s.G K c) σ h) (s : b.Ok h H) (hn : H l = none) (hc : (co.ct K c).p o h) : ∀ (κ : Ko) (F : St → Hp → Prop), Nx b (Sl.G K c (φ.s.set i none)) (Fr.mu K c ⟨φ.s.set i none, some (i, co)⟩) F → F (σ.set i (some (.ref l))) (upd H l o) := fun κ F k => by
  have n1 : h l = none := by
    cases z : h l with
    | none => rfl
    | some u => rw [s.st.i l u z] at hn; cases hn
  have n0 : b.H0 l = none := by
    cases z : b.H0 l with
    | none => rfl
    | some u => rw [s.st.e l u z] at hn; cases hn
  refine k _ h _ ?_ (s.go (Stp.out s.st.i hn)) ⟨l, o, List.getElem?_set_self (by rw [n.len, G_len]; exact il), n1, n0, upd_same, hc⟩
  rw [G_wipe]
  exact n.blur i
/-- x = [..], to be changed -/
def XS.newL (i : Nat) (a : XA) : XS := ⟨fun φ κ => φ.m = none ∧ i < φ.s.length ∧ a.f φ.s fun ws => ws.length ≤ 100000 ∧ κ.nx ⟨φ.s.set i none, some (i, .lst ws)⟩, fun k ⟨o, l, q⟩ => ⟨o, l, a.m (fun _ z => ⟨z.1, k.nx _ z.2⟩) q⟩⟩
theorem es_newL {i : Nat} (hr : EA K c tr ar) : ES K c (tAsg (tLst tr) (gName i)) (.newL i ar) := fun φ κ b D ⟨hm, il, q⟩ lk σ h H n s m => by
  refine hr φ.s _ q σ h H n s.st.i _ fun ws vs h1 H1 ⟨hz, qw⟩ s1 p1 => ⟨by rw [p1.len, ps_len]; exact Evl.sz_of hz, fun p np => ?_⟩
  exact new_mu (co := .lst ws) (o := .lst vs) il (n.mono s1.s) (s.go s1) np ⟨vs, rfl, p1⟩ κ D.nx (lk.nx _ qw)
/-- x = dict(t) -/
def XS.newD (i : Nat) (a : XE) : XS := ⟨fun φ κ => φ.m = none ∧ i < φ.s.length ∧ a.f φ.s fun w => ∃ al, w = .arm al ∧ (al.map (·.1)).Nodup ∧ κ.nx ⟨φ.s.set i none, some (i, .dct al)⟩, fun k ⟨o, l, q⟩ => ⟨o, l, a.m (fun _ ⟨al, e, d, z⟩ => ⟨al, e, d, k.nx _ z⟩) q⟩⟩
theorem es_newD {i : Nat} (ha : Ev K c ta a) : ES K c (tAsg (tCB (rDictT K) (tCons ta tNil)) (gName i)) (.newD i a) := fun φ κ b D ⟨hm, il, q⟩ lk σ h H n s m => by
  refine ha φ.s _ q σ h H n s.st.i _ fun v h1 H1 s1 ⟨w, ⟨al, ew, nd, qw⟩, pw⟩ => ?_
  subst ew
  obtain ⟨p, o, xs, rfl, ho, od, dq⟩ := pw
  obtain ⟨ads, rfl, hp⟩ := pairs_I dq
  refine ⟨p, o, ads, encD al, rfl, s1.i _ _ ho, od, hp _ s1.i, fun r nr => ?_⟩
  have e0 : mergeK [] (encD al) = encD al := by
    have z := mergeK_enc al []
    rw [merge_nd al [] nd] at z
    exact z
  rw [e0]
  exact new_mu (co := .dct al) (o := .dK (encD al)) il (n.mono s1.s) (s.go s1) nr rfl κ D.nx (lk.nx _ qw)
/-- x = {} -/
def XS.newD0 (i : Nat) : XS := ⟨fun φ κ => φ.m = none ∧ i < φ.s.length ∧ κ.nx ⟨φ.s.set i none, some (i, .dct [])⟩, fun k ⟨o, l, q⟩ => ⟨o, l, k.nx _ q⟩⟩
theorem es_newD0 {i : Nat} : ES K c (tAsg tDNewK (gName i)) (.newD0 i) := fun φ κ b D ⟨hm, il, q⟩ lk σ h H n s m =>
  fun p np => new_mu (co := .dct []) (o := .dK []) il n s np rfl κ D.nx (lk.nx _ q)
/-- x.append(e) -/
def XS.app (i : Nat) (a : XE) : XS := ⟨fun φ κ => ∃ xs, φ.m = some (i, .lst xs) ∧ xs.length < 100000 ∧ a.f φ.s fun w => κ.nx ⟨φ.s, some (i, .lst (xs ++ [w]))⟩, fun k ⟨xs, e, l, q⟩ => ⟨xs, e, l, a.m (fun _ z => k.nx _ z) q⟩⟩
theorem es_app {i : Nat} (ha : Ev K c ta a) : ES K c (tDrop (tBM K "list" rAppend (tVar i) (tCons ta tNil))) (.app i a) := fun φ κ b D ⟨xs, hm, hz, q⟩ lk σ h H n s m => by
  have m' : Mu b (some (i, Ct.lst (W.ps K c xs))) σ h H := by
    unfold Fr.mu at m; rw [hm] at m; exact m
  obtain ⟨l, o, m1⟩ := m'
  obtain ⟨vs, rfl, hv⟩ := m1.ct
  refine ⟨.ref l, m1.at_, .inl ⟨rfl, vs, .inl (.inl m1.oH)⟩, ?_⟩
  refine ha φ.s _ q σ h H n s.st.i _ fun v h1 H1 s1 ⟨w, qw, pw⟩ => ?_
  have n1 := s1.f l _ m1.oH m1.nh
  refine ⟨l, vs, v, rfl, rfl, s1.e l _ m1.oH, Evl.sz_lt (by rw [hv.len, ps_len]; exact hz), ?_⟩
  have s2 := s.go s1
  refine lk.nx _ qw σ h1 _ (n.mono s1.s) ⟨⟨?_, s2.st.s, ?_, s2.st.f⟩, s2.kn⟩ ⟨l, _, m1.at_, n1, m1.n0, upd_same, _, rfl, ?_⟩
  · intro a o e
    rw [upd_ne (ne_of_none e m1.n0)]
    exact s2.st.e a o e
  · intro a o e
    rw [upd_ne (ne_of_none e n1)]
    exact s2.st.i a o e
  · rw [ps_app]; exact (hv.mono s1.s).app pw
def XS.appV (i : Nat) (a : XE) : XS := ⟨fun φ κ => ∃ xs, φ.m = some (i, .lst xs) ∧ xs.length < 100000 ∧ a.f φ.rev fun w => w.flat = true ∧ κ.nx ⟨φ.s, some (i, .lst (xs ++ [w]))⟩, fun k ⟨xs, e, l, q⟩ => ⟨xs, e, l, a.m (fun _ z => ⟨z.1, k.nx _ z.2⟩) q⟩⟩
theorem es_appV {i : Nat} (ha : Ev K c ta a) : ES K c (tDrop (tBM K "list" rAppend (tVar i) (tCons ta tNil))) (.appV i a) := fun φ κ b D ⟨xs, hm, hz, q⟩ lk σ h H n s m => by
  obtain ⟨hp, np, sp, back⟩ := borrow n s m
  have mm := m
  have m' : Mu b (some (i, Ct.lst (W.ps K c xs))) σ h H := by
    unfold Fr.mu at mm; rw [hm] at mm; exact mm
  obtain ⟨l, o, m1⟩ := m'
  obtain ⟨vs, rfl, hv⟩ := m1.ct
  refine ⟨.ref l, m1.at_, .inl ⟨rfl, vs, .inl (.inl m1.oH)⟩, ?_⟩
  refine ha φ.rev _ q σ hp H np sp.st.i _ fun v h0 H1 s0 ⟨w, ⟨fl, qw⟩, pw0⟩ => ?_
  obtain ⟨h1, s1⟩ := back h0 H1 s0
  have pw := flat_p fl v h0 h1 pw0
  have n1 := s1.f l _ m1.oH m1.nh
  refine ⟨l, vs, v, rfl, rfl, s1.e l _ m1.oH, Evl.sz_lt (by rw [hv.len, ps_len]; exact hz), ?_⟩
  have s2 := s.go s1
  refine lk.nx _ qw σ h1 _ (n.mono s1.s) ⟨⟨?_, s2.st.s, ?_, s2.st.f⟩, s2.kn⟩ ⟨l, _, m1.at_, n1, m1.n0, upd_same, _, rfl, ?_⟩
  · intro a o e
    rw [upd_ne (ne_of_none e m1.n0)]
    exact s2.st.e a o e
  · intro a o e
    rw [upd_ne (ne_of_none e n1)]
    exact s2.st.i a o e
  · rw [ps_app]; exact (hv.mono s1.s).app pw
/-- d[x] = d.get(x, 0) + e -/
def XS.dput (i j : Nat) (a : XE) : XS := ⟨fun φ κ => ∃ al x, φ.m = some (i, .dct al) ∧ φ.s[j]? = some (some (.int x)) ∧ al.length < 100000 ∧ a.f φ.s fun w => ∃ n, w = .int n ∧ κ.nx ⟨φ.s, some (i, .dct (putI al x (cf al x + n)))⟩, fun k ⟨al, x, e, f, l, q⟩ => ⟨al, x, e, f, l, a.m (fun _ ⟨n, e, z⟩ => ⟨n, e, k.nx _ z⟩) q⟩⟩
theorem es_dput {i j : Nat} (ha : Ev K c ta a) : ES K c (sDPut (tVar i) (tVar j) (tOp (rI0 fun i j => .int (i + j)) (tDGet2 (tVar i) (tVar j) (tC (.int 0))) ta)) (.dput i j a) := fun φ κ b D ⟨al, x, hm, hj, hz, q⟩ lk σ h H en ok m => by
  have m' : Mu b (some (i, Ct.dict (encD al))) σ h H := by
    unfold Fr.mu at m; rw [hm] at m; exact m
  obtain ⟨l, o, m1⟩ := m'
  obtain rfl := m1.ct
  obtain ⟨v, hv, dv⟩ := en.at_ j _ (G_get hj)
  obtain rfl := p_int dv
  refine ⟨.ref l, m1.at_, l, rfl, .inl ⟨_, .inl m1.oH⟩, .int x, hv, _, DGet.k (k := .inl x) m1.oH, ?_⟩
  rw [valV_enc]
  have e1 : ((getI al x).map V.int).getD (.int 0) = .int (cf al x) := by
    unfold cf
    cases getI al x <;> rfl
  rw [e1]
  refine ha φ.s _ q σ h H en ok.st.i _ fun u h1 H1 s1 ⟨w, ⟨n, ew, qw⟩, pw⟩ => ?_
  subst ew
  refine ⟨_, _, rfl, p_int pw, .ref l, m1.at_, .int x, hv, ?_⟩
  have o1 := s1.e l _ m1.oH
  have n1 := s1.f l _ m1.oH m1.nh
  refine ⟨l, _, rfl, DPut.k (k := .inl x) o1 (Evl.sz_lt (by unfold encD; rw [List.length_map]; exact hz)), ?_⟩
  rw [putK_enc]
  have s2 := ok.go s1
  refine lk.nx _ qw σ h1 _ (en.mono s1.s) ⟨⟨fun a o e => ?_, s2.st.s, fun a o e => ?_, s2.st.f⟩, s2.kn⟩ ⟨l, _, m1.at_, n1, m1.n0, upd_same, rfl⟩
  · rw [upd_ne (ne_of_none e m1.n0)]; exact s2.st.e a o e
  · rw [upd_ne (ne_of_none e n1)]; exact s2.st.i a o e
/-- d[k], d.get(k, 0) of a dict that stands -/
def XE.dget (a b : XE) : XE := ⟨fun ρ Q => a.f ρ fun w => ∃ al, w = .dct al ∧ b.f ρ fun u => ∃ x n, u = .int x ∧ getI al x = some n ∧ Q (.int n), fun k q => a.m (fun _ ⟨al, e, z⟩ => ⟨al, e, b.m (fun _ ⟨x, n, e, g, z⟩ => ⟨x, n, e, g, k _ z⟩) z⟩) q⟩
theorem ev_dget {bb : XE} (ha : Ev K c ta a) (hb : Ev K c tb bb) : Ev K c (tDGet ta tb) (.dget a bb) := fun ρ Q q σ h H en e R k => ha ρ _ q σ h H en e _ fun v h1 H1 s1 ⟨w, ⟨al, ew, q1⟩, pw⟩ => hb ρ _ q1 σ h1 H1 (en.mono s1.s) s1.i _ fun u h2 H2 s2 ⟨w2, ⟨x, n, ew2, g, q2⟩, pw2⟩ => by
  subst ew ew2
  obtain ⟨l, rfl, hl⟩ := pw
  obtain rfl := p_int pw2
  have z : valV (encD al) (.inl x) = some (.int n) := by rw [valV_enc, g]; rfl
  exact ⟨l, .int n, rfl, z ▸ DGet.k (k := .inl x) (s2.e _ _ (s1.i _ _ hl)), k _ h2 H2 (s1.trans s2) ⟨_, q2, Dq.int n⟩⟩
def XE.dget2 (a b : XE) : XE := ⟨fun ρ Q => a.f ρ fun w => ∃ al, w = .dct al ∧ b.f ρ fun u => ∃ x, u = .int x ∧ Q (.int (cf al x)), fun k q => a.m (fun _ ⟨al, e, z⟩ => ⟨al, e, b.m (fun _ ⟨x, e, z⟩ => ⟨x, e, k _ z⟩) z⟩) q⟩
theorem ev_dget2 {bb : XE} (ha : Ev K c ta a) (hb : Ev K c tb bb) : Ev K c (tDGet2 ta tb (tC (.int 0))) (.dget2 a bb) := fun ρ Q q σ h H en e R k => ha ρ _ q σ h H en e _ fun v h1 H1 s1 ⟨w, ⟨al, ew, q1⟩, pw⟩ => by
  subst ew
  obtain ⟨l, rfl, hl⟩ := pw
  refine ⟨l, rfl, .inl ⟨_, .inl (s1.i _ _ hl)⟩, hb ρ _ q1 σ h1 H1 (en.mono s1.s) s1.i _ fun u h2 H2 s2 ⟨w2, ⟨x, ew2, q2⟩, pw2⟩ => ?_⟩
  subst ew2
  obtain rfl := p_int pw2
  refine ⟨_, DGet.k (k := .inl x) (s2.e _ _ (s1.i _ _ hl)), ?_⟩
  rw [valV_enc]
  have e1 : ((getI al x).map V.int).getD (.int 0) = .int (cf al x) := by
    unfold cf
    cases getI al x <;> rfl
  rw [e1]
  exact k _ h2 H2 (s1.trans s2) ⟨_, q2, Dq.int _⟩
/-- truth of values -/
def W.tru : W → Option Bool
  | .non => some false | .bl b => some b | .int i => some (decide (i ≠ 0)) | .lst xs => some (!xs.isEmpty) | .tup xs => some (!xs.isEmpty) | .arm al => some (!al.isEmpty) | _ => none
def XT.tru (a : XE) : XT := ⟨fun ρ Q => a.f ρ fun w => ∃ b, w.tru = some b ∧ Q b, fun k q => a.m (fun _ ⟨b, e, z⟩ => ⟨b, e, k _ z⟩) q⟩
theorem et_tru (ha : Ev K c ta a) : ET K c (fun σ H Q => ta σ H fun x H' => ∃ k, TruV K x H' k ∧ Q k H') (.tru a) := fun ρ Q q σ h H n e R k => ha ρ _ q σ h H n e _ fun v h1 H1 s1 ⟨w, ⟨bb, eb, qb⟩, pw⟩ => by
  refine ⟨bb, ?_, k bb h1 H1 s1 qb⟩
  have em : ∀ {α β : Type} {xs : List α} {ys : List β}, xs.length = ys.length → (!xs.isEmpty) = !ys.isEmpty := fun {α β xs ys} h => by
    cases xs <;> cases ys <;> first | rfl | (simp at h)
  cases w with
  | non => cases eb; obtain rfl := dp_non pw; exact rfl
  | bl x => cases eb; obtain rfl := dp_bl pw; exact rfl
  | int i =>
    cases eb
    obtain rfl := dp_int pw
    show decide (i ≠ 0) = (i != 0)
    by_cases h : i = 0 <;> simp [h]
  | tup xs =>
    cases eb
    obtain ⟨p, vs, rfl, s, z⟩ := (show (U K (W.ps K c xs)).p v h1 from pw)
    exact .inr (.inl ⟨vs, sqT_ex s1.i s, em (by rw [z.len, ps_len])⟩)
  | lst xs =>
    cases eb
    obtain ⟨p, vs, rfl, s, z⟩ := (show (L K (W.ps K c xs)).p v h1 from pw)
    exact .inl ⟨vs, .inl (.inl (s1.i _ _ s)), em (by rw [z.len, ps_len])⟩
  | arm al =>
    cases eb
    obtain ⟨p, xs, rfl, s, z⟩ := dp_tup (dpl_D pw)
    exact .inr (.inl ⟨xs, sqT_ex s1.i s, em (by rw [dpa_len z, List.length_map])⟩)
  | _ => cases eb
/-! a, .., x, .. = .., [], ..: x is to be changed -/
structure XAN where
  f : Sl → (List W → List W → Prop) → Prop
  m : ∀ {ρ : Sl} {Q Q' : List W → List W → Prop}, (∀ a b, Q a b → Q' a b) → f ρ Q → f ρ Q'
def XAN.here (r : XA) : XAN := ⟨fun ρ Q => r.f ρ fun ws => Q [] ws, fun k q => r.m (fun _ z => k _ _ z) q⟩
def XAN.cons (a : XE) (x : XAN) : XAN := ⟨fun ρ Q => a.f ρ fun w => x.f ρ fun p q => Q (w :: p) q, fun k q => a.m (fun _ z => x.m (fun _ _ y => k _ _ y) z) q⟩
def EAN (K : PySem.W.Frag) (c : Cl) (ta : TA) (x : XAN) : Prop := ∀ (ρ : Sl) (Q : List W → List W → Prop), x.f ρ Q → ∀ (σ : St) (h H : Hp), En (ρ.G K c) σ h → Ex h H → ∀ R : List V → Hp → Prop,
  (∀ p q us l us2 h' H', Q p q → Stp h H h' H' → Vs (W.ps K c p) us h' → Vs (W.ps K c q) us2 h' → H' l = some (.lst []) → h' l = none → H l = none → R (us ++ .ref l :: us2) H') → ta σ H R
theorem ean_here (hr : EA K c tr ar) : EAN K c (tCons (tLst tNil) tr) (.here ar) := fun ρ Q q σ h H n e R k => by
  refine ⟨by simp [sizeLine], fun p np => ?_⟩
  have nh : h p = none := by
    cases z : h p with
    | none => rfl
    | some o => rw [e p o z] at np; cases np
  have o1 := Stp.out (o := .lst []) e np
  refine hr ρ _ q σ h _ n o1.i _ fun ws vs h1 H1 qw s1 p1 => ?_
  exact k [] ws [] p vs h1 H1 qw (o1.trans s1) .nil p1 (s1.e p _ upd_same) (s1.f p _ upd_same nh) np
theorem ean_cons {x : XAN} (ha : Ev K c ta a) (hx : EAN K c tr x) : EAN K c (tCons ta tr) (.cons a x) := fun ρ Q q σ h H n e R k =>
  ha ρ _ q σ h H n e _ fun v h1 H1 s1 ⟨w, qw, pw⟩ => hx ρ _ qw σ h1 H1 (n.mono s1.s) s1.i _ fun p q us l us2 h2 H2 q2 s2 v1 v2 hl nl n0 => by
    have n0' : H l = none := by
      cases z : H l with
      | none => rfl
      | some o => rw [s1.e l o z] at n0; cases n0
    exact k (w :: p) q (v :: us) l us2 h2 H2 q2 (s1.trans s2) (.cons ((w.p K c).mono s2.s pw) v1) v2 hl nl n0'
def gNames : List Nat → TGs | [] => gNil | i :: is => gCons (gName i) (gNames is)
def setAll : List Nat → List (Option W) → Sl → Sl | i :: is, w :: ws, ρ => setAll is ws (ρ.set i w) | _, _, ρ => ρ
def setAV : List Nat → List V → St → St | i :: is, w :: ws, ρ => setAV is ws (ρ.set i (some w)) | _, _, ρ => ρ
theorem gNames_run : ∀ (is : List Nat) (vs : List V) (σ : St) (H : Hp) (R : St → Hp → Prop), is.length = vs.length → R (setAV is vs σ) H → gNames is vs σ H R
  | [], [], σ, H, R, _, r => ⟨rfl, r⟩
  | i :: is, v :: vs, σ, H, R, h, r => ⟨v, vs, rfl, gNames_run is vs (σ.set i (some v)) H R (by simpa using h) r⟩
  | [], _ :: _, _, _, _, h, _ => by simp at h
  | _ :: _, [], _, _, _, h, _ => by simp at h
def XS.parN (is : List Nat) (x : XAN) : XS := ⟨fun φ κ => (φ.m = none ∧ is.length ≤ 100000) ∧ is.Nodup ∧ (∀ i ∈ is, i < φ.s.length) ∧ x.f φ.s fun p q => is.length = p.length + 1 + q.length ∧ κ.nx ⟨setAll is (p.map some ++ none :: q.map some) φ.s, some (is.getD p.length 0, .lst [])⟩, fun k ⟨a, b, d, q⟩ => ⟨a, b, d, x.m (fun _ _ z => ⟨z.1, k.nx _ z.2⟩) q⟩⟩
theorem setAV_out : ∀ (is : List Nat) (vs : List V) (σ : St) (j : Nat), j ∉ is → (setAV is vs σ)[j]? = σ[j]?
  | [], _, _, _, _ => by unfold setAV; rfl
  | i :: is, [], _, _, _ => by unfold setAV; rfl
  | i :: is, v :: vs, σ, j, h => by
    rw [List.mem_cons, not_or] at h
    show (setAV is vs (σ.set i (some v)))[j]? = _
    rw [setAV_out is vs _ j h.2, List.getElem?_set_ne fun z => h.1 z.symm]
theorem setAV_at : ∀ (is : List Nat) (us : List V) (v : V) (us2 : List V) (σ : St), is.Nodup → is.length = us.length + 1 + us2.length → (∀ i ∈ is, i < σ.length) → (setAV is (us ++ v :: us2) σ)[is.getD us.length 0]? = some (some v)
  | [], us, v, us2, σ, _, h, _ => by have h' : 0 = us.length + 1 + us2.length := h; omega
  | i :: is, [], v, us2, σ, nd, h, hb => by
    show (setAV is us2 (σ.set i (some v)))[i]? = _
    rw [setAV_out is us2 _ i (List.nodup_cons.mp nd).1, List.getElem?_set_self (hb i List.mem_cons_self)]
  | i :: is, u :: us, v, us2, σ, nd, h, hb => by
    show (setAV is (us ++ v :: us2) (σ.set i (some u)))[is.getD us.length 0]? = _
    exact setAV_at is us v us2 _ (List.nodup_cons.mp nd).2 (by simp at h; omega) fun j hj => by rw [List.length_set]; exact hb j (List.mem_cons_of_mem _ hj)
theorem setAll_en {l : Addr} : ∀ (is : List Nat) (p q : List W) (us us2 : List V) (ρ : Sl) (σ : St), is.length = p.length + 1 + q.length → Vs (W.ps K c p) us h → Vs (W.ps K c q) us2 h → En (ρ.G K c) σ h → En (Sl.G K c (setAll is (p.map some ++ none :: q.map some) ρ)) (setAV is (us ++ .ref l :: us2) σ) h := by
  have back : ∀ (is : List Nat) (q : List W) (us2 : List V) (ρ : Sl) (σ : St), Vs (W.ps K c q) us2 h → En (ρ.G K c) σ h → En (Sl.G K c (setAll is (q.map some) ρ)) (setAV is us2 σ) h := by
    intro is
    induction is with
    | nil => intro q us2 ρ σ _ n; unfold setAll setAV; exact n
    | cons i is ih =>
      intro q us2 ρ σ v n
      cases q with
      | nil => rw [W.ps] at v; cases v; exact n
      | cons w q =>
        rw [W.ps] at v
        cases v with
        | cons a v =>
          show En (Sl.G K c (setAll is (q.map some) (ρ.set i (some w)))) (setAV is _ (σ.set i _)) h
          refine ih q _ _ _ v ?_
          rw [G_set]
          exact n.set i a
  intro is p
  induction p generalizing is with
  | nil =>
    intro q us us2 ρ σ hl v v2 n
    rw [W.ps] at v
    cases v
    cases is with
    | nil => have h' : 0 = 0 + 1 + q.length := hl; omega
    | cons i is =>
      show En (Sl.G K c (setAll is (q.map some) (ρ.set i none))) (setAV is us2 (σ.set i (some (.ref l)))) h
      refine back is q us2 _ _ v2 ?_
      rw [G_wipe]
      exact n.blur i
  | cons w p ih =>
    intro q us us2 ρ σ hl v v2 n
    rw [W.ps] at v
    cases v with
    | cons a v =>
      cases is with
      | nil => have h' : 0 = p.length + 1 + 1 + q.length := hl; omega
      | cons i is =>
        show En (Sl.G K c (setAll is (p.map some ++ none :: q.map some) (ρ.set i (some w)))) (setAV is (_ ++ .ref l :: us2) (σ.set i _)) h
        refine ih is q _ us2 _ _ (by simp at hl; omega) v v2 ?_
        rw [G_set]
        exact n.set i a
theorem es_parN {is : List Nat} {x : XAN} {n0 : Nat} (hx : EAN K c tr x) (hn : n0 = is.length) : ES K c (tAsg (tTup tr) (gTup K n0 (gNames is))) (.parN is x) := fun φ κ b D ⟨hm, nd, hb, q⟩ lk σ h H n s m => by
  refine hx φ.s _ q σ h H n s.st.i _ fun p q us l us2 h1 H1 ⟨hl, qw⟩ s1 v1 v2 hl1 nl n00 => ?_
  have l1 : us.length = p.length := by rw [v1.len, ps_len]
  have l2 : us2.length = q.length := by rw [v2.len, ps_len]
  have lt : (us ++ V.ref l :: us2).length = is.length := by rw [List.length_append, List.length_cons, l1, l2, hl]; omega
  have hz : (us ++ V.ref l :: us2).length ≤ sizeLine := by
    rw [lt]
    exact Evl.sz_of hm.2
  refine ⟨hz, fun t nt => ?_⟩
  have o3 := Stp.out (o := .tup (us ++ .ref l :: us2)) s1.i nt
  have pt : l ≠ t := fun z => by subst z; rw [hl1] at nt; cases nt
  refine ⟨t, _, rfl, .inl (.inl upd_same), by rw [lt, hn], ?_⟩
  refine gNames_run is _ σ _ _ lt.symm ?_
  have n0 : b.H0 l = none := by
    cases z : b.H0 l with
    | none => rfl
    | some o => rw [s.st.e l o z] at n00; cases n00
  have at_ : (setAV is (us ++ .ref l :: us2) σ)[is.getD p.length 0]? = some (some (.ref l)) := by
    rw [← l1]
    exact setAV_at is us (.ref l) us2 σ nd (by rw [l1, l2]; exact hl) fun i hi => by
      have z := hb i hi
      have y : σ.length = (Sl.G K c φ.s).length := n.len
      rw [y, G_len]; exact z
  refine lk.nx _ qw _ h1 _ (setAll_en is p q us us2 φ.s σ hl v1 v2 (n.mono s1.s)) (s.go (s1.trans o3)) ⟨l, .lst [], at_, nl, n0, by rw [upd_ne pt]; exact hl1, [], rfl, .nil⟩
end
/-! ### defs -/
section
variable {P : Program} {w : World} {K : PySem.W.Frag} {mg : Str → Option Value} {base : Heap} {c : Cl}
theorem vs_start {F : XF} {N ps : List Str} (a : F.α) (hn : F.n = ps.length) : ((W.ps K c (F.args a)).map some ++ List.replicate (N.length - ps.length) none : Ctx) = Sl.G K c ((F.args a).map some ++ List.replicate (N.length - ps.length) none) := by
  unfold Sl.G
  rw [List.map_append, List.map_map, ps_map, List.map_map, List.map_replicate]
  rfl
/-- the whole run of a body -/
def XS.whole (s : XS) (ws : List W) (k : Nat) (Q : W → Prop) : Prop := s.f ⟨ws.map some ++ List.replicate k none, none⟩ ⟨fun _ => Q .non, Q, fun _ => False, fun _ => False⟩
theorem Dn.run {F : XF} {x : Str} {st : Stmt} {ps N : List Str} {k : Nat} {s : XS} (d : Dn K mg x st ps) (S : FnScope N ps (defScope st)) (hn : F.n = ps.length)
    (hb : ∀ (a : F.α) (Q : W → Prop), F.pre a → (∀ w, F.post a w → Q w) → s.whole (F.args a) (N.length - ps.length) Q)
    (ht : ∀ (f : Addr) (cdv : Value) (A : Around) (outer : List Env) (sh : Shared) (H : Hp) (E : XK), Room k (A.deeper (PyProof.Rows.envOfC x (defScope st) sh.heap.objs.size f cdv)) → ∃ t : TS, PSs (cxOf CX0 P w K mg base N x (defScope st) f cdv A outer sh H E).nox (defBody st) t ∧ ES K c t s) :
    Fx P w K mg base (k + 1) x (F.sp K c) := by
  refine d.fx S (fun vs H Q E h => ?_) fun f cdv A outer sh H vs Q E hr h => ?_
  · obtain ⟨a, _, _, q, _⟩ := h
    rw [q.len, ps_len, F.hn, hn]
  · obtain ⟨t, ht, hs⟩ := ht f cdv A outer sh H E hr
    refine ⟨t, ht, ?_⟩
    obtain ⟨a, h, e, q, p, kk⟩ := h
    have hl : (W.ps K c (F.args a)).length = ps.length := by rw [ps_len, F.hn, hn]
    have z := en_start (args := fun _ : Unit => W.ps K c (F.args a)) (N := N) (ps := ps) (a := ()) (fun _ => hl) q
    have z' : En (((W.ps K c (F.args a)).map some ++ List.replicate (N.length - ps.length) none : Ctx)) (L2.start N vs) h := z
    rw [vs_start a hn] at z'
    refine hs _ _ ⟨h, H, h⟩ _ (hb a (fun w => F.post a w) p fun w z => z) ?_ (L2.start N vs) h H z' ⟨Stp.refl e, fun _ _ q => q⟩ trivial
    exact ⟨fun φ z σ h' H' n s' m => kk .non h' H' s'.st ⟨_, z, Dq.non⟩, fun w z v h' H' s' pw => kk v h' H' s' ⟨w, z, pw⟩, fun φ z => z.elim, fun φ z => z.elim⟩
theorem Dm.run {F : XF} {m qual : Str} {st : Stmt} {ps N : List Str} {k : Nat} {f : Addr} {s : XS} (d : Dm K m qual st ps f) (S : FnScope N ps (defScope st)) (hn : F.n = ps.length)
    (hb : ∀ (a : F.α) (Q : W → Prop), F.pre a → (∀ w, F.post a w → Q w) → s.whole (F.args a) (N.length - ps.length) Q)
    (ht : ∀ (cdv : Value) (A : Around) (outer : List Env) (sh : Shared) (H : Hp) (E : XK), Room k (A.deeper (PyProof.Rows.envOfC qual (defScope st) sh.heap.objs.size f cdv)) → ∃ t : TS, PSs (cxOf CX0 P w K mg base N qual (defScope st) f cdv A outer sh H E).nox (defBody st) t ∧ ES K c t s) :
    ∃ fd, FnOk P w K mg base CX0 (k + 1) f fd ps (F.sp K c) ∧ Binds K fd ps [] := by
  refine d.ok S (fun vs H Q E h => ?_) fun cdv A outer sh H vs Q E hr h => ?_
  · obtain ⟨a, _, _, q, _⟩ := h
    rw [q.len, ps_len, F.hn, hn]
  · obtain ⟨t, ht, hs⟩ := ht cdv A outer sh H E hr
    refine ⟨t, ht, ?_⟩
    obtain ⟨a, h, e, q, p, kk⟩ := h
    have hl : (W.ps K c (F.args a)).length = ps.length := by rw [ps_len, F.hn, hn]
    have z := en_start (args := fun _ : Unit => W.ps K c (F.args a)) (N := N) (ps := ps) (a := ()) (fun _ => hl) q
    have z' : En (((W.ps K c (F.args a)).map some ++ List.replicate (N.length - ps.length) none : Ctx)) (L2.start N vs) h := z
    rw [vs_start a hn] at z'
    refine hs _ _ ⟨h, H, h⟩ _ (hb a (fun w => F.post a w) p fun w z => z) ?_ (L2.start N vs) h H z' ⟨Stp.refl e, fun _ _ q => q⟩ trivial
    exact ⟨fun φ z σ h' H' n s' m => kk .non h' H' s'.st ⟨_, z, Dq.non⟩, fun w z v h' H' s' pw => kk v h' H' s' ⟨w, z, pw⟩, fun φ z => z.elim, fun φ z => z.elim⟩
theorem fun_run {F : XF} {m qual : Str} {st : Stmt} {ps N : List Str} {k : Nat} {f : Addr} {fd : FuncData} {s : XS} (d : L2.Fun K m qual st f fd) (S : FnScope N ps (defScope st)) (hn : F.n = ps.length)
    (hb : ∀ (a : F.α) (Q : W → Prop), F.pre a → (∀ w, F.post a w → Q w) → s.whole (F.args a) (N.length - ps.length) Q)
    (ht : ∀ (cdv : Value) (A : Around) (outer : List Env) (sh : Shared) (H : Hp) (E : XK), Room k (A.deeper (PyProof.Rows.envOfC qual (defScope st) sh.heap.objs.size f cdv)) → ∃ t : TS, PSs (cxOf CX0 P w K mg base N qual (defScope st) f cdv A outer sh H E).nox (defBody st) t ∧ ES K c t s) :
    FnOk P w K mg base CX0 (k + 1) f fd ps (F.sp K c) := by
  refine d.ok S (fun vs H Q E h => ?_) fun cdv A outer sh H vs Q E hr h => ?_
  · obtain ⟨a, _, _, q, _⟩ := h
    rw [q.len, ps_len, F.hn, hn]
  · obtain ⟨t, ht, hs⟩ := ht cdv A outer sh H E hr
    refine ⟨t, ht, ?_⟩
    obtain ⟨a, h, e, q, p, kk⟩ := h
    have hl : (W.ps K c (F.args a)).length = ps.length := by rw [ps_len, F.hn, hn]
    have z := en_start (args := fun _ : Unit => W.ps K c (F.args a)) (N := N) (ps := ps) (a := ()) (fun _ => hl) q
    have z' : En (((W.ps K c (F.args a)).map some ++ List.replicate (N.length - ps.length) none : Ctx)) (L2.start N vs) h := z
    rw [vs_start a hn] at z'
    refine hs _ _ ⟨h, H, h⟩ _ (hb a (fun w => F.post a w) p fun w z => z) ?_ (L2.start N vs) h H z' ⟨Stp.refl e, fun _ _ q => q⟩ trivial
    exact ⟨fun φ z σ h' H' n s' m => kk .non h' H' s'.st ⟨_, z, Dq.non⟩, fun w z v h' H' s' pw => kk v h' H' s' ⟨w, z, pw⟩, fun φ z => z.elim, fun φ z => z.elim⟩
end
end Z

namespace Z
open PySem L2
/-! ### the operators of plain values, of every kind at once -/
section
variable {X : Cx} {K : PySem.W.Frag} {c : Cl}
abbrev oAdd : XO := .or (.ii fun i j => .int (i + j)) (.or .catL .catT)
theorem opAdd : OpR X (binaryOp .Add) (fun x y H Q => rI0 (fun i j => .int (i + j)) x y H Q ∨ rCat x y H Q ∨ rCatA X.K x y H Q) := op_add.or (op_cat.or op_catA)
theorem eoAdd : EO K c (fun x y H Q => rI0 (fun i j => .int (i + j)) x y H Q ∨ rCat x y H Q ∨ rCatA K x y H Q) oAdd := eo_or eo_I (eo_or eo_catL eo_catT)
abbrev oSub : XO := .ii fun i j => .int (i - j)
theorem opSub : OpR X (binaryOp .Sub) (rI0 fun i j => .int (i - j)) := op_sub
theorem eoSub : EO K c (rI0 fun i j => .int (i - j)) oSub := eo_I
abbrev oMul : XO := .iic CMul fun i j => .int (i * j)
theorem opMul : OpR X (binaryOp .Mult) (rI CMul fun i j => .int (i * j)) := op_mul
theorem eoMul : EO K c (rI CMul fun i j => .int (i * j)) oMul := eo_IC
abbrev oDiv : XO := .iic CDiv fun i j => .int (i / j)
abbrev oMod : XO := .iic (fun _ j => 0 < j) fun i j => .int (i % j)
abbrev oPow : XO := .iic CPow fun i j => .int (i ^ j.toNat)
abbrev oLt : XO := .ii fun i j => .bl (decide (i < j))
abbrev oLe : XO := .ii fun i j => .bl (decide (i ≤ j))
abbrev oGt : XO := .ii fun i j => .bl (decide (j < i))
abbrev oGe : XO := .ii fun i j => .bl (decide (j ≤ i))
abbrev oEq : XO := .or (.eqS false) (.eqD false)
abbrev oNe : XO := .or (.eqS true) (.eqD true)
theorem opEq (hu : X.A.units + 64 < cLine) : OpR X (compareOp .Eq) (fun x y H Q => rEq x y H Q ∨ rEqD X.K x y H Q) := op_eq.or (op_eqD hu)
theorem opNe (hu : X.A.units + 64 < cLine) : OpR X (compareOp .NotEq) (fun x y H Q => rNe x y H Q ∨ rNeD X.K x y H Q) := op_ne.or (op_neD hu)
theorem eoEq : EO K c (fun x y H Q => rEq x y H Q ∨ rEqD K x y H Q) oEq := eo_or eo_eqS eo_eqD
theorem eoNe : EO K c (fun x y H Q => rNe x y H Q ∨ rNeD K x y H Q) oNe := eo_or eo_neS eo_neD
def XO.ixA : XO := ⟨fun x y Q => ∃ al i p, x = .arm al ∧ y = .int i ∧ atI al i = some p ∧ Q (.tup [.int p.1, .int p.2]), fun k ⟨i, j, w, a, b, d, q⟩ => ⟨i, j, w, a, b, d, k _ q⟩⟩
theorem eo_ixA : EO K c (rIxT K) .ixA := fun x y Q ⟨al, i, p, ex, ey, hw, q⟩ => by
  subst ex ey
  refine opp_sq (w := .tup [.int p.1, .int p.2]) q (fun x y h H a d e R k => opp_ixTP (P := (W.tup [.int p.1, .int p.2]).p K c) (ps_atI (xs := arW al) (atI_map (f := fun p : Int × Int => W.tup [.int p.1, .int p.2]) hw)) x y h H (itT_of (xs := arW al) rfl a) d e R k) fun v h z => z
theorem eo_or2 {r : R2} {o o' : XO} (h : EO K c r o) (h' : EO K c r o') : EO K c r (o.or o') := fun x y Q q => q.elim (fun z => h x y Q z) (fun z => h' x y Q z)
abbrev oIx : XO := .or .ixL (.or .ixT .ixA)
theorem ix_lt : IxR X (fun x y H Q => rIxL X.K x y H Q ∨ rIxT X.K x y H Q) := ix_list.or ix_tup
theorem eoIx : EO K c (fun x y H Q => rIxL K x y H Q ∨ rIxT K x y H Q) oIx := eo_or eo_ixL (eo_or2 eo_ixT eo_ixA)
theorem unR_or {f : Value → Sem Value} {r r' : V → Hp → VK → Prop} (h : UnR X f r) (h' : UnR X f r') : UnR X f (fun x H Q => r x H Q ∨ r' x H Q) := fun pins s σ H x v Q I rx q => q.elim (h pins s σ H x v Q I rx) (h' pins s σ H x v Q I rx)
def xIsi : XN := ⟨fun ws Q => ∃ x n r, ws = [x, .ty n] ∧ x.isT (.ty n) = some r ∧ Q (.bl r), fun k ⟨x, t, r, a, e, q⟩ => ⟨x, t, r, a, e, k _ q⟩⟩
def xIsC (j : Bool) : XN := ⟨fun ws Q => ∃ x r, ws = [x, .cls j] ∧ x.isT (.cls j) = some r ∧ Q (.bl r), fun k ⟨x, r, a, e, q⟩ => ⟨x, r, a, e, k _ q⟩⟩
theorem ev_ty {n : String} : Ev K c (tC (.ty n)) (.lit (.ty n)) := fun ρ Q q => t_weak t_ty fun v h z => ⟨_, q, z⟩
theorem ev_kls {j : Bool} : Ev K c (tC (.ref (c.at j))) (.lit (.cls j)) := fun ρ Q q => t_weak t_cls fun v h z => ⟨_, q, z⟩
/-! list(range(..)) -/
variable {ta tb : TE} {tr : TA} {a b : XE} {ar : XA}
def XE.lrg2 (a b : XE) : XE := ⟨fun ρ Q => a.f ρ fun x => b.f ρ fun y => ∃ i j, x = .int i ∧ y = .int j ∧ (-1000000000 ≤ i ∧ i ≤ 1000000000 ∧ -1000000000 ≤ j ∧ j ≤ 1000000000 ∧ j - i ≤ 50000) ∧ Q (.lst (rgW i (j - i).toNat)), fun k q => a.m (fun _ z => b.m (fun _ ⟨i, j, x, y, h, q⟩ => ⟨i, j, x, y, h, k _ q⟩) z) q⟩
theorem ev_lrg2 (ha : Ev K c ta a) (hb : Ev K c tb b) : Ev K c (tLstRg (tRg2 ta tb)) (.lrg2 a b) := fun ρ Q q σ h H en e R k => ha ρ _ q σ h H en e _ fun v h1 H1 s1 ⟨w, q1, pw⟩ => hb ρ _ q1 σ h1 H1 (en.mono s1.s) s1.i _ fun u h2 H2 s2 ⟨w2, ⟨i, j, e1, e2, hb, q2⟩, pw2⟩ => by
  subst e1 e2
  refine ⟨i, j, p_int pw, p_int pw2, ⟨by omega, by omega, by omega, by omega, by omega⟩, fun q nq => ?_⟩
  refine k _ (upd h2 q (.lst (rgV i j))) _ ((s1.trans s2).trans (Stp.new s2.i nq)) ⟨_, q2, ?_⟩
  have e1 : rgV i j = ((List.range (j - i).toNat).map fun (k : Nat) => i + (k : Int)).map V.int := by
    unfold rgV
    rw [List.map_map]; rfl
  have e2 : rgW i (j - i).toNat = ((List.range (j - i).toNat).map fun (k : Nat) => i + (k : Int)).map .int := by
    unfold rgW
    rw [List.map_map]; rfl
  rw [e1, e2]
  exact ints_p (ints_dp upd_same)
def dnW (i : Int) (n : Nat) : List W := (List.range n).map fun (k : Nat) => .int (i - (k : Int))
/-- list(range(i, j, -1)) -/
def XE.lrg3 (a : XA) : XE := ⟨fun ρ Q => a.f ρ fun ws => ∃ i j, ws = [.int i, .int j, .int (-1)] ∧ (-1000000000 ≤ i ∧ i ≤ 1000000000 ∧ -1000000000 ≤ j ∧ j ≤ 1000000000 ∧ i - j ≤ 50000) ∧ Q (.lst (dnW i (i - j).toNat)), fun k q => a.m (fun _ ⟨i, j, x, h, q⟩ => ⟨i, j, x, h, k _ q⟩) q⟩
theorem ev_lrg3 (hr : EA K c tr ar) : Ev K c (tLstR3 tr) (.lrg3 ar) := fun ρ Q q σ h H en e R k => hr ρ _ q σ h H en e _ fun ws vs h1 H1 ⟨i, j, ew, hb, q2⟩ s1 p1 => by
  subst ew
  obtain ⟨x, y, z, rfl, px, py, pz⟩ := vs3 p1
  rw [p_int px, p_int py, p_int pz]
  refine ⟨i, j, -1, _, rfl, RgC.neg (by omega) (by omega) (by omega) (by omega), by omega, fun q nq => ?_⟩
  refine k _ (upd h1 q (.lst (rgC i (-1) (i - j).toNat))) _ (s1.trans (Stp.new s1.i nq)) ⟨_, q2, ?_⟩
  have e1 : rgC i (-1) (i - j).toNat = ((List.range (i - j).toNat).map fun (k : Nat) => i - (k : Int)).map V.int := by
    unfold rgC
    rw [List.map_map]
    refine List.map_congr_left fun k _ => ?_
    show V.int (i + (k : Int) * -1) = V.int (i - (k : Int))
    congr 1
    omega
  have e2 : dnW i (i - j).toNat = ((List.range (i - j).toNat).map fun (k : Nat) => i - (k : Int)).map .int := by
    unfold dnW
    rw [List.map_map]; rfl
  rw [e1, e2]
  exact ints_p (ints_dp upd_same)
/-- an old promise as a new one -/
theorem xf_of {α : Type _} {F : XF} {args : α → List Pr} {pre : α → Prop} {res : α → Pr} (f : F.α → α) (hA : ∀ a vs h, Vs (W.ps K c (F.args a)) vs h → Vs (args (f a)) vs h) (hp : ∀ a, F.pre a → pre (f a)) (hr : ∀ a v h, F.pre a → (res (f a)).p v h → ∃ w, F.post a w ∧ (W.p K c w).p v h) : ∀ vs H Q E, F.sp K c vs H Q E → Sv args pre res vs H Q E := fun vs H Q E ⟨a, h, e, q, p, kk⟩ =>
  ⟨f a, h, e, hA a vs h q, hp a p, fun v h' H' s z => kk v h' H' s (hr a v h' p z)⟩
end
/-! ### running -/
theorem ints_inj {ns ms : List Int} : ns.map W.int = ms.map W.int ↔ ns = ms := List.map_inj_right fun _ _ h => W.int.inj h
theorem kit1 : L2.kitB "int" "int" = some true := by decide +kernel
end Z

namespace Z
open PySem L2
/-! ### one equation a word: a run is opened by them -/
theorem r_var {ρ : Sl} {Q : W → Prop} {a b d : XE} {ar : XA} {t u : XT} {φ : Fr} {κ : Ko} {x y : XS} {i : Nat} : ((XE.var i).f ρ Q) = (∃ w, ρ[i]? = some (some w) ∧ Q w) := rfl
theorem r_lit {ρ : Sl} {Q : W → Prop} {a b d : XE} {ar : XA} {t u : XT} {φ : Fr} {κ : Ko} {x y : XS} {w : W} : ((XE.lit w).f ρ Q) = (Q w) := rfl
theorem r_op {ρ : Sl} {Q : W → Prop} {a b d : XE} {ar : XA} {t u : XT} {φ : Fr} {κ : Ko} {x y : XS} {o : XO} : ((XE.op o a b).f ρ Q) = (a.f ρ fun x => b.f ρ fun y => o.f x y Q) := rfl
theorem r_un {ρ : Sl} {Q : W → Prop} {a b d : XE} {ar : XA} {t u : XT} {φ : Fr} {κ : Ko} {x y : XS} {o : XU} : ((XE.un o a).f ρ Q) = (a.f ρ fun x => o.f x Q) := rfl
theorem r_anil {ρ : Sl} {Q : W → Prop} {a b d : XE} {ar : XA} {t u : XT} {φ : Fr} {κ : Ko} {x y : XS} {R : List W → Prop} : (XA.nil.f ρ R) = (R []) := rfl
theorem r_acons {ρ : Sl} {Q : W → Prop} {a b d : XE} {ar : XA} {t u : XT} {φ : Fr} {κ : Ko} {x y : XS} {R : List W → Prop} : ((XA.cons a ar).f ρ R) = (a.f ρ fun x => ar.f ρ fun xs => R (x :: xs)) := rfl
theorem r_fn {ρ : Sl} {Q : W → Prop} {a b d : XE} {ar : XA} {t u : XT} {φ : Fr} {κ : Ko} {x y : XS} {o : XN} : ((XE.fn o ar).f ρ Q) = (ar.f ρ fun xs => o.f xs Q) := rfl
theorem r_call {ρ : Sl} {Q : W → Prop} {a b d : XE} {ar : XA} {t u : XT} {φ : Fr} {κ : Ko} {x y : XS} {F : XF} : ((XE.call F ar).f ρ Q) = (ar.f ρ fun xs => F.f xs Q) := rfl
theorem r_ite {ρ : Sl} {Q : W → Prop} {a b d : XE} {ar : XA} {t u : XT} {φ : Fr} {κ : Ko} {x y : XS} : ((XE.ite t a b).f ρ Q) = (t.f ρ fun x => (x = true → a.f ρ Q) ∧ (x = false → b.f ρ Q)) := rfl
theorem r_andV {ρ : Sl} {Q : W → Prop} {a b d : XE} {ar : XA} {t u : XT} {φ : Fr} {κ : Ko} {x y : XS} : ((XE.andV a b).f ρ Q) = (a.f ρ fun x => ∃ p, x = .bl p ∧ (p = true → b.f ρ Q) ∧ (p = false → Q (.bl false))) := rfl
theorem r_orV {ρ : Sl} {Q : W → Prop} {a b d : XE} {ar : XA} {t u : XT} {φ : Fr} {κ : Ko} {x y : XS} : ((XE.orV a b).f ρ Q) = (a.f ρ fun x => ∃ p, x = .bl p ∧ (p = false → b.f ρ Q) ∧ (p = true → Q (.bl true))) := rfl
theorem r_notV {ρ : Sl} {Q : W → Prop} {a b d : XE} {ar : XA} {t u : XT} {φ : Fr} {κ : Ko} {x y : XS} : ((XE.notV a).f ρ Q) = (a.f ρ fun x => ∃ p, x = .bl p ∧ Q (.bl (!p))) := rfl
theorem r_lst {ρ : Sl} {Q : W → Prop} {a b d : XE} {ar : XA} {t u : XT} {φ : Fr} {κ : Ko} {x y : XS} : ((XE.lst ar).f ρ Q) = (ar.f ρ fun ws => ws.length ≤ 100000 ∧ Q (.lst ws)) := rfl
theorem r_tup {ρ : Sl} {Q : W → Prop} {a b d : XE} {ar : XA} {t u : XT} {φ : Fr} {κ : Ko} {x y : XS} : ((XE.tup ar).f ρ Q) = (ar.f ρ fun ws => ws.length ≤ 100000 ∧ Q (.tup ws)) := rfl
theorem r_tupF {ρ : Sl} {Q : W → Prop} {a b d : XE} {ar : XA} {t u : XT} {φ : Fr} {κ : Ko} {x y : XS} : ((XE.tupF ar).f ρ Q) = (ar.f ρ fun ws => ∃ al, ws = arW al ∧ al.length ≤ 100000 ∧ Q (.arm al)) := rfl
theorem r_chain {ρ : Sl} {Q : W → Prop} {a b d : XE} {ar : XA} {t u : XT} {φ : Fr} {κ : Ko} {x y : XS} {g g' : Int → Int → Bool} : ((XE.chain g g' a b d).f ρ Q) = (a.f ρ fun x => b.f ρ fun y => ∃ i j, x = .int i ∧ y = .int j ∧ (g i j = true → d.f ρ fun z => ∃ k, z = .int k ∧ Q (.bl (g' j k))) ∧ (g i j = false → Q (.bl false))) := rfl
theorem r_tval {ρ : Sl} {Q : W → Prop} {a b d : XE} {ar : XA} {t u : XT} {φ : Fr} {κ : Ko} {x y : XS} {B : Bool → Prop} : ((XT.val a).f ρ B) = (a.f ρ fun x => ∃ p, x = .bl p ∧ B p) := rfl
theorem r_ttru {ρ : Sl} {Q : W → Prop} {a b d : XE} {ar : XA} {t u : XT} {φ : Fr} {κ : Ko} {x y : XS} {B : Bool → Prop} : ((XT.tru a).f ρ B) = (a.f ρ fun w => ∃ b, w.tru = some b ∧ B b) := rfl
theorem r_tand {ρ : Sl} {Q : W → Prop} {a b d : XE} {ar : XA} {t u : XT} {φ : Fr} {κ : Ko} {x y : XS} {B : Bool → Prop} : ((XT.and t u).f ρ B) = (t.f ρ fun x => (x = true → u.f ρ B) ∧ (x = false → B false)) := rfl
theorem r_tor {ρ : Sl} {Q : W → Prop} {a b d : XE} {ar : XA} {t u : XT} {φ : Fr} {κ : Ko} {x y : XS} {B : Bool → Prop} : ((XT.or t u).f ρ B) = (t.f ρ fun x => (x = false → u.f ρ B) ∧ (x = true → B true)) := rfl
theorem r_tnot {ρ : Sl} {Q : W → Prop} {a b d : XE} {ar : XA} {t u : XT} {φ : Fr} {κ : Ko} {x y : XS} {B : Bool → Prop} : ((XT.not t).f ρ B) = (t.f ρ fun x => B (!x)) := rfl
theorem r_tyes {ρ : Sl} {Q : W → Prop} {a b d : XE} {ar : XA} {t u : XT} {φ : Fr} {κ : Ko} {x y : XS} {B : Bool → Prop} : (XT.yes.f ρ B) = (B true) := rfl
theorem r_pno {ρ : Sl} {Q : W → Prop} {a b d : XE} {ar : XA} {t u : XT} {φ : Fr} {κ : Ko} {x y : XS} {O : Option Int → Prop} : (XP.no.f ρ O) = (O none) := rfl
theorem r_pat {ρ : Sl} {Q : W → Prop} {a b d : XE} {ar : XA} {t u : XT} {φ : Fr} {κ : Ko} {x y : XS} {O : Option Int → Prop} : ((XP.at a).f ρ O) = (a.f ρ fun x => ∃ i, x = .int i ∧ O (some i)) := rfl
theorem r_sl {ρ : Sl} {Q : W → Prop} {a b d : XE} {ar : XA} {t u : XT} {φ : Fr} {κ : Ko} {x y : XS} {l h : XP} : ((XE.sl a l h).f ρ Q) = (a.f ρ fun w => l.f ρ fun i => h.f ρ fun j => (∃ xs, w = .lst xs ∧ Q (.lst (cutD xs i j))) ∨ ∃ xs, w = .tup xs ∧ Q (.tup (cutD xs i j))) := rfl
theorem r_fldR {ρ : Sl} {Q : W → Prop} {a : XE} : ((XE.fld true a).f ρ Q) = (a.f ρ fun w => ∃ al, w = .rig al ∧ Q (.arm al)) := propext ⟨a.m fun w z => by rcases z with ⟨i, h, e, q⟩ | ⟨i, h, e, q⟩ <;> first | (cases h; done) | exact ⟨i, e, q⟩, a.m fun w ⟨i, e, q⟩ => by first | exact .inl ⟨i, rfl, e, q⟩ | exact .inr ⟨i, rfl, e, q⟩⟩
theorem r_fldM {ρ : Sl} {Q : W → Prop} {a : XE} : ((XE.fld false a).f ρ Q) = (a.f ρ fun w => ∃ ns : List Int, w = .mem ns ∧ Q (.tup (ns.map .int))) := propext ⟨a.m fun w z => by rcases z with ⟨i, h, e, q⟩ | ⟨i, h, e, q⟩ <;> first | (cases h; done) | exact ⟨i, e, q⟩, a.m fun w ⟨i, e, q⟩ => by first | exact .inl ⟨i, rfl, e, q⟩ | exact .inr ⟨i, rfl, e, q⟩⟩
theorem r_prop {ρ : Sl} {Q : W → Prop} {a b d : XE} {ar : XA} {t u : XT} {φ : Fr} {κ : Ko} {x y : XS} {k : Bool} {F : XF} : ((XE.prop k F a).f ρ Q) = (a.f ρ fun w => w.is k ∧ F.f [w] Q) := rfl
theorem r_callO {ρ : Sl} {Q : W → Prop} {a b d : XE} {ar : XA} {t u : XT} {φ : Fr} {κ : Ko} {x y : XS} {k : Bool} {F : XF} : ((XE.callO k F a ar).f ρ Q) = (a.f ρ fun w => w.is k ∧ ar.f ρ fun ws => F.f (w :: ws) Q) := rfl
theorem r_mkRig {ρ : Sl} {Q : W → Prop} {a b d : XE} {ar : XA} {t u : XT} {φ : Fr} {κ : Ko} {x y : XS} {pre : List (Int × Int) → Prop} : ((XE.mkRig pre a).f ρ Q) = (a.f ρ fun w => ∃ al, w = .arm al ∧ pre al ∧ Q (.rig al)) := rfl
theorem r_mkMem {ρ : Sl} {Q : W → Prop} {a b d : XE} {ar : XA} {t u : XT} {φ : Fr} {κ : Ko} {x y : XS} {pre : List Int → Prop} : ((XE.mkMem pre a).f ρ Q) = (a.f ρ fun w => ∃ ns : List Int, w = .tup (ns.map .int) ∧ pre ns ∧ Q (.mem ns)) := rfl
theorem r_dget {ρ : Sl} {Q : W → Prop} {a b d : XE} {ar : XA} {t u : XT} {φ : Fr} {κ : Ko} {x y : XS} : ((XE.dget a b).f ρ Q) = (a.f ρ fun w => ∃ al, w = .dct al ∧ b.f ρ fun u => ∃ x n, u = .int x ∧ getI al x = some n ∧ Q (.int n)) := rfl
theorem r_dget2 {ρ : Sl} {Q : W → Prop} {a b d : XE} {ar : XA} {t u : XT} {φ : Fr} {κ : Ko} {x y : XS} : ((XE.dget2 a b).f ρ Q) = (a.f ρ fun w => ∃ al, w = .dct al ∧ b.f ρ fun u => ∃ x, u = .int x ∧ Q (.int (cf al x))) := rfl
theorem r_lrg2 {ρ : Sl} {Q : W → Prop} {a b d : XE} {ar : XA} {t u : XT} {φ : Fr} {κ : Ko} {x y : XS} : ((XE.lrg2 a b).f ρ Q) = (a.f ρ fun x => b.f ρ fun y => ∃ i j, x = .int i ∧ y = .int j ∧ (-1000000000 ≤ i ∧ i ≤ 1000000000 ∧ -1000000000 ≤ j ∧ j ≤ 1000000000 ∧ j - i ≤ 50000) ∧ Q (.lst (rgW i (j - i).toNat))) := rfl
theorem r_lrg3 {ρ : Sl} {Q : W → Prop} {a b d : XE} {ar : XA} {t u : XT} {φ : Fr} {κ : Ko} {x y : XS} : ((XE.lrg3 ar).f ρ Q) = (ar.f ρ fun ws => ∃ i j, ws = [.int i, .int j, .int (-1)] ∧ (-1000000000 ≤ i ∧ i ≤ 1000000000 ∧ -1000000000 ≤ j ∧ j ≤ 1000000000 ∧ i - j ≤ 50000) ∧ Q (.lst (dnW i (i - j).toNat))) := rfl
theorem r_comp {ρ : Sl} {Q : W → Prop} {a b d : XE} {ar : XA} {t u : XT} {φ : Fr} {κ : Ko} {x y : XS} {it : XI} {g : XG} {e : XE} {vs : List Nat} : ((XE.comp it g t e vs).f ρ Q) = (it.f ρ fun ws => ws.length ≤ 50000 ∧ CompI ws g t e (wS ρ vs) Q) := rfl
theorem r_iseq {ρ : Sl} {Q : W → Prop} {a b d : XE} {ar : XA} {t u : XT} {φ : Fr} {κ : Ko} {x y : XS} {R : List W → Prop} : ((XI.seq a).f ρ R) = (a.f ρ fun w => (∃ xs, w.itL = some xs ∧ R xs) ∨ ∃ xs, w.itT = some xs ∧ R xs) := rfl
theorem r_rng1 {ρ : Sl} {Q : W → Prop} {a b d : XE} {ar : XA} {t u : XT} {φ : Fr} {κ : Ko} {x y : XS} {R : List W → Prop} : ((XI.rng1 ar).f ρ R) = (ar.f ρ fun ws => ∃ j, ws = [.int j] ∧ (-1000000000 ≤ j ∧ j ≤ 1000000000) ∧ R (rgW 0 j.toNat)) := rfl
theorem r_rng2 {ρ : Sl} {Q : W → Prop} {a b d : XE} {ar : XA} {t u : XT} {φ : Fr} {κ : Ko} {x y : XS} {R : List W → Prop} : ((XI.rng2 ar).f ρ R) = (ar.f ρ fun ws => ∃ i j, ws = [.int i, .int j] ∧ (-1000000000 ≤ i ∧ i ≤ 1000000000 ∧ -1000000000 ≤ j ∧ j ≤ 1000000000) ∧ R (rgW i (j - i).toNat)) := rfl
theorem r_enum {ρ : Sl} {Q : W → Prop} {a b d : XE} {ar : XA} {t u : XT} {φ : Fr} {κ : Ko} {x y : XS} {R : List W → Prop} : ((XI.enum ar).f ρ R) = (ar.f ρ fun ws => ∃ w xs, ws = [w] ∧ w.itL = some xs ∧ R (enumW xs)) := rfl
theorem r_zip {ρ : Sl} {Q : W → Prop} {a b d : XE} {ar : XA} {t u : XT} {φ : Fr} {κ : Ko} {x y : XS} {R : List W → Prop} : ((XI.zip ar).f ρ R) = (ar.f ρ fun ws => ∃ w u xs ys, ws = [w, u] ∧ w.itL = some xs ∧ u.itL = some ys ∧ R (zipW xs ys)) := rfl
theorem r_gname {ρ : Sl} {Q : W → Prop} {a b d : XE} {ar : XA} {t u : XT} {φ : Fr} {κ : Ko} {x y : XS} {i : Nat} {w : W} {S : Sl → Prop} : ((XG.name i).f w ρ S) = (S (ρ.set i (some w))) := rfl
theorem r_gtup {ρ : Sl} {Q : W → Prop} {a b d : XE} {ar : XA} {t u : XT} {φ : Fr} {κ : Ko} {x y : XS} {r : XGs} {w : W} {S : Sl → Prop} : ((XG.tup r).f w ρ S) = (∃ xs, w = .tup xs ∧ r.f xs ρ S) := rfl
theorem r_gnil {ρ : Sl} {Q : W → Prop} {a b d : XE} {ar : XA} {t u : XT} {φ : Fr} {κ : Ko} {x y : XS} {ws : List W} {S : Sl → Prop} : (XGs.nil.f ws ρ S) = (ws = [] ∧ S ρ) := rfl
theorem r_gcons {ρ : Sl} {Q : W → Prop} {a b d : XE} {ar : XA} {t u : XT} {φ : Fr} {κ : Ko} {x y : XS} {g : XG} {r : XGs} {ws : List W} {S : Sl → Prop} : ((XGs.cons g r).f ws ρ S) = (∃ x xs, ws = x :: xs ∧ g.f x ρ fun ρ' => r.f xs ρ' S) := rfl
theorem r_vname {i : Nat} : ((XG.name i).vs) = ([i]) := rfl
theorem r_vtup {r : XGs} : ((XG.tup r).vs) = (r.vs) := rfl
theorem r_vnil  : (XGs.nil.vs) = ([]) := rfl
theorem r_vcons {g : XG} {r : XGs} : ((XGs.cons g r).vs) = (g.vs ++ r.vs) := rfl
theorem r_oor {x y : W} {Q : W → Prop} {o o' : XO} : ((XO.or o o').f x y Q) = (o.f x y Q ∨ o'.f x y Q) := rfl
theorem r_oii {x y : W} {Q : W → Prop} {g : Int → Int → W} : ((XO.ii g).f x y Q) = (∃ i j, x = .int i ∧ y = .int j ∧ Q (g i j)) := rfl
theorem r_oiic {x y : W} {Q : W → Prop} {C : Int → Int → Prop} {g : Int → Int → W} : ((XO.iic C g).f x y Q) = (∃ i j, x = .int i ∧ y = .int j ∧ C i j ∧ Q (g i j)) := rfl
theorem r_ocatL {x y : W} {Q : W → Prop} : (XO.catL.f x y Q) = (∃ xs ys, x = .lst xs ∧ y = .lst ys ∧ xs.length + ys.length ≤ 100000 ∧ Q (.lst (xs ++ ys))) := rfl
theorem r_ocatT {x y : W} {Q : W → Prop} : (XO.catT.f x y Q) = (∃ xs ys, x = .tup xs ∧ y = .tup ys ∧ xs.length + ys.length ≤ 100000 ∧ Q (.tup (xs ++ ys))) := rfl
theorem r_oixL {x y : W} {Q : W → Prop} : (XO.ixL.f x y Q) = (∃ xs i w, x = .lst xs ∧ y = .int i ∧ atI xs i = some w ∧ Q w) := rfl
theorem r_oixT {x y : W} {Q : W → Prop} : (XO.ixT.f x y Q) = (∃ xs i w, x = .tup xs ∧ y = .int i ∧ atI xs i = some w ∧ Q w) := rfl
theorem r_oixA {x y : W} {Q : W → Prop} : (XO.ixA.f x y Q) = (∃ al i p, x = .arm al ∧ y = .int i ∧ atI al i = some p ∧ Q (.tup [.int p.1, .int p.2])) := rfl
theorem r_oeqS {x y : W} {Q : W → Prop} {n : Bool} : ((XO.eqS n).f x y Q) = ((∃ i j, x = .int i ∧ y = .int j ∧ Q (.bl (n ^^ decide (i = j)))) ∨ (∃ i j, x = .str i ∧ y = .str j ∧ Q (.bl (n ^^ decide (i = j)))) ∨ (∃ i j, x = .bl i ∧ y = .bl j ∧ Q (.bl (n ^^ decide (i = j))))) := rfl
theorem r_oeqD {x y : W} {Q : W → Prop} {n : Bool} : ((XO.eqD n).f x y Q) = ((x.sq = true ∧ y.sq = true ∧ Pl 60 x ∧ Pl 60 y ∧ Q (.bl (n ^^ decide (x = y)))) ∨ ∃ al bl, x = .arm al ∧ y = .arm bl ∧ Q (.bl (n ^^ decide (al = bl)))) := rfl
theorem r_oisN {x y : W} {Q : W → Prop} {n : Bool} : ((XO.isN n).f x y Q) = (y = .non ∧ x.kn = true ∧ Q (.bl (n ^^ decide (x = .non)))) := rfl
theorem r_oneg {x y : W} {Q : W → Prop} : (XU.neg.f x Q) = (∃ i, x = .int i ∧ Q (.int (-i))) := rfl
theorem r_uor {x y : W} {Q : W → Prop} {o o' : XU} : ((XU.or o o').f x Q) = (o.f x Q ∨ o'.f x Q) := rfl
theorem r_oownB {x y : W} {Q : W → Prop} {k : Bool} {F : XF} : ((XO.ownBin k F).f x y Q) = (x.is k ∧ y.is k ∧ F.f [x, y] Q) := rfl
theorem r_oownM {x y : W} {Q : W → Prop} {k : Bool} {F : XF} : ((XO.ownMul k F).f x y Q) = (x.is k ∧ (∃ n, y = .int n) ∧ F.f [x, y] Q) := rfl
theorem r_uownN {x y : W} {Q : W → Prop} {k : Bool} {F : XF} : ((XU.ownNeg k F).f x Q) = (x.is k ∧ F.f [x] Q) := rfl
theorem r_oownE {x y : W} {Q : W → Prop} {k : Bool} {F : XF} : ((XO.ownEq k F).f x y Q) = (x.is k ∧ y.eqr k ∧ F.f [x, y] Q) := rfl
theorem r_oownNe {x y : W} {Q : W → Prop} {k : Bool} {F : XF} : ((XO.ownNe k F).f x y Q) = (x.is k ∧ y.eqr k ∧ F.f [x, y] fun w => ∃ b, w = .bl b ∧ Q (.bl (!b))) := rfl
theorem r_nor {ws : List W} {Q : W → Prop} {o o' : XN} : ((XN.or o o').f ws Q) = (o.f ws Q ∨ o'.f ws Q) := rfl
theorem r_nlen {ws : List W} {Q : W → Prop} : (XN.len.f ws Q) = ((∃ xs, ws = [.lst xs] ∧ Q (.int xs.length)) ∨ (∃ xs, ws = [.tup xs] ∧ Q (.int xs.length)) ∨ (∃ al, ws = [.arm al] ∧ Q (.int al.length))) := rfl
theorem r_nii {ws : List W} {Q : W → Prop} {g : Int → Int → W} : ((XN.ii g).f ws Q) = (∃ i j, ws = [.int i, .int j] ∧ Q (g i j)) := rfl
theorem r_ni {ws : List W} {Q : W → Prop} {g : Int → W} : ((XN.i g).f ws Q) = (∃ i, ws = [.int i] ∧ Q (g i)) := rfl
theorem r_nsum {ws : List W} {Q : W → Prop} : (XN.sum.f ws Q) = (∃ ns : List Int, ws = [.lst (ns.map .int)] ∧ Q (.int ns.sum)) := rfl
theorem r_nminL {ws : List W} {Q : W → Prop} : (XN.minL.f ws Q) = (∃ ns : List Int, ws = [.lst (ns.map .int)] ∧ ns ≠ [] ∧ ∀ m, m ∈ ns → (∀ y ∈ ns, m ≤ y) → Q (.int m)) := rfl
theorem r_nmaxL {ws : List W} {Q : W → Prop} : (XN.maxL.f ws Q) = (∃ ns : List Int, ws = [.lst (ns.map .int)] ∧ ns ≠ [] ∧ ∀ m, m ∈ ns → (∀ y ∈ ns, y ≤ m) → Q (.int m)) := rfl
theorem r_nmaxT {ws : List W} {Q : W → Prop} : (XN.maxT.f ws Q) = (∃ ns : List Int, ws = [.tup (ns.map .int)] ∧ ns ≠ [] ∧ ∀ m, m ∈ ns → (∀ y ∈ ns, y ≤ m) → Q (.int m)) := rfl
theorem r_nall {ws : List W} {Q : W → Prop} : (XN.all.f ws Q) = (∃ bs : List Bool, ws = [.lst (bs.map .bl)] ∧ Q (.bl (bs.all id))) := rfl
theorem r_nint1 {ws : List W} {Q : W → Prop} : (XN.int1.f ws Q) = ((∃ i, ws = [.int i] ∧ Q (.int i)) ∨ ∃ b, ws = [.bl b] ∧ Q (.int (if b = true then 1 else 0))) := rfl
theorem r_nlist {ws : List W} {Q : W → Prop} : (XN.list.f ws Q) = ((∃ xs, ws = [.lst xs] ∧ Q (.lst xs)) ∨ (∃ xs, ws = [.tup xs] ∧ Q (.lst xs)) ∨ ∃ ns : List Int, ws = [.scr ns] ∧ Q (.lst (ns.map .int))) := rfl
theorem r_ntuple {ws : List W} {Q : W → Prop} : (XN.tuple.f ws Q) = ((∃ xs, ws = [.lst xs] ∧ Q (.tup xs)) ∨ (∃ xs, ws = [.tup xs] ∧ Q (.tup xs))) := rfl
theorem r_ntupF {ws : List W} {Q : W → Prop} : (XN.tupF.f ws Q) = (∃ al, ws = [.lst (arW al)] ∧ Q (.arm al)) := rfl
theorem r_nsorI {ws : List W} {Q : W → Prop} : (XN.sortedI.f ws Q) = (∃ ns : List Int, ws = [.lst (ns.map .int)] ∧ ∀ ys : List Int, ys.Perm ns → ys.Pairwise (· ≤ ·) → Q (.lst (ys.map .int))) := rfl
theorem r_nsorD {ws : List W} {Q : W → Prop} : (XN.sortedD.f ws Q) = (∃ al : List (Int × Int), ws = [.dct al] ∧ al.length < 64 ∧ ∀ ys : List Int, ys.Perm (al.map (·.1)) → ys.Pairwise (· ≤ ·) → Q (.lst (ys.map .int))) := rfl
theorem r_nisi {ws : List W} {Q : W → Prop} : (xIsi.f ws Q) = (∃ x n r, ws = [x, .ty n] ∧ x.isT (.ty n) = some r ∧ Q (.bl r)) := rfl
theorem r_nisC {ws : List W} {Q : W → Prop} {j : Bool} : ((xIsC j).f ws Q) = (∃ x r, ws = [x, .cls j] ∧ x.isT (.cls j) = some r ∧ Q (.bl r)) := rfl
theorem r_nown {ws : List W} {Q : W → Prop} {k : Bool} {F : XF} : ((XN.ownLen k F).f ws Q) = (∃ x, ws = [x] ∧ x.is k ∧ F.f [x] fun w => ∃ n : Nat, w = .int n ∧ n < 100000 ∧ Q (.int n)) := rfl
theorem r_asg {ρ : Sl} {Q : W → Prop} {a b d : XE} {ar : XA} {t u : XT} {φ : Fr} {κ : Ko} {x y : XS} {g : XG} : ((XS.asg g a).f φ κ) = (φ.off g.vs ∧ a.f φ.s fun w => g.f w φ.s fun s => κ.nx ⟨s, φ.m⟩) := rfl
theorem r_asgV {ρ : Sl} {Q : W → Prop} {a b d : XE} {ar : XA} {t u : XT} {φ : Fr} {κ : Ko} {x y : XS} {g : XG} : ((XS.asgV g a).f φ κ) = (φ.off g.vs ∧ a.f φ.rev fun w => w.flat = true ∧ g.f w φ.s fun s => κ.nx ⟨s, φ.m⟩) := rfl
theorem r_par {ρ : Sl} {Q : W → Prop} {a b d : XE} {ar : XA} {t u : XT} {φ : Fr} {κ : Ko} {x y : XS} {i j : Nat} : ((XS.par i j ar).f φ κ) = (φ.off [i, j] ∧ ar.f φ.s fun ws => ∃ u v, ws = [u, v] ∧ κ.nx ⟨(φ.s.set i (some u)).set j (some v), φ.m⟩) := rfl
theorem r_par3 {ρ : Sl} {Q : W → Prop} {a b d : XE} {ar : XA} {t u : XT} {φ : Fr} {κ : Ko} {x y : XS} {i j l : Nat} : ((XS.par3 i j l ar).f φ κ) = (φ.off [i, j, l] ∧ ar.f φ.s fun ws => ∃ u v w, ws = [u, v, w] ∧ κ.nx ⟨((φ.s.set i (some u)).set j (some v)).set l (some w), φ.m⟩) := rfl
theorem r_ret {ρ : Sl} {Q : W → Prop} {a b d : XE} {ar : XA} {t u : XT} {φ : Fr} {κ : Ko} {x y : XS} : ((XS.ret a).f φ κ) = (a.f φ.rev κ.rt) := rfl
theorem r_retN {ρ : Sl} {Q : W → Prop} {a b d : XE} {ar : XA} {t u : XT} {φ : Fr} {κ : Ko} {x y : XS} : (XS.retN.f φ κ) = (κ.rt .non) := rfl
theorem r_drop {ρ : Sl} {Q : W → Prop} {a b d : XE} {ar : XA} {t u : XT} {φ : Fr} {κ : Ko} {x y : XS} : ((XS.drop a).f φ κ) = (a.f φ.s fun _ => κ.nx φ) := rfl
theorem r_next {ρ : Sl} {Q : W → Prop} {a b d : XE} {ar : XA} {t u : XT} {φ : Fr} {κ : Ko} {x y : XS} : (XS.next.f φ κ) = (κ.nx φ) := rfl
theorem r_never {ρ : Sl} {Q : W → Prop} {a b d : XE} {ar : XA} {t u : XT} {φ : Fr} {κ : Ko} {x y : XS} : (XS.never.f φ κ) = (False) := rfl
theorem r_seq {ρ : Sl} {Q : W → Prop} {a b d : XE} {ar : XA} {t u : XT} {φ : Fr} {κ : Ko} {x y : XS} : ((XS.seq x y).f φ κ) = (x.f φ ⟨fun φ' => y.f φ' κ, κ.rt, κ.bk, κ.ct⟩) := rfl
theorem r_ifs {ρ : Sl} {Q : W → Prop} {a b d : XE} {ar : XA} {t u : XT} {φ : Fr} {κ : Ko} {x y : XS} : ((XS.ifs t x y).f φ κ) = (t.f φ.rev fun b => (b = true → x.f φ κ) ∧ (b = false → y.f φ κ)) := rfl
theorem r_frz {ρ : Sl} {Q : W → Prop} {a b d : XE} {ar : XA} {t u : XT} {φ : Fr} {κ : Ko} {x y : XS} : ((XS.frz x).f φ κ) = (x.f ⟨φ.rev, none⟩ κ) := rfl
theorem r_aug {ρ : Sl} {Q : W → Prop} {a b d : XE} {ar : XA} {t u : XT} {φ : Fr} {κ : Ko} {x y : XS} {i : Nat} {g : Int → Int → Int} : ((XS.aug i g a).f φ κ) = (φ.off [i] ∧ ∃ x, φ.s[i]? = some (some (.int x)) ∧ a.f φ.s fun w => ∃ n, w = .int n ∧ κ.nx ⟨φ.s.set i (some (.int (g x n))), φ.m⟩) := rfl
theorem r_for {ρ : Sl} {Q : W → Prop} {a b d : XE} {ar : XA} {t u : XT} {φ : Fr} {κ : Ko} {x y : XS} {it : XI} {g : XG} : ((XS.forr it g x).f φ κ) = (it.f φ.s fun ws => ForI ws g x φ κ) := rfl
theorem r_while {ρ : Sl} {Q : W → Prop} {a b d : XE} {ar : XA} {t u : XT} {φ : Fr} {κ : Ko} {x y : XS} : ((XS.whil t x).f φ κ) = (WhI t x φ κ) := rfl
theorem r_newL {ρ : Sl} {Q : W → Prop} {a b d : XE} {ar : XA} {t u : XT} {φ : Fr} {κ : Ko} {x y : XS} {i : Nat} : ((XS.newL i ar).f φ κ) = (φ.m = none ∧ i < φ.s.length ∧ ar.f φ.s fun ws => ws.length ≤ 100000 ∧ κ.nx ⟨φ.s.set i none, some (i, .lst ws)⟩) := rfl
theorem r_newD {ρ : Sl} {Q : W → Prop} {a b d : XE} {ar : XA} {t u : XT} {φ : Fr} {κ : Ko} {x y : XS} {i : Nat} : ((XS.newD i a).f φ κ) = (φ.m = none ∧ i < φ.s.length ∧ a.f φ.s fun w => ∃ al, w = .arm al ∧ (al.map (·.1)).Nodup ∧ κ.nx ⟨φ.s.set i none, some (i, .dct al)⟩) := rfl
theorem r_newD0 {ρ : Sl} {Q : W → Prop} {a b d : XE} {ar : XA} {t u : XT} {φ : Fr} {κ : Ko} {x y : XS} {i : Nat} : ((XS.newD0 i).f φ κ) = (φ.m = none ∧ i < φ.s.length ∧ κ.nx ⟨φ.s.set i none, some (i, .dct [])⟩) := rfl
theorem r_app {ρ : Sl} {Q : W → Prop} {a b d : XE} {ar : XA} {t u : XT} {φ : Fr} {κ : Ko} {x y : XS} {i : Nat} : ((XS.app i a).f φ κ) = (∃ xs, φ.m = some (i, .lst xs) ∧ xs.length < 100000 ∧ a.f φ.s fun w => κ.nx ⟨φ.s, some (i, .lst (xs ++ [w]))⟩) := rfl
theorem r_appV {ρ : Sl} {Q : W → Prop} {a b d : XE} {ar : XA} {t u : XT} {φ : Fr} {κ : Ko} {x y : XS} {i : Nat} : ((XS.appV i a).f φ κ) = (∃ xs, φ.m = some (i, .lst xs) ∧ xs.length < 100000 ∧ a.f φ.rev fun w => w.flat = true ∧ κ.nx ⟨φ.s, some (i, .lst (xs ++ [w]))⟩) := rfl
theorem r_dput {ρ : Sl} {Q : W → Prop} {a b d : XE} {ar : XA} {t u : XT} {φ : Fr} {κ : Ko} {x y : XS} {i j : Nat} : ((XS.dput i j a).f φ κ) = (∃ al x, φ.m = some (i, .dct al) ∧ φ.s[j]? = some (some (.int x)) ∧ al.length < 100000 ∧ a.f φ.s fun w => ∃ n, w = .int n ∧ κ.nx ⟨φ.s, some (i, .dct (putI al x (cf al x + n)))⟩) := rfl
theorem r_here {ρ : Sl} {Q : W → Prop} {a b d : XE} {ar : XA} {t u : XT} {φ : Fr} {κ : Ko} {x y : XS} {R : List W → List W → Prop} : ((XAN.here ar).f ρ R) = (ar.f ρ fun ws => R [] ws) := rfl
theorem r_ncons {ρ : Sl} {a : XE} {x : XAN} {R : List W → List W → Prop} : ((XAN.cons a x).f ρ R) = (a.f ρ fun w => x.f ρ fun p q => R (w :: p) q) := rfl
theorem r_parN {φ : Fr} {κ : Ko} {is : List Nat} {x : XAN} : ((XS.parN is x).f φ κ) = ((φ.m = none ∧ is.length ≤ 100000) ∧ is.Nodup ∧ (∀ i ∈ is, i < φ.s.length) ∧ x.f φ.s fun p q => is.length = p.length + 1 + q.length ∧ κ.nx ⟨setAll is (p.map some ++ none :: q.map some) φ.s, some (is.getD p.length 0, .lst [])⟩) := rfl
theorem r_revN {s : Sl} : (Fr.rev ⟨s, none⟩) = (s) := rfl
theorem r_revS {s : Sl} {i : Nat} {co : Co} : (Fr.rev ⟨s, some (i, co)⟩) = (s.set i (some co.w)) := rfl
theorem r_off {s : Sl} {m : Option (Nat × Co)} {is : List Nat} : (Fr.off ⟨s, m⟩ is) = (∀ p, m = some p → p.1 ∉ is) := rfl
theorem r_coL {xs : List W} : ((Co.lst xs).w) = (.lst xs) := rfl
theorem r_coD {al : List (Int × Int)} : ((Co.dct al).w) = (.dct al) := rfl
theorem r_wS0 {ρ : Sl} : (wS ρ []) = (ρ) := rfl
theorem r_wS1 {ρ : Sl} {i : Nat} {is : List Nat} : (wS ρ (i :: is)) = ((wS ρ is).set i none) := rfl
theorem r_sA {ρ : Sl} {i : Nat} {is : List Nat} {w : Option W} {ws : List (Option W)} : (setAll (i :: is) (w :: ws) ρ) = (setAll is ws (ρ.set i w)) := rfl
theorem r_isR {al : List (Int × Int)} : (W.is true (.rig al)) = (True) := rfl
theorem r_eqR {al : List (Int × Int)} : (W.eqr true (.rig al)) = (True) := rfl
theorem r_isM {ns : List Int} : (W.is false (.mem ns)) = (True) := rfl
theorem r_eqM {ns : List Int} : (W.eqr false (.mem ns)) = (True) := rfl
theorem r_eqTR {xs : List W} : (W.eqr true (.tup xs)) = (Pl 60 (.tup xs)) := rfl
theorem r_eqTM {xs : List W} : (W.eqr false (.tup xs)) = (Pl 60 (.tup xs)) := rfl
theorem r_sA0 {ρ : Sl} {ws : List (Option W)} : setAll [] ws ρ = ρ := by cases ws <;> rfl
theorem r_isRM {al : List (Int × Int)} : W.is false (.rig al) = False := rfl
theorem r_isMR {ns : List Int} : W.is true (.mem ns) = False := rfl
theorem r_isRT {xs : List W} : W.is true (.tup xs) = False := rfl
theorem r_isMT {xs : List W} : W.is false (.tup xs) = False := rfl
theorem r_isRL {xs : List W} : W.is true (.lst xs) = False := rfl
theorem r_isML {xs : List W} : W.is false (.lst xs) = False := rfl
theorem r_isRI {i : Int} : W.is true (.int i) = False := rfl
theorem r_isMI {i : Int} : W.is false (.int i) = False := rfl
theorem r_isRB {i : Bool} : W.is true (.bl i) = False := rfl
theorem r_isMB {i : Bool} : W.is false (.bl i) = False := rfl
theorem r_isRN : W.is true .non = False := rfl
theorem r_isMN : W.is false .non = False := rfl
theorem r_isRS {i : Str} : W.is true (.str i) = False := rfl
theorem r_isMS {i : Str} : W.is false (.str i) = False := rfl
theorem r_isRA {xs : List (Int × Int)} : W.is true (.arm xs) = False := rfl
theorem r_isMA {xs : List (Int × Int)} : W.is false (.arm xs) = False := rfl
theorem w_itL_non  : W.itL .non = (none) := rfl
theorem w_itT_non  : W.itT .non = (none) := rfl
theorem w_tru_non  : W.tru .non = (some false) := rfl
theorem w_flat_non  : W.flat .non = (true) := rfl
theorem w_kn_non  : W.kn .non = (true) := rfl
theorem w_sq_non  : W.sq .non = (false) := rfl
theorem w_itL_bl {b : Bool} : W.itL (.bl b) = (none) := rfl
theorem w_itT_bl {b : Bool} : W.itT (.bl b) = (none) := rfl
theorem w_tru_bl {b : Bool} : W.tru (.bl b) = (some b) := rfl
theorem w_flat_bl {b : Bool} : W.flat (.bl b) = (true) := rfl
theorem w_kn_bl {b : Bool} : W.kn (.bl b) = (true) := rfl
theorem w_sq_bl {b : Bool} : W.sq (.bl b) = (false) := rfl
theorem w_itL_int {i : Int} : W.itL (.int i) = (none) := rfl
theorem w_itT_int {i : Int} : W.itT (.int i) = (none) := rfl
theorem w_tru_int {i : Int} : W.tru (.int i) = (some (decide (i ≠ 0))) := rfl
theorem w_flat_int {i : Int} : W.flat (.int i) = (true) := rfl
theorem w_kn_int {i : Int} : W.kn (.int i) = (true) := rfl
theorem w_sq_int {i : Int} : W.sq (.int i) = (false) := rfl
theorem w_itL_str {s : Str} : W.itL (.str s) = (none) := rfl
theorem w_itT_str {s : Str} : W.itT (.str s) = (none) := rfl
theorem w_tru_str {s : Str} : W.tru (.str s) = (none) := rfl
theorem w_flat_str {s : Str} : W.flat (.str s) = (true) := rfl
theorem w_kn_str {s : Str} : W.kn (.str s) = (true) := rfl
theorem w_sq_str {s : Str} : W.sq (.str s) = (false) := rfl
theorem w_itL_lst {xs : List W} : W.itL (.lst xs) = (some xs) := rfl
theorem w_itT_lst {xs : List W} : W.itT (.lst xs) = (none) := rfl
theorem w_tru_lst {xs : List W} : W.tru (.lst xs) = (some (!xs.isEmpty)) := rfl
theorem w_flat_lst {xs : List W} : W.flat (.lst xs) = (false) := rfl
theorem w_kn_lst {xs : List W} : W.kn (.lst xs) = (true) := rfl
theorem w_sq_lst {xs : List W} : W.sq (.lst xs) = (true) := rfl
theorem w_itL_tup {xs : List W} : W.itL (.tup xs) = (none) := rfl
theorem w_itT_tup {xs : List W} : W.itT (.tup xs) = (some xs) := rfl
theorem w_tru_tup {xs : List W} : W.tru (.tup xs) = (some (!xs.isEmpty)) := rfl
theorem w_flat_tup {xs : List W} : W.flat (.tup xs) = (false) := rfl
theorem w_kn_tup {xs : List W} : W.kn (.tup xs) = (true) := rfl
theorem w_sq_tup {xs : List W} : W.sq (.tup xs) = (true) := rfl
theorem w_itL_rig {al : List (Int × Int)} : W.itL (.rig al) = (none) := rfl
theorem w_itT_rig {al : List (Int × Int)} : W.itT (.rig al) = (none) := rfl
theorem w_tru_rig {al : List (Int × Int)} : W.tru (.rig al) = (none) := rfl
theorem w_flat_rig {al : List (Int × Int)} : W.flat (.rig al) = (false) := rfl
theorem w_kn_rig {al : List (Int × Int)} : W.kn (.rig al) = (true) := rfl
theorem w_sq_rig {al : List (Int × Int)} : W.sq (.rig al) = (false) := rfl
theorem w_itL_arm {al : List (Int × Int)} : W.itL (.arm al) = (none) := rfl
theorem w_itT_arm {al : List (Int × Int)} : W.itT (.arm al) = (some (arW al)) := rfl
theorem w_tru_arm {al : List (Int × Int)} : W.tru (.arm al) = (some (!al.isEmpty)) := rfl
theorem w_flat_arm {al : List (Int × Int)} : W.flat (.arm al) = (false) := rfl
theorem w_kn_arm {al : List (Int × Int)} : W.kn (.arm al) = (true) := rfl
theorem w_sq_arm {al : List (Int × Int)} : W.sq (.arm al) = (false) := rfl
theorem w_itL_mem {ns : List Int} : W.itL (.mem ns) = (none) := rfl
theorem w_itT_mem {ns : List Int} : W.itT (.mem ns) = (none) := rfl
theorem w_tru_mem {ns : List Int} : W.tru (.mem ns) = (none) := rfl
theorem w_flat_mem {ns : List Int} : W.flat (.mem ns) = (false) := rfl
theorem w_kn_mem {ns : List Int} : W.kn (.mem ns) = (true) := rfl
theorem w_sq_mem {ns : List Int} : W.sq (.mem ns) = (false) := rfl
theorem w_itL_scr {ns : List Int} : W.itL (.scr ns) = (some (ns.map .int)) := rfl
theorem w_itT_scr {ns : List Int} : W.itT (.scr ns) = (none) := rfl
theorem w_tru_scr {ns : List Int} : W.tru (.scr ns) = (none) := rfl
theorem w_flat_scr {ns : List Int} : W.flat (.scr ns) = (false) := rfl
theorem w_kn_scr {ns : List Int} : W.kn (.scr ns) = (true) := rfl
theorem w_sq_scr {ns : List Int} : W.sq (.scr ns) = (false) := rfl
theorem w_itL_dct {al : List (Int × Int)} : W.itL (.dct al) = (none) := rfl
theorem w_itT_dct {al : List (Int × Int)} : W.itT (.dct al) = (none) := rfl
theorem w_tru_dct {al : List (Int × Int)} : W.tru (.dct al) = (none) := rfl
theorem w_flat_dct {al : List (Int × Int)} : W.flat (.dct al) = (false) := rfl
theorem w_kn_dct {al : List (Int × Int)} : W.kn (.dct al) = (true) := rfl
theorem w_sq_dct {al : List (Int × Int)} : W.sq (.dct al) = (false) := rfl
theorem w_itL_src  : W.itL .src = (none) := rfl
theorem w_itT_src  : W.itT .src = (none) := rfl
theorem w_tru_src  : W.tru .src = (none) := rfl
theorem w_flat_src  : W.flat .src = (false) := rfl
theorem w_kn_src  : W.kn .src = (true) := rfl
theorem w_sq_src  : W.sq .src = (false) := rfl
theorem is_N_int  : W.isT .non (.ty "int") = some false := (show L2.kitB "NoneType" "int" = some false by decide +kernel)
theorem is_N_bool  : W.isT .non (.ty "bool") = some false := (show L2.kitB "NoneType" "bool" = some false by decide +kernel)
theorem is_N_str  : W.isT .non (.ty "str") = some false := (show L2.kitB "NoneType" "str" = some false by decide +kernel)
theorem is_N_list  : W.isT .non (.ty "list") = some false := (show L2.kitB "NoneType" "list" = some false by decide +kernel)
theorem is_N_tuple  : W.isT .non (.ty "tuple") = some false := (show L2.kitB "NoneType" "tuple" = some false by decide +kernel)
theorem is_N_dict  : W.isT .non (.ty "dict") = some false := (show L2.kitB "NoneType" "dict" = some false by decide +kernel)
theorem is_B_int {b : Bool} : W.isT (.bl b) (.ty "int") = some true := (show L2.kitB "bool" "int" = some true by decide +kernel)
theorem is_B_bool {b : Bool} : W.isT (.bl b) (.ty "bool") = some true := (show L2.kitB "bool" "bool" = some true by decide +kernel)
theorem is_B_str {b : Bool} : W.isT (.bl b) (.ty "str") = some false := (show L2.kitB "bool" "str" = some false by decide +kernel)
theorem is_B_list {b : Bool} : W.isT (.bl b) (.ty "list") = some false := (show L2.kitB "bool" "list" = some false by decide +kernel)
theorem is_B_tuple {b : Bool} : W.isT (.bl b) (.ty "tuple") = some false := (show L2.kitB "bool" "tuple" = some false by decide +kernel)
theorem is_B_dict {b : Bool} : W.isT (.bl b) (.ty "dict") = some false := (show L2.kitB "bool" "dict" = some false by decide +kernel)
theorem is_I_int {i : Int} : W.isT (.int i) (.ty "int") = some true := (show L2.kitB "int" "int" = some true by decide +kernel)
theorem is_I_bool {i : Int} : W.isT (.int i) (.ty "bool") = some false := (show L2.kitB "int" "bool" = some false by decide +kernel)
theorem is_I_str {i : Int} : W.isT (.int i) (.ty "str") = some false := (show L2.kitB "int" "str" = some false by decide +kernel)
theorem is_I_list {i : Int} : W.isT (.int i) (.ty "list") = some false := (show L2.kitB "int" "list" = some false by decide +kernel)
theorem is_I_tuple {i : Int} : W.isT (.int i) (.ty "tuple") = some false := (show L2.kitB "int" "tuple" = some false by decide +kernel)
theorem is_I_dict {i : Int} : W.isT (.int i) (.ty "dict") = some false := (show L2.kitB "int" "dict" = some false by decide +kernel)
theorem is_S_int {s : Str} : W.isT (.str s) (.ty "int") = some false := (show L2.kitB "str" "int" = some false by decide +kernel)
theorem is_S_bool {s : Str} : W.isT (.str s) (.ty "bool") = some false := (show L2.kitB "str" "bool" = some false by decide +kernel)
theorem is_S_str {s : Str} : W.isT (.str s) (.ty "str") = some true := (show L2.kitB "str" "str" = some true by decide +kernel)
theorem is_S_list {s : Str} : W.isT (.str s) (.ty "list") = some false := (show L2.kitB "str" "list" = some false by decide +kernel)
theorem is_S_tuple {s : Str} : W.isT (.str s) (.ty "tuple") = some false := (show L2.kitB "str" "tuple" = some false by decide +kernel)
theorem is_S_dict {s : Str} : W.isT (.str s) (.ty "dict") = some false := (show L2.kitB "str" "dict" = some false by decide +kernel)
theorem is_L_int {xs : List W} : W.isT (.lst xs) (.ty "int") = some false := (show L2.kitB "list" "int" = some false by decide +kernel)
theorem is_L_bool {xs : List W} : W.isT (.lst xs) (.ty "bool") = some false := (show L2.kitB "list" "bool" = some false by decide +kernel)
theorem is_L_str {xs : List W} : W.isT (.lst xs) (.ty "str") = some false := (show L2.kitB "list" "str" = some false by decide +kernel)
theorem is_L_list {xs : List W} : W.isT (.lst xs) (.ty "list") = some true := (show L2.kitB "list" "list" = some true by decide +kernel)
theorem is_L_tuple {xs : List W} : W.isT (.lst xs) (.ty "tuple") = some false := (show L2.kitB "list" "tuple" = some false by decide +kernel)
theorem is_L_dict {xs : List W} : W.isT (.lst xs) (.ty "dict") = some false := (show L2.kitB "list" "dict" = some false by decide +kernel)
theorem is_T_int {xs : List W} : W.isT (.tup xs) (.ty "int") = some false := (show L2.kitB "tuple" "int" = some false by decide +kernel)
theorem is_T_bool {xs : List W} : W.isT (.tup xs) (.ty "bool") = some false := (show L2.kitB "tuple" "bool" = some false by decide +kernel)
theorem is_T_str {xs : List W} : W.isT (.tup xs) (.ty "str") = some false := (show L2.kitB "tuple" "str" = some false by decide +kernel)
theorem is_T_list {xs : List W} : W.isT (.tup xs) (.ty "list") = some false := (show L2.kitB "tuple" "list" = some false by decide +kernel)
theorem is_T_tuple {xs : List W} : W.isT (.tup xs) (.ty "tuple") = some true := (show L2.kitB "tuple" "tuple" = some true by decide +kernel)
theorem is_T_dict {xs : List W} : W.isT (.tup xs) (.ty "dict") = some false := (show L2.kitB "tuple" "dict" = some false by decide +kernel)
theorem is_rR {al : List (Int × Int)} : W.isT (.rig al) (.cls true) = some true := rfl
theorem is_tR {xs : List W} : W.isT (.tup xs) (.cls true) = some false := rfl
theorem is_mM {ns : List Int} : W.isT (.mem ns) (.cls false) = some true := rfl
theorem is_tM {xs : List W} : W.isT (.tup xs) (.cls false) = some false := rfl
/-! places of short tuples, names of trees -/
section
variable {α : Type _} {a b c d : α} {r : List α}
theorem r_at0 : atI (a :: r) 0 = some a := atI_nat (j := 0) rfl
theorem r_at1 : atI (a :: b :: r) 1 = some b := atI_nat (j := 1) rfl
theorem r_at2 : atI (a :: b :: c :: r) 2 = some c := atI_nat (j := 2) rfl
theorem r_at3 : atI (a :: b :: c :: d :: r) 3 = some d := atI_nat (j := 3) rfl
end
theorem tg01 : ((("rod" : Str) = "*") = False) := eq_false (by decide)
theorem tg02 : ((("rod" : Str) = "neg") = False) := eq_false (by decide)
theorem tg03 : ((("rod" : Str) = "+") = False) := eq_false (by decide)
theorem tg04 : ((("rod" : Str) = "-") = False) := eq_false (by decide)
theorem tg05 : ((("rod" : Str) = ">>") = False) := eq_false (by decide)
theorem tg10 : ((("*" : Str) = "rod") = False) := eq_false (by decide)
theorem tg12 : ((("*" : Str) = "neg") = False) := eq_false (by decide)
theorem tg13 : ((("*" : Str) = "+") = False) := eq_false (by decide)
theorem tg14 : ((("*" : Str) = "-") = False) := eq_false (by decide)
theorem tg15 : ((("*" : Str) = ">>") = False) := eq_false (by decide)
theorem tg20 : ((("neg" : Str) = "rod") = False) := eq_false (by decide)
theorem tg21 : ((("neg" : Str) = "*") = False) := eq_false (by decide)
theorem tg23 : ((("neg" : Str) = "+") = False) := eq_false (by decide)
theorem tg24 : ((("neg" : Str) = "-") = False) := eq_false (by decide)
theorem tg25 : ((("neg" : Str) = ">>") = False) := eq_false (by decide)
theorem tg30 : ((("+" : Str) = "rod") = False) := eq_false (by decide)
theorem tg31 : ((("+" : Str) = "*") = False) := eq_false (by decide)
theorem tg32 : ((("+" : Str) = "neg") = False) := eq_false (by decide)
theorem tg34 : ((("+" : Str) = "-") = False) := eq_false (by decide)
theorem tg35 : ((("+" : Str) = ">>") = False) := eq_false (by decide)
theorem tg40 : ((("-" : Str) = "rod") = False) := eq_false (by decide)
theorem tg41 : ((("-" : Str) = "*") = False) := eq_false (by decide)
theorem tg42 : ((("-" : Str) = "neg") = False) := eq_false (by decide)
theorem tg43 : ((("-" : Str) = "+") = False) := eq_false (by decide)
theorem tg45 : ((("-" : Str) = ">>") = False) := eq_false (by decide)
theorem tg50 : (((">>" : Str) = "rod") = False) := eq_false (by decide)
theorem tg51 : (((">>" : Str) = "*") = False) := eq_false (by decide)
theorem tg52 : (((">>" : Str) = "neg") = False) := eq_false (by decide)
theorem tg53 : (((">>" : Str) = "+") = False) := eq_false (by decide)
theorem tg54 : (((">>" : Str) = "-") = False) := eq_false (by decide)
/-! comprehensions and loops, the simple ones -/
section
variable {ws : List W} {g : XG} {t : XT} {e : XE} {ρ : Sl} {Q : W → Prop}
theorem comp_map (f : Nat → W) (hs : ∀ i w, ws[i]? = some w → g.f w ρ fun ρ' => t.f ρ' fun b => (b = true → e.f ρ' fun y => y = f i) ∧ (b = false → False)) (hd : Q (.lst ((List.range ws.length).map f))) : CompI ws g t e ρ Q := by
  refine ⟨fun i acc => acc = (List.range i).map f, rfl, fun i w acc hw ha => ?_, fun acc h => by rw [h]; exact hd⟩
  refine g.m (fun ρ' z => t.m (fun b y => ⟨fun hb => e.m (fun v hv => ?_) (y.1 hb), fun hb => (y.2 hb).elim⟩) z) (hs i w hw)
  have ha' : acc = (List.range i).map f := ha
  show acc ++ [v] = (List.range (i + 1)).map f
  rw [ha', hv, List.range_succ, List.map_append]; rfl
theorem comp_ints (f : Nat → Int) (hs : ∀ i w, ws[i]? = some w → g.f w ρ fun ρ' => t.f ρ' fun b => (b = true → e.f ρ' fun y => y = .int (f i)) ∧ (b = false → False)) (hd : Q (.lst (((List.range ws.length).map f).map .int))) : CompI ws g t e ρ Q :=
  comp_map (fun i => .int (f i)) hs (by rw [List.map_map] at hd; exact hd)
/-- some are left out -/
theorem comp_flt (p : Nat → Bool) (f : Nat → W) (hs : ∀ i w, ws[i]? = some w → g.f w ρ fun ρ' => t.f ρ' fun b => b = p i ∧ (b = true → e.f ρ' fun y => y = f i)) (hd : Q (.lst (((List.range ws.length).filter p).map f))) : CompI ws g t e ρ Q := by
  refine ⟨fun i acc => acc = ((List.range i).filter p).map f, rfl, fun i w acc hw ha => ?_, fun acc h => by rw [h]; exact hd⟩
  refine g.m (fun ρ' z => t.m (fun b y => ⟨fun hb => e.m (fun v hv => ?_) (y.2 hb), fun hb => ?_⟩) z) (hs i w hw)
  · have ha' : acc = ((List.range i).filter p).map f := ha
    show acc ++ [v] = ((List.range (i + 1)).filter p).map f
    rw [ha', hv, List.range_succ, List.filter_append, List.map_append]
    have : p i = true := by rw [← y.1, hb]
    simp [this]
  · have ha' : acc = ((List.range i).filter p).map f := ha
    show acc = ((List.range (i + 1)).filter p).map f
    rw [ha', List.range_succ, List.filter_append, List.map_append]
    have : p i = false := by rw [← y.1, hb]
    simp [this]
/-- over the values of a list -/
theorem comp_of {α : Type} (l : List α) (en : α → W) (f : α → W) (hs : ∀ (i : Nat) (x : α), l[i]? = some x → g.f (en x) ρ fun ρ' => t.f ρ' fun b => (b = true → e.f ρ' fun y => y = f x) ∧ (b = false → False)) (hd : Q (.lst (l.map f))) : CompI (l.map en) g t e ρ Q := by
  refine ⟨fun i acc => acc = (l.take i).map f, rfl, fun i w acc hw ha => ?_, fun acc h => by rw [h, List.length_map, List.take_length]; exact hd⟩
  rw [List.getElem?_map] at hw
  cases hx : l[i]? with
  | none => rw [hx] at hw; cases hw
  | some x =>
    rw [hx] at hw
    cases hw
    refine g.m (fun ρ' z => t.m (fun b y => ⟨fun hb => e.m (fun v hv => ?_) (y.1 hb), fun hb => (y.2 hb).elim⟩) z) (hs i x hx)
    have ha' : acc = (l.take i).map f := ha
    show acc ++ [v] = (l.take (i + 1)).map f
    rw [ha', hv, List.take_add_one, hx, List.map_append]; rfl
theorem comp_pf {α : Type} (l : List α) (en : α → W) (p : α → Bool) (f : α → W) (hs : ∀ (i : Nat) (x : α), l[i]? = some x → g.f (en x) ρ fun ρ' => t.f ρ' fun b => b = p x ∧ (b = true → e.f ρ' fun y => y = f x)) (hd : Q (.lst ((l.filter p).map f))) : CompI (l.map en) g t e ρ Q := by
  refine ⟨fun i acc => acc = ((l.take i).filter p).map f, rfl, fun i w acc hw ha => ?_, fun acc h => by rw [h, List.length_map, List.take_length]; exact hd⟩
  rw [List.getElem?_map] at hw
  cases hx : l[i]? with
  | none => rw [hx] at hw; cases hw
  | some x =>
    rw [hx] at hw
    cases hw
    refine g.m (fun ρ' z => t.m (fun b y => ⟨fun hb => e.m (fun v hv => ?_) (y.2 hb), fun hb => ?_⟩) z) (hs i x hx)
    · have ha' : acc = ((l.take i).filter p).map f := ha
      show acc ++ [v] = ((l.take (i + 1)).filter p).map f
      rw [ha', hv, List.take_add_one, hx, List.filter_append, List.map_append]
      have : p x = true := by rw [← y.1, hb]
      simp [this]
    · have ha' : acc = ((l.take i).filter p).map f := ha
      show acc = ((l.take (i + 1)).filter p).map f
      rw [ha', List.take_add_one, hx, List.filter_append, List.map_append]
      have : p x = false := by rw [← y.1, hb]
      simp [this]
theorem rgW_at {lo : Int} {n i : Nat} {w : W} (h : (rgW lo n)[i]? = some w) : i < n ∧ w = .int (lo + (i : Int)) := rgW_get h
theorem zipW_at {xs ys : List W} {i : Nat} {w : W} (h : (zipW xs ys)[i]? = some w) : ∃ x y, xs[i]? = some x ∧ ys[i]? = some y ∧ w = .tup [x, y] := by
  unfold zipW at h
  rw [List.getElem?_map] at h
  cases hz : (xs.zip ys)[i]? with
  | none => rw [hz] at h; cases h
  | some pr =>
    rw [hz] at h
    obtain ⟨a, b⟩ := List.getElem?_zip_eq_some.mp hz
    exact ⟨_, _, a, b, (Option.some.inj h).symm⟩
theorem zipW_len {xs ys : List W} : (zipW xs ys).length = min xs.length ys.length := by unfold zipW; rw [List.length_map, List.length_zip]
theorem enumW_at {xs : List W} {i : Nat} {w : W} (h : (enumW xs)[i]? = some w) : ∃ x, xs[i]? = some x ∧ w = .tup [.int (i : Int), x] := by
  unfold enumW at h
  rw [List.getElem?_map, List.getElem?_zipIdx] at h
  cases e : xs[i]? with
  | none => rw [e] at h; cases h
  | some x => rw [e] at h; refine ⟨x, rfl, ?_⟩; have := Option.some.inj h; simpa using this.symm
theorem enumW_len {xs : List W} : (enumW xs).length = xs.length := by unfold enumW; rw [List.length_map, List.length_zipIdx]
theorem mapW_at {ns : List Int} {i : Nat} {w : W} (h : (ns.map W.int)[i]? = some w) : ∃ x, ns[i]? = some x ∧ w = .int x := by
  rw [List.getElem?_map] at h
  cases e : ns[i]? with
  | none => rw [e] at h; cases h
  | some x => rw [e] at h; exact ⟨x, rfl, (Option.some.inj h).symm⟩
theorem arW_at {al : List (Int × Int)} {i : Nat} {w : W} (h : (arW al)[i]? = some w) : ∃ a, al[i]? = some a ∧ w = .tup [.int a.1, .int a.2] := by
  rw [List.getElem?_map] at h
  cases e : al[i]? with
  | none => rw [e] at h; cases h
  | some x => rw [e] at h; exact ⟨x, rfl, (Option.some.inj h).symm⟩
theorem map_range_getD (ns : List Int) : (List.range ns.length).map (fun i => ns.getD i 0) = ns := by
  apply List.ext_getElem?
  intro i
  rw [List.getElem?_map]
  by_cases h : i < ns.length
  · rw [List.getElem?_range h, List.getElem?_eq_getElem h]
    show some (ns.getD i 0) = _
    rw [List.getD_eq_getElem?_getD, List.getElem?_eq_getElem h]; rfl
  · rw [List.getElem?_eq_none (by rw [List.length_range]; omega), List.getElem?_eq_none (by omega)]; rfl
end

end Z

namespace Z
open PySem L2
/-! ### names from a list -/
def XG.lst (r : XGs) : XG := ⟨fun w ρ Q => ∃ xs, w = .lst xs ∧ r.f xs ρ Q, fun k ⟨xs, e, q⟩ => ⟨xs, e, r.m k q⟩, r.vs⟩
theorem eg_lst {K : PySem.W.Frag} {c : Cl} {gs : TGs} {xs : XGs} {n : Nat} (h : EGs K c gs xs) (hn : ∀ ws ρ Q, xs.f ws ρ Q → ws.length = n) : EG K c (gLst K n gs) (.lst xs) := fun w v σ h0 H ρ Q ⟨ws, e1, q⟩ nn e pv R k => by
  subst e1
  obtain ⟨p, us, rfl, s, z⟩ := (show (L K (W.ps K c ws)).p v h0 from pv)
  exact ⟨p, us, rfl, Evl.sq_of (e _ _ s), by rw [z.len, ps_len]; exact hn ws ρ Q q, h ws us σ h0 H ρ Q q nn e z R k⟩
/-! ### a run from the top down -/
theorem br {b : Bool} {X Y : Prop} : ((b = true → X) ∧ (b = false → Y)) = (if b = true then X else Y) := by cases b <;> simp
theorem br' {b : Bool} {X Y : Prop} : ((b = false → Y) ∧ (b = true → X)) = (if b = true then X else Y) := by cases b <;> simp
theorem ite_and {c : Prop} [Decidable c] {X Y : Prop} : (if c then X else Y) = ((c → X) ∧ (¬c → Y)) := by by_cases h : c <;> simp [h]
def onS (ρ : Sl) (i : Nat) (Q : W → Prop) : Prop := ∃ w, ρ[i]? = some (some w) ∧ Q w
def setC (ρ : Sl) (i : Nat) (o : Option W) (S : Sl → Prop) : Prop := S (ρ.set i o)
def on1 (ws : List W) (P : W → Prop) : Prop := ∃ x, ws = [x] ∧ P x
def on2 (ws : List W) (P : W → W → Prop) : Prop := ∃ x y, ws = [x, y] ∧ P x y
def on3 (ws : List W) (P : W → W → W → Prop) : Prop := ∃ x y z, ws = [x, y, z] ∧ P x y z
def onI (x : W) (P : Int → Prop) : Prop := ∃ i, x = .int i ∧ P i
def onB (x : W) (P : Bool → Prop) : Prop := ∃ i, x = .bl i ∧ P i
def onStr (x : W) (P : Str → Prop) : Prop := ∃ i, x = .str i ∧ P i
def onT (x : W) (P : List W → Prop) : Prop := ∃ i, x = .tup i ∧ P i
def onL (x : W) (P : List W → Prop) : Prop := ∃ i, x = .lst i ∧ P i
def onA (x : W) (P : List (Int × Int) → Prop) : Prop := ∃ i, x = .arm i ∧ P i
def onR (x : W) (P : List (Int × Int) → Prop) : Prop := ∃ i, x = .rig i ∧ P i
def onM (x : W) (P : List Int → Prop) : Prop := ∃ i, x = .mem i ∧ P i
def onD (x : W) (P : List (Int × Int) → Prop) : Prop := ∃ i, x = .dct i ∧ P i
def onScr (x : W) (P : List Int → Prop) : Prop := ∃ i, x = .scr i ∧ P i
def onTy (x : W) (P : String → Prop) : Prop := ∃ i, x = .ty i ∧ P i
def onIs (x : W) (P : List Int → Prop) : Prop := ∃ ns : List Int, x = .lst (ns.map .int) ∧ P ns
def onIsT (x : W) (P : List Int → Prop) : Prop := ∃ ns : List Int, x = .tup (ns.map .int) ∧ P ns
def onAr (x : W) (P : List (Int × Int) → Prop) : Prop := ∃ al, x = .lst (arW al) ∧ P al
def onAt (xs : List W) (i : Int) (Q : W → Prop) : Prop := ∃ w, atI xs i = some w ∧ Q w
def sqC (x : W) (P : Prop) : Prop := x.sq = true ∧ P
def flC (x : W) (P : Prop) : Prop := x.flat = true ∧ P
def isC (k : Bool) (x : W) (P : Prop) : Prop := x.is k ∧ P
def eqC (k : Bool) (x : W) (P : Prop) : Prop := x.eqr k ∧ P
def itLC (x : W) (P : List W → Prop) : Prop := ∃ xs, x.itL = some xs ∧ P xs
def itTC (x : W) (P : List W → Prop) : Prop := ∃ xs, x.itT = some xs ∧ P xs
def truC (x : W) (P : Bool → Prop) : Prop := ∃ b, x.tru = some b ∧ P b
def isTC (x t : W) (P : Bool → Prop) : Prop := ∃ r, x.isT t = some r ∧ P r
def wipeC (ρ : Sl) (vs : List Nat) (S : Sl → Prop) : Prop := S (wS ρ vs)
def setPC : List Nat → List W → List W → Sl → (Sl → Nat → Prop) → Prop
  | i :: is, w :: p, q, s, S => setC s i (some w) fun s' => setPC is p q s' S
  | i :: is, [], q, s, S => setC s i none fun s' => setQC is q s' fun s'' => S s'' i
  | [], _, _, s, S => S s 0
where setQC : List Nat → List W → Sl → (Sl → Prop) → Prop
  | i :: is, w :: q, s, S => setC s i (some w) fun s' => setQC is q s' S
  | _, _, s, S => S s

theorem onS_0 {ρ : Sl} {Q : W → Prop} {w : W} : (onS (some w :: ρ) 0 Q) = (Q w) := propext ⟨fun ⟨u, e, q⟩ => by cases e; exact q, fun q => ⟨w, rfl, q⟩⟩
theorem onS_n {ρ : Sl} {Q : W → Prop} : (onS (none :: ρ) 0 Q) = (False) := propext ⟨fun ⟨u, e, q⟩ => (by cases e), False.elim⟩
theorem onS_s {ρ : Sl} {Q : W → Prop} {o : Option W} {i : Nat} : (onS (o :: ρ) (i + 1) Q) = (onS ρ i Q) := rfl
theorem setC_0 {ρ : Sl} {S : Sl → Prop} {o u : Option W} : (setC (u :: ρ) 0 o S) = (S (o :: ρ)) := rfl
theorem setC_s {ρ : Sl} {S : Sl → Prop} {o u : Option W} {i : Nat} : (setC (u :: ρ) (i + 1) o S) = (setC ρ i o fun ρ' => S (u :: ρ')) := rfl
theorem on1_c {P : W → Prop} {a : W} : (on1 [a] P) = (P a) := propext ⟨fun ⟨x, e, p⟩ => (by cases e; exact p), fun p => ⟨a, rfl, p⟩⟩
theorem on2_c {P : W → W → Prop} {a b : W} : (on2 [a, b] P) = (P a b) := propext ⟨fun ⟨x, y, e, p⟩ => (by cases e; exact p), fun p => ⟨a, b, rfl, p⟩⟩
theorem on3_c {P : W → W → W → Prop} {a b c : W} : (on3 [a, b, c] P) = (P a b c) := propext ⟨fun ⟨x, y, z, e, p⟩ => (by cases e; exact p), fun p => ⟨a, b, c, rfl, p⟩⟩
theorem on1_2 {P : W → Prop} {a b : W} {r : List W} : (on1 (a :: b :: r) P) = (False) := propext ⟨fun ⟨x, e, p⟩ => (by cases e), False.elim⟩
theorem on2_1 {P : W → W → Prop} {a : W} : (on2 [a] P) = (False) := propext ⟨fun ⟨x, y, e, p⟩ => (by cases e), False.elim⟩
theorem onI_non  {P : Int → Prop} : (onI (.non) P) = (False) := propext ⟨fun ⟨x, e, p⟩ => (by cases e), False.elim⟩
theorem onI_bl {b : Bool} {P : Int → Prop} : (onI (.bl b) P) = (False) := propext ⟨fun ⟨x, e, p⟩ => (by cases e), False.elim⟩
theorem onI_int {i : Int} {P : Int → Prop} : (onI (.int i) P) = (P i) := propext ⟨fun ⟨x, e, p⟩ => (by cases e; exact p), fun p => ⟨_, rfl, p⟩⟩
theorem onI_str {s : Str} {P : Int → Prop} : (onI (.str s) P) = (False) := propext ⟨fun ⟨x, e, p⟩ => (by cases e), False.elim⟩
theorem onI_lst {xs : List W} {P : Int → Prop} : (onI (.lst xs) P) = (False) := propext ⟨fun ⟨x, e, p⟩ => (by cases e), False.elim⟩
theorem onI_tup {xs : List W} {P : Int → Prop} : (onI (.tup xs) P) = (False) := propext ⟨fun ⟨x, e, p⟩ => (by cases e), False.elim⟩
theorem onI_rig {al : List (Int × Int)} {P : Int → Prop} : (onI (.rig al) P) = (False) := propext ⟨fun ⟨x, e, p⟩ => (by cases e), False.elim⟩
theorem onI_arm {al : List (Int × Int)} {P : Int → Prop} : (onI (.arm al) P) = (False) := propext ⟨fun ⟨x, e, p⟩ => (by cases e), False.elim⟩
theorem onI_mem {ns : List Int} {P : Int → Prop} : (onI (.mem ns) P) = (False) := propext ⟨fun ⟨x, e, p⟩ => (by cases e), False.elim⟩
theorem onI_scr {ns : List Int} {P : Int → Prop} : (onI (.scr ns) P) = (False) := propext ⟨fun ⟨x, e, p⟩ => (by cases e), False.elim⟩
theorem onI_dct {al : List (Int × Int)} {P : Int → Prop} : (onI (.dct al) P) = (False) := propext ⟨fun ⟨x, e, p⟩ => (by cases e), False.elim⟩
theorem onI_src  {P : Int → Prop} : (onI (.src) P) = (False) := propext ⟨fun ⟨x, e, p⟩ => (by cases e), False.elim⟩
theorem onB_non  {P : Bool → Prop} : (onB (.non) P) = (False) := propext ⟨fun ⟨x, e, p⟩ => (by cases e), False.elim⟩
theorem onB_bl {b : Bool} {P : Bool → Prop} : (onB (.bl b) P) = (P b) := propext ⟨fun ⟨x, e, p⟩ => (by cases e; exact p), fun p => ⟨_, rfl, p⟩⟩
theorem onB_int {i : Int} {P : Bool → Prop} : (onB (.int i) P) = (False) := propext ⟨fun ⟨x, e, p⟩ => (by cases e), False.elim⟩
theorem onB_str {s : Str} {P : Bool → Prop} : (onB (.str s) P) = (False) := propext ⟨fun ⟨x, e, p⟩ => (by cases e), False.elim⟩
theorem onB_lst {xs : List W} {P : Bool → Prop} : (onB (.lst xs) P) = (False) := propext ⟨fun ⟨x, e, p⟩ => (by cases e), False.elim⟩
theorem onB_tup {xs : List W} {P : Bool → Prop} : (onB (.tup xs) P) = (False) := propext ⟨fun ⟨x, e, p⟩ => (by cases e), False.elim⟩
theorem onB_rig {al : List (Int × Int)} {P : Bool → Prop} : (onB (.rig al) P) = (False) := propext ⟨fun ⟨x, e, p⟩ => (by cases e), False.elim⟩
theorem onB_arm {al : List (Int × Int)} {P : Bool → Prop} : (onB (.arm al) P) = (False) := propext ⟨fun ⟨x, e, p⟩ => (by cases e), False.elim⟩
theorem onB_mem {ns : List Int} {P : Bool → Prop} : (onB (.mem ns) P) = (False) := propext ⟨fun ⟨x, e, p⟩ => (by cases e), False.elim⟩
theorem onB_scr {ns : List Int} {P : Bool → Prop} : (onB (.scr ns) P) = (False) := propext ⟨fun ⟨x, e, p⟩ => (by cases e), False.elim⟩
theorem onB_dct {al : List (Int × Int)} {P : Bool → Prop} : (onB (.dct al) P) = (False) := propext ⟨fun ⟨x, e, p⟩ => (by cases e), False.elim⟩
theorem onB_src  {P : Bool → Prop} : (onB (.src) P) = (False) := propext ⟨fun ⟨x, e, p⟩ => (by cases e), False.elim⟩
theorem onStr_non  {P : Str → Prop} : (onStr (.non) P) = (False) := propext ⟨fun ⟨x, e, p⟩ => (by cases e), False.elim⟩
theorem onStr_bl {b : Bool} {P : Str → Prop} : (onStr (.bl b) P) = (False) := propext ⟨fun ⟨x, e, p⟩ => (by cases e), False.elim⟩
theorem onStr_int {i : Int} {P : Str → Prop} : (onStr (.int i) P) = (False) := propext ⟨fun ⟨x, e, p⟩ => (by cases e), False.elim⟩
theorem onStr_str {s : Str} {P : Str → Prop} : (onStr (.str s) P) = (P s) := propext ⟨fun ⟨x, e, p⟩ => (by cases e; exact p), fun p => ⟨_, rfl, p⟩⟩
theorem onStr_lst {xs : List W} {P : Str → Prop} : (onStr (.lst xs) P) = (False) := propext ⟨fun ⟨x, e, p⟩ => (by cases e), False.elim⟩
theorem onStr_tup {xs : List W} {P : Str → Prop} : (onStr (.tup xs) P) = (False) := propext ⟨fun ⟨x, e, p⟩ => (by cases e), False.elim⟩
theorem onStr_rig {al : List (Int × Int)} {P : Str → Prop} : (onStr (.rig al) P) = (False) := propext ⟨fun ⟨x, e, p⟩ => (by cases e), False.elim⟩
theorem onStr_arm {al : List (Int × Int)} {P : Str → Prop} : (onStr (.arm al) P) = (False) := propext ⟨fun ⟨x, e, p⟩ => (by cases e), False.elim⟩
theorem onStr_mem {ns : List Int} {P : Str → Prop} : (onStr (.mem ns) P) = (False) := propext ⟨fun ⟨x, e, p⟩ => (by cases e), False.elim⟩
theorem onStr_scr {ns : List Int} {P : Str → Prop} : (onStr (.scr ns) P) = (False) := propext ⟨fun ⟨x, e, p⟩ => (by cases e), False.elim⟩
theorem onStr_dct {al : List (Int × Int)} {P : Str → Prop} : (onStr (.dct al) P) = (False) := propext ⟨fun ⟨x, e, p⟩ => (by cases e), False.elim⟩
theorem onStr_src  {P : Str → Prop} : (onStr (.src) P) = (False) := propext ⟨fun ⟨x, e, p⟩ => (by cases e), False.elim⟩
theorem onT_non  {P : List W → Prop} : (onT (.non) P) = (False) := propext ⟨fun ⟨x, e, p⟩ => (by cases e), False.elim⟩
theorem onT_bl {b : Bool} {P : List W → Prop} : (onT (.bl b) P) = (False) := propext ⟨fun ⟨x, e, p⟩ => (by cases e), False.elim⟩
theorem onT_int {i : Int} {P : List W → Prop} : (onT (.int i) P) = (False) := propext ⟨fun ⟨x, e, p⟩ => (by cases e), False.elim⟩
theorem onT_str {s : Str} {P : List W → Prop} : (onT (.str s) P) = (False) := propext ⟨fun ⟨x, e, p⟩ => (by cases e), False.elim⟩
theorem onT_lst {xs : List W} {P : List W → Prop} : (onT (.lst xs) P) = (False) := propext ⟨fun ⟨x, e, p⟩ => (by cases e), False.elim⟩
theorem onT_tup {xs : List W} {P : List W → Prop} : (onT (.tup xs) P) = (P xs) := propext ⟨fun ⟨x, e, p⟩ => (by cases e; exact p), fun p => ⟨_, rfl, p⟩⟩
theorem onT_rig {al : List (Int × Int)} {P : List W → Prop} : (onT (.rig al) P) = (False) := propext ⟨fun ⟨x, e, p⟩ => (by cases e), False.elim⟩
theorem onT_arm {al : List (Int × Int)} {P : List W → Prop} : (onT (.arm al) P) = (False) := propext ⟨fun ⟨x, e, p⟩ => (by cases e), False.elim⟩
theorem onT_mem {ns : List Int} {P : List W → Prop} : (onT (.mem ns) P) = (False) := propext ⟨fun ⟨x, e, p⟩ => (by cases e), False.elim⟩
theorem onT_scr {ns : List Int} {P : List W → Prop} : (onT (.scr ns) P) = (False) := propext ⟨fun ⟨x, e, p⟩ => (by cases e), False.elim⟩
theorem onT_dct {al : List (Int × Int)} {P : List W → Prop} : (onT (.dct al) P) = (False) := propext ⟨fun ⟨x, e, p⟩ => (by cases e), False.elim⟩
theorem onT_src  {P : List W → Prop} : (onT (.src) P) = (False) := propext ⟨fun ⟨x, e, p⟩ => (by cases e), False.elim⟩
theorem onL_non  {P : List W → Prop} : (onL (.non) P) = (False) := propext ⟨fun ⟨x, e, p⟩ => (by cases e), False.elim⟩
theorem onL_bl {b : Bool} {P : List W → Prop} : (onL (.bl b) P) = (False) := propext ⟨fun ⟨x, e, p⟩ => (by cases e), False.elim⟩
theorem onL_int {i : Int} {P : List W → Prop} : (onL (.int i) P) = (False) := propext ⟨fun ⟨x, e, p⟩ => (by cases e), False.elim⟩
theorem onL_str {s : Str} {P : List W → Prop} : (onL (.str s) P) = (False) := propext ⟨fun ⟨x, e, p⟩ => (by cases e), False.elim⟩
theorem onL_lst {xs : List W} {P : List W → Prop} : (onL (.lst xs) P) = (P xs) := propext ⟨fun ⟨x, e, p⟩ => (by cases e; exact p), fun p => ⟨_, rfl, p⟩⟩
theorem onL_tup {xs : List W} {P : List W → Prop} : (onL (.tup xs) P) = (False) := propext ⟨fun ⟨x, e, p⟩ => (by cases e), False.elim⟩
theorem onL_rig {al : List (Int × Int)} {P : List W → Prop} : (onL (.rig al) P) = (False) := propext ⟨fun ⟨x, e, p⟩ => (by cases e), False.elim⟩
theorem onL_arm {al : List (Int × Int)} {P : List W → Prop} : (onL (.arm al) P) = (False) := propext ⟨fun ⟨x, e, p⟩ => (by cases e), False.elim⟩
theorem onL_mem {ns : List Int} {P : List W → Prop} : (onL (.mem ns) P) = (False) := propext ⟨fun ⟨x, e, p⟩ => (by cases e), False.elim⟩
theorem onL_scr {ns : List Int} {P : List W → Prop} : (onL (.scr ns) P) = (False) := propext ⟨fun ⟨x, e, p⟩ => (by cases e), False.elim⟩
theorem onL_dct {al : List (Int × Int)} {P : List W → Prop} : (onL (.dct al) P) = (False) := propext ⟨fun ⟨x, e, p⟩ => (by cases e), False.elim⟩
theorem onL_src  {P : List W → Prop} : (onL (.src) P) = (False) := propext ⟨fun ⟨x, e, p⟩ => (by cases e), False.elim⟩
theorem onA_non  {P : List (Int × Int) → Prop} : (onA (.non) P) = (False) := propext ⟨fun ⟨x, e, p⟩ => (by cases e), False.elim⟩
theorem onA_bl {b : Bool} {P : List (Int × Int) → Prop} : (onA (.bl b) P) = (False) := propext ⟨fun ⟨x, e, p⟩ => (by cases e), False.elim⟩
theorem onA_int {i : Int} {P : List (Int × Int) → Prop} : (onA (.int i) P) = (False) := propext ⟨fun ⟨x, e, p⟩ => (by cases e), False.elim⟩
theorem onA_str {s : Str} {P : List (Int × Int) → Prop} : (onA (.str s) P) = (False) := propext ⟨fun ⟨x, e, p⟩ => (by cases e), False.elim⟩
theorem onA_lst {xs : List W} {P : List (Int × Int) → Prop} : (onA (.lst xs) P) = (False) := propext ⟨fun ⟨x, e, p⟩ => (by cases e), False.elim⟩
theorem onA_tup {xs : List W} {P : List (Int × Int) → Prop} : (onA (.tup xs) P) = (False) := propext ⟨fun ⟨x, e, p⟩ => (by cases e), False.elim⟩
theorem onA_rig {al : List (Int × Int)} {P : List (Int × Int) → Prop} : (onA (.rig al) P) = (False) := propext ⟨fun ⟨x, e, p⟩ => (by cases e), False.elim⟩
theorem onA_arm {al : List (Int × Int)} {P : List (Int × Int) → Prop} : (onA (.arm al) P) = (P al) := propext ⟨fun ⟨x, e, p⟩ => (by cases e; exact p), fun p => ⟨_, rfl, p⟩⟩
theorem onA_mem {ns : List Int} {P : List (Int × Int) → Prop} : (onA (.mem ns) P) = (False) := propext ⟨fun ⟨x, e, p⟩ => (by cases e), False.elim⟩
theorem onA_scr {ns : List Int} {P : List (Int × Int) → Prop} : (onA (.scr ns) P) = (False) := propext ⟨fun ⟨x, e, p⟩ => (by cases e), False.elim⟩
theorem onA_dct {al : List (Int × Int)} {P : List (Int × Int) → Prop} : (onA (.dct al) P) = (False) := propext ⟨fun ⟨x, e, p⟩ => (by cases e), False.elim⟩
theorem onA_src  {P : List (Int × Int) → Prop} : (onA (.src) P) = (False) := propext ⟨fun ⟨x, e, p⟩ => (by cases e), False.elim⟩
theorem onR_non  {P : List (Int × Int) → Prop} : (onR (.non) P) = (False) := propext ⟨fun ⟨x, e, p⟩ => (by cases e), False.elim⟩
theorem onR_bl {b : Bool} {P : List (Int × Int) → Prop} : (onR (.bl b) P) = (False) := propext ⟨fun ⟨x, e, p⟩ => (by cases e), False.elim⟩
theorem onR_int {i : Int} {P : List (Int × Int) → Prop} : (onR (.int i) P) = (False) := propext ⟨fun ⟨x, e, p⟩ => (by cases e), False.elim⟩
theorem onR_str {s : Str} {P : List (Int × Int) → Prop} : (onR (.str s) P) = (False) := propext ⟨fun ⟨x, e, p⟩ => (by cases e), False.elim⟩
theorem onR_lst {xs : List W} {P : List (Int × Int) → Prop} : (onR (.lst xs) P) = (False) := propext ⟨fun ⟨x, e, p⟩ => (by cases e), False.elim⟩
theorem onR_tup {xs : List W} {P : List (Int × Int) → Prop} : (onR (.tup xs) P) = (False) := propext ⟨fun ⟨x, e, p⟩ => (by cases e), False.elim⟩
theorem onR_rig {al : List (Int × Int)} {P : List (Int × Int) → Prop} : (onR (.rig al) P) = (P al) := propext ⟨fun ⟨x, e, p⟩ => (by cases e; exact p), fun p => ⟨_, rfl, p⟩⟩
theorem onR_arm {al : List (Int × Int)} {P : List (Int × Int) → Prop} : (onR (.arm al) P) = (False) := propext ⟨fun ⟨x, e, p⟩ => (by cases e), False.elim⟩
theorem onR_mem {ns : List Int} {P : List (Int × Int) → Prop} : (onR (.mem ns) P) = (False) := propext ⟨fun ⟨x, e, p⟩ => (by cases e), False.elim⟩
theorem onR_scr {ns : List Int} {P : List (Int × Int) → Prop} : (onR (.scr ns) P) = (False) := propext ⟨fun ⟨x, e, p⟩ => (by cases e), False.elim⟩
theorem onR_dct {al : List (Int × Int)} {P : List (Int × Int) → Prop} : (onR (.dct al) P) = (False) := propext ⟨fun ⟨x, e, p⟩ => (by cases e), False.elim⟩
theorem onR_src  {P : List (Int × Int) → Prop} : (onR (.src) P) = (False) := propext ⟨fun ⟨x, e, p⟩ => (by cases e), False.elim⟩
theorem onM_non  {P : List Int → Prop} : (onM (.non) P) = (False) := propext ⟨fun ⟨x, e, p⟩ => (by cases e), False.elim⟩
theorem onM_bl {b : Bool} {P : List Int → Prop} : (onM (.bl b) P) = (False) := propext ⟨fun ⟨x, e, p⟩ => (by cases e), False.elim⟩
theorem onM_int {i : Int} {P : List Int → Prop} : (onM (.int i) P) = (False) := propext ⟨fun ⟨x, e, p⟩ => (by cases e), False.elim⟩
theorem onM_str {s : Str} {P : List Int → Prop} : (onM (.str s) P) = (False) := propext ⟨fun ⟨x, e, p⟩ => (by cases e), False.elim⟩
theorem onM_lst {xs : List W} {P : List Int → Prop} : (onM (.lst xs) P) = (False) := propext ⟨fun ⟨x, e, p⟩ => (by cases e), False.elim⟩
theorem onM_tup {xs : List W} {P : List Int → Prop} : (onM (.tup xs) P) = (False) := propext ⟨fun ⟨x, e, p⟩ => (by cases e), False.elim⟩
theorem onM_rig {al : List (Int × Int)} {P : List Int → Prop} : (onM (.rig al) P) = (False) := propext ⟨fun ⟨x, e, p⟩ => (by cases e), False.elim⟩
theorem onM_arm {al : List (Int × Int)} {P : List Int → Prop} : (onM (.arm al) P) = (False) := propext ⟨fun ⟨x, e, p⟩ => (by cases e), False.elim⟩
theorem onM_mem {ns : List Int} {P : List Int → Prop} : (onM (.mem ns) P) = (P ns) := propext ⟨fun ⟨x, e, p⟩ => (by cases e; exact p), fun p => ⟨_, rfl, p⟩⟩
theorem onM_scr {ns : List Int} {P : List Int → Prop} : (onM (.scr ns) P) = (False) := propext ⟨fun ⟨x, e, p⟩ => (by cases e), False.elim⟩
theorem onM_dct {al : List (Int × Int)} {P : List Int → Prop} : (onM (.dct al) P) = (False) := propext ⟨fun ⟨x, e, p⟩ => (by cases e), False.elim⟩
theorem onM_src  {P : List Int → Prop} : (onM (.src) P) = (False) := propext ⟨fun ⟨x, e, p⟩ => (by cases e), False.elim⟩
theorem onD_non  {P : List (Int × Int) → Prop} : (onD (.non) P) = (False) := propext ⟨fun ⟨x, e, p⟩ => (by cases e), False.elim⟩
theorem onD_bl {b : Bool} {P : List (Int × Int) → Prop} : (onD (.bl b) P) = (False) := propext ⟨fun ⟨x, e, p⟩ => (by cases e), False.elim⟩
theorem onD_int {i : Int} {P : List (Int × Int) → Prop} : (onD (.int i) P) = (False) := propext ⟨fun ⟨x, e, p⟩ => (by cases e), False.elim⟩
theorem onD_str {s : Str} {P : List (Int × Int) → Prop} : (onD (.str s) P) = (False) := propext ⟨fun ⟨x, e, p⟩ => (by cases e), False.elim⟩
theorem onD_lst {xs : List W} {P : List (Int × Int) → Prop} : (onD (.lst xs) P) = (False) := propext ⟨fun ⟨x, e, p⟩ => (by cases e), False.elim⟩
theorem onD_tup {xs : List W} {P : List (Int × Int) → Prop} : (onD (.tup xs) P) = (False) := propext ⟨fun ⟨x, e, p⟩ => (by cases e), False.elim⟩
theorem onD_rig {al : List (Int × Int)} {P : List (Int × Int) → Prop} : (onD (.rig al) P) = (False) := propext ⟨fun ⟨x, e, p⟩ => (by cases e), False.elim⟩
theorem onD_arm {al : List (Int × Int)} {P : List (Int × Int) → Prop} : (onD (.arm al) P) = (False) := propext ⟨fun ⟨x, e, p⟩ => (by cases e), False.elim⟩
theorem onD_mem {ns : List Int} {P : List (Int × Int) → Prop} : (onD (.mem ns) P) = (False) := propext ⟨fun ⟨x, e, p⟩ => (by cases e), False.elim⟩
theorem onD_scr {ns : List Int} {P : List (Int × Int) → Prop} : (onD (.scr ns) P) = (False) := propext ⟨fun ⟨x, e, p⟩ => (by cases e), False.elim⟩
theorem onD_dct {al : List (Int × Int)} {P : List (Int × Int) → Prop} : (onD (.dct al) P) = (P al) := propext ⟨fun ⟨x, e, p⟩ => (by cases e; exact p), fun p => ⟨_, rfl, p⟩⟩
theorem onD_src  {P : List (Int × Int) → Prop} : (onD (.src) P) = (False) := propext ⟨fun ⟨x, e, p⟩ => (by cases e), False.elim⟩
theorem onScr_non  {P : List Int → Prop} : (onScr (.non) P) = (False) := propext ⟨fun ⟨x, e, p⟩ => (by cases e), False.elim⟩
theorem onScr_bl {b : Bool} {P : List Int → Prop} : (onScr (.bl b) P) = (False) := propext ⟨fun ⟨x, e, p⟩ => (by cases e), False.elim⟩
theorem onScr_int {i : Int} {P : List Int → Prop} : (onScr (.int i) P) = (False) := propext ⟨fun ⟨x, e, p⟩ => (by cases e), False.elim⟩
theorem onScr_str {s : Str} {P : List Int → Prop} : (onScr (.str s) P) = (False) := propext ⟨fun ⟨x, e, p⟩ => (by cases e), False.elim⟩
theorem onScr_lst {xs : List W} {P : List Int → Prop} : (onScr (.lst xs) P) = (False) := propext ⟨fun ⟨x, e, p⟩ => (by cases e), False.elim⟩
theorem onScr_tup {xs : List W} {P : List Int → Prop} : (onScr (.tup xs) P) = (False) := propext ⟨fun ⟨x, e, p⟩ => (by cases e), False.elim⟩
theorem onScr_rig {al : List (Int × Int)} {P : List Int → Prop} : (onScr (.rig al) P) = (False) := propext ⟨fun ⟨x, e, p⟩ => (by cases e), False.elim⟩
theorem onScr_arm {al : List (Int × Int)} {P : List Int → Prop} : (onScr (.arm al) P) = (False) := propext ⟨fun ⟨x, e, p⟩ => (by cases e), False.elim⟩
theorem onScr_mem {ns : List Int} {P : List Int → Prop} : (onScr (.mem ns) P) = (False) := propext ⟨fun ⟨x, e, p⟩ => (by cases e), False.elim⟩
theorem onScr_scr {ns : List Int} {P : List Int → Prop} : (onScr (.scr ns) P) = (P ns) := propext ⟨fun ⟨x, e, p⟩ => (by cases e; exact p), fun p => ⟨_, rfl, p⟩⟩
theorem onScr_dct {al : List (Int × Int)} {P : List Int → Prop} : (onScr (.dct al) P) = (False) := propext ⟨fun ⟨x, e, p⟩ => (by cases e), False.elim⟩
theorem onScr_src  {P : List Int → Prop} : (onScr (.src) P) = (False) := propext ⟨fun ⟨x, e, p⟩ => (by cases e), False.elim⟩
theorem onIs_non  {P : List Int → Prop} : (onIs (.non) P) = (False) := propext ⟨fun ⟨x, e, p⟩ => (by cases e), False.elim⟩
theorem onAr_non  {P : List (Int × Int) → Prop} : (onAr (.non) P) = (False) := propext ⟨fun ⟨x, e, p⟩ => (by cases e), False.elim⟩
theorem onIsT_non  {P : List Int → Prop} : (onIsT (.non) P) = (False) := propext ⟨fun ⟨x, e, p⟩ => (by cases e), False.elim⟩
theorem itLC_non  {P : List W → Prop} : (itLC (.non) P) = (False) := propext ⟨fun ⟨x, e, p⟩ => (by cases e), False.elim⟩
theorem itTC_non  {P : List W → Prop} : (itTC (.non) P) = (False) := propext ⟨fun ⟨x, e, p⟩ => (by cases e), False.elim⟩
theorem truC_non  {P : Bool → Prop} : (truC (.non) P) = (P false) := propext ⟨fun ⟨x, e, p⟩ => (by cases e; exact p), fun p => ⟨_, rfl, p⟩⟩
theorem sqC_non  {P : Prop} : (sqC (.non) P) = (False) := propext ⟨fun p => (by cases p.1), False.elim⟩
theorem flC_non  {P : Prop} : (flC (.non) P) = (P) := propext ⟨fun p => p.2, fun p => ⟨rfl, p⟩⟩
theorem isC_true_non  {P : Prop} : (isC true (.non) P) = (False) := propext ⟨fun p => p.1.elim, False.elim⟩
theorem eqC_true_non  {P : Prop} : (eqC true (.non) P) = (False) := propext ⟨fun p => p.1.elim, False.elim⟩
theorem isC_false_non  {P : Prop} : (isC false (.non) P) = (False) := propext ⟨fun p => p.1.elim, False.elim⟩
theorem eqC_false_non  {P : Prop} : (eqC false (.non) P) = (False) := propext ⟨fun p => p.1.elim, False.elim⟩
theorem onIs_bl {b : Bool} {P : List Int → Prop} : (onIs (.bl b) P) = (False) := propext ⟨fun ⟨x, e, p⟩ => (by cases e), False.elim⟩
theorem onAr_bl {b : Bool} {P : List (Int × Int) → Prop} : (onAr (.bl b) P) = (False) := propext ⟨fun ⟨x, e, p⟩ => (by cases e), False.elim⟩
theorem onIsT_bl {b : Bool} {P : List Int → Prop} : (onIsT (.bl b) P) = (False) := propext ⟨fun ⟨x, e, p⟩ => (by cases e), False.elim⟩
theorem itLC_bl {b : Bool} {P : List W → Prop} : (itLC (.bl b) P) = (False) := propext ⟨fun ⟨x, e, p⟩ => (by cases e), False.elim⟩
theorem itTC_bl {b : Bool} {P : List W → Prop} : (itTC (.bl b) P) = (False) := propext ⟨fun ⟨x, e, p⟩ => (by cases e), False.elim⟩
theorem truC_bl {b : Bool} {P : Bool → Prop} : (truC (.bl b) P) = (P b) := propext ⟨fun ⟨x, e, p⟩ => (by cases e; exact p), fun p => ⟨_, rfl, p⟩⟩
theorem sqC_bl {b : Bool} {P : Prop} : (sqC (.bl b) P) = (False) := propext ⟨fun p => (by cases p.1), False.elim⟩
theorem flC_bl {b : Bool} {P : Prop} : (flC (.bl b) P) = (P) := propext ⟨fun p => p.2, fun p => ⟨rfl, p⟩⟩
theorem isC_true_bl {b : Bool} {P : Prop} : (isC true (.bl b) P) = (False) := propext ⟨fun p => p.1.elim, False.elim⟩
theorem eqC_true_bl {b : Bool} {P : Prop} : (eqC true (.bl b) P) = (False) := propext ⟨fun p => p.1.elim, False.elim⟩
theorem isC_false_bl {b : Bool} {P : Prop} : (isC false (.bl b) P) = (False) := propext ⟨fun p => p.1.elim, False.elim⟩
theorem eqC_false_bl {b : Bool} {P : Prop} : (eqC false (.bl b) P) = (False) := propext ⟨fun p => p.1.elim, False.elim⟩
theorem onIs_int {i : Int} {P : List Int → Prop} : (onIs (.int i) P) = (False) := propext ⟨fun ⟨x, e, p⟩ => (by cases e), False.elim⟩
theorem onAr_int {i : Int} {P : List (Int × Int) → Prop} : (onAr (.int i) P) = (False) := propext ⟨fun ⟨x, e, p⟩ => (by cases e), False.elim⟩
theorem onIsT_int {i : Int} {P : List Int → Prop} : (onIsT (.int i) P) = (False) := propext ⟨fun ⟨x, e, p⟩ => (by cases e), False.elim⟩
theorem itLC_int {i : Int} {P : List W → Prop} : (itLC (.int i) P) = (False) := propext ⟨fun ⟨x, e, p⟩ => (by cases e), False.elim⟩
theorem itTC_int {i : Int} {P : List W → Prop} : (itTC (.int i) P) = (False) := propext ⟨fun ⟨x, e, p⟩ => (by cases e), False.elim⟩
theorem truC_int {i : Int} {P : Bool → Prop} : (truC (.int i) P) = (P (decide (i ≠ 0))) := propext ⟨fun ⟨x, e, p⟩ => (by cases e; exact p), fun p => ⟨_, rfl, p⟩⟩
theorem sqC_int {i : Int} {P : Prop} : (sqC (.int i) P) = (False) := propext ⟨fun p => (by cases p.1), False.elim⟩
theorem flC_int {i : Int} {P : Prop} : (flC (.int i) P) = (P) := propext ⟨fun p => p.2, fun p => ⟨rfl, p⟩⟩
theorem isC_true_int {i : Int} {P : Prop} : (isC true (.int i) P) = (False) := propext ⟨fun p => p.1.elim, False.elim⟩
theorem eqC_true_int {i : Int} {P : Prop} : (eqC true (.int i) P) = (False) := propext ⟨fun p => p.1.elim, False.elim⟩
theorem isC_false_int {i : Int} {P : Prop} : (isC false (.int i) P) = (False) := propext ⟨fun p => p.1.elim, False.elim⟩
theorem eqC_false_int {i : Int} {P : Prop} : (eqC false (.int i) P) = (False) := propext ⟨fun p => p.1.elim, False.elim⟩
theorem onIs_str {s : Str} {P : List Int → Prop} : (onIs (.str s) P) = (False) := propext ⟨fun ⟨x, e, p⟩ => (by cases e), False.elim⟩
theorem onAr_str {s : Str} {P : List (Int × Int) → Prop} : (onAr (.str s) P) = (False) := propext ⟨fun ⟨x, e, p⟩ => (by cases e), False.elim⟩
theorem onIsT_str {s : Str} {P : List Int → Prop} : (onIsT (.str s) P) = (False) := propext ⟨fun ⟨x, e, p⟩ => (by cases e), False.elim⟩
theorem itLC_str {s : Str} {P : List W → Prop} : (itLC (.str s) P) = (False) := propext ⟨fun ⟨x, e, p⟩ => (by cases e), False.elim⟩
theorem itTC_str {s : Str} {P : List W → Prop} : (itTC (.str s) P) = (False) := propext ⟨fun ⟨x, e, p⟩ => (by cases e), False.elim⟩
theorem truC_str {s : Str} {P : Bool → Prop} : (truC (.str s) P) = (False) := propext ⟨fun ⟨x, e, p⟩ => (by cases e), False.elim⟩
theorem sqC_str {s : Str} {P : Prop} : (sqC (.str s) P) = (False) := propext ⟨fun p => (by cases p.1), False.elim⟩
theorem flC_str {s : Str} {P : Prop} : (flC (.str s) P) = (P) := propext ⟨fun p => p.2, fun p => ⟨rfl, p⟩⟩
theorem isC_true_str {s : Str} {P : Prop} : (isC true (.str s) P) = (False) := propext ⟨fun p => p.1.elim, False.elim⟩
theorem eqC_true_str {s : Str} {P : Prop} : (eqC true (.str s) P) = (False) := propext ⟨fun p => p.1.elim, False.elim⟩
theorem isC_false_str {s : Str} {P : Prop} : (isC false (.str s) P) = (False) := propext ⟨fun p => p.1.elim, False.elim⟩
theorem eqC_false_str {s : Str} {P : Prop} : (eqC false (.str s) P) = (False) := propext ⟨fun p => p.1.elim, False.elim⟩
theorem onIsT_lst {xs : List W} {P : List Int → Prop} : (onIsT (.lst xs) P) = (False) := propext ⟨fun ⟨x, e, p⟩ => (by cases e), False.elim⟩
theorem itLC_lst {xs : List W} {P : List W → Prop} : (itLC (.lst xs) P) = (P xs) := propext ⟨fun ⟨x, e, p⟩ => (by cases e; exact p), fun p => ⟨_, rfl, p⟩⟩
theorem itTC_lst {xs : List W} {P : List W → Prop} : (itTC (.lst xs) P) = (False) := propext ⟨fun ⟨x, e, p⟩ => (by cases e), False.elim⟩
theorem truC_lst {xs : List W} {P : Bool → Prop} : (truC (.lst xs) P) = (P (!xs.isEmpty)) := propext ⟨fun ⟨x, e, p⟩ => (by cases e; exact p), fun p => ⟨_, rfl, p⟩⟩
theorem sqC_lst {xs : List W} {P : Prop} : (sqC (.lst xs) P) = (P) := propext ⟨fun p => p.2, fun p => ⟨rfl, p⟩⟩
theorem flC_lst {xs : List W} {P : Prop} : (flC (.lst xs) P) = (False) := propext ⟨fun p => (by cases p.1), False.elim⟩
theorem isC_true_lst {xs : List W} {P : Prop} : (isC true (.lst xs) P) = (False) := propext ⟨fun p => p.1.elim, False.elim⟩
theorem eqC_true_lst {xs : List W} {P : Prop} : (eqC true (.lst xs) P) = (False) := propext ⟨fun p => p.1.elim, False.elim⟩
theorem isC_false_lst {xs : List W} {P : Prop} : (isC false (.lst xs) P) = (False) := propext ⟨fun p => p.1.elim, False.elim⟩
theorem eqC_false_lst {xs : List W} {P : Prop} : (eqC false (.lst xs) P) = (False) := propext ⟨fun p => p.1.elim, False.elim⟩
theorem onIs_tup {xs : List W} {P : List Int → Prop} : (onIs (.tup xs) P) = (False) := propext ⟨fun ⟨x, e, p⟩ => (by cases e), False.elim⟩
theorem onAr_tup {xs : List W} {P : List (Int × Int) → Prop} : (onAr (.tup xs) P) = (False) := propext ⟨fun ⟨x, e, p⟩ => (by cases e), False.elim⟩
theorem itLC_tup {xs : List W} {P : List W → Prop} : (itLC (.tup xs) P) = (False) := propext ⟨fun ⟨x, e, p⟩ => (by cases e), False.elim⟩
theorem itTC_tup {xs : List W} {P : List W → Prop} : (itTC (.tup xs) P) = (P xs) := propext ⟨fun ⟨x, e, p⟩ => (by cases e; exact p), fun p => ⟨_, rfl, p⟩⟩
theorem truC_tup {xs : List W} {P : Bool → Prop} : (truC (.tup xs) P) = (P (!xs.isEmpty)) := propext ⟨fun ⟨x, e, p⟩ => (by cases e; exact p), fun p => ⟨_, rfl, p⟩⟩
theorem sqC_tup {xs : List W} {P : Prop} : (sqC (.tup xs) P) = (P) := propext ⟨fun p => p.2, fun p => ⟨rfl, p⟩⟩
theorem flC_tup {xs : List W} {P : Prop} : (flC (.tup xs) P) = (False) := propext ⟨fun p => (by cases p.1), False.elim⟩
theorem isC_true_tup {xs : List W} {P : Prop} : (isC true (.tup xs) P) = (False) := propext ⟨fun p => p.1.elim, False.elim⟩
theorem isC_false_tup {xs : List W} {P : Prop} : (isC false (.tup xs) P) = (False) := propext ⟨fun p => p.1.elim, False.elim⟩
theorem onIs_rig {al : List (Int × Int)} {P : List Int → Prop} : (onIs (.rig al) P) = (False) := propext ⟨fun ⟨x, e, p⟩ => (by cases e), False.elim⟩
theorem onAr_rig {al : List (Int × Int)} {P : List (Int × Int) → Prop} : (onAr (.rig al) P) = (False) := propext ⟨fun ⟨x, e, p⟩ => (by cases e), False.elim⟩
theorem onIsT_rig {al : List (Int × Int)} {P : List Int → Prop} : (onIsT (.rig al) P) = (False) := propext ⟨fun ⟨x, e, p⟩ => (by cases e), False.elim⟩
theorem itLC_rig {al : List (Int × Int)} {P : List W → Prop} : (itLC (.rig al) P) = (False) := propext ⟨fun ⟨x, e, p⟩ => (by cases e), False.elim⟩
theorem itTC_rig {al : List (Int × Int)} {P : List W → Prop} : (itTC (.rig al) P) = (False) := propext ⟨fun ⟨x, e, p⟩ => (by cases e), False.elim⟩
theorem truC_rig {al : List (Int × Int)} {P : Bool → Prop} : (truC (.rig al) P) = (False) := propext ⟨fun ⟨x, e, p⟩ => (by cases e), False.elim⟩
theorem sqC_rig {al : List (Int × Int)} {P : Prop} : (sqC (.rig al) P) = (False) := propext ⟨fun p => (by cases p.1), False.elim⟩
theorem flC_rig {al : List (Int × Int)} {P : Prop} : (flC (.rig al) P) = (False) := propext ⟨fun p => (by cases p.1), False.elim⟩
theorem isC_true_rig {al : List (Int × Int)} {P : Prop} : (isC true (.rig al) P) = (P) := propext ⟨fun p => p.2, fun p => ⟨trivial, p⟩⟩
theorem eqC_true_rig {al : List (Int × Int)} {P : Prop} : (eqC true (.rig al) P) = (P) := propext ⟨fun p => p.2, fun p => ⟨trivial, p⟩⟩
theorem isC_false_rig {al : List (Int × Int)} {P : Prop} : (isC false (.rig al) P) = (False) := propext ⟨fun p => p.1.elim, False.elim⟩
theorem eqC_false_rig {al : List (Int × Int)} {P : Prop} : (eqC false (.rig al) P) = (False) := propext ⟨fun p => p.1.elim, False.elim⟩
theorem onIs_arm {al : List (Int × Int)} {P : List Int → Prop} : (onIs (.arm al) P) = (False) := propext ⟨fun ⟨x, e, p⟩ => (by cases e), False.elim⟩
theorem onAr_arm {al : List (Int × Int)} {P : List (Int × Int) → Prop} : (onAr (.arm al) P) = (False) := propext ⟨fun ⟨x, e, p⟩ => (by cases e), False.elim⟩
theorem onIsT_arm {al : List (Int × Int)} {P : List Int → Prop} : (onIsT (.arm al) P) = (False) := propext ⟨fun ⟨x, e, p⟩ => (by cases e), False.elim⟩
theorem itLC_arm {al : List (Int × Int)} {P : List W → Prop} : (itLC (.arm al) P) = (False) := propext ⟨fun ⟨x, e, p⟩ => (by cases e), False.elim⟩
theorem itTC_arm {al : List (Int × Int)} {P : List W → Prop} : (itTC (.arm al) P) = (P (arW al)) := propext ⟨fun ⟨x, e, p⟩ => (by cases e; exact p), fun p => ⟨_, rfl, p⟩⟩
theorem truC_arm {al : List (Int × Int)} {P : Bool → Prop} : (truC (.arm al) P) = (P (!al.isEmpty)) := propext ⟨fun ⟨x, e, p⟩ => (by cases e; exact p), fun p => ⟨_, rfl, p⟩⟩
theorem sqC_arm {al : List (Int × Int)} {P : Prop} : (sqC (.arm al) P) = (False) := propext ⟨fun p => (by cases p.1), False.elim⟩
theorem flC_arm {al : List (Int × Int)} {P : Prop} : (flC (.arm al) P) = (False) := propext ⟨fun p => (by cases p.1), False.elim⟩
theorem isC_true_arm {al : List (Int × Int)} {P : Prop} : (isC true (.arm al) P) = (False) := propext ⟨fun p => p.1.elim, False.elim⟩
theorem eqC_true_arm {al : List (Int × Int)} {P : Prop} : (eqC true (.arm al) P) = (False) := propext ⟨fun p => p.1.elim, False.elim⟩
theorem isC_false_arm {al : List (Int × Int)} {P : Prop} : (isC false (.arm al) P) = (False) := propext ⟨fun p => p.1.elim, False.elim⟩
theorem eqC_false_arm {al : List (Int × Int)} {P : Prop} : (eqC false (.arm al) P) = (False) := propext ⟨fun p => p.1.elim, False.elim⟩
theorem onIs_mem {ns : List Int} {P : List Int → Prop} : (onIs (.mem ns) P) = (False) := propext ⟨fun ⟨x, e, p⟩ => (by cases e), False.elim⟩
theorem onAr_mem {ns : List Int} {P : List (Int × Int) → Prop} : (onAr (.mem ns) P) = (False) := propext ⟨fun ⟨x, e, p⟩ => (by cases e), False.elim⟩
theorem onIsT_mem {ns : List Int} {P : List Int → Prop} : (onIsT (.mem ns) P) = (False) := propext ⟨fun ⟨x, e, p⟩ => (by cases e), False.elim⟩
theorem itLC_mem {ns : List Int} {P : List W → Prop} : (itLC (.mem ns) P) = (False) := propext ⟨fun ⟨x, e, p⟩ => (by cases e), False.elim⟩
theorem itTC_mem {ns : List Int} {P : List W → Prop} : (itTC (.mem ns) P) = (False) := propext ⟨fun ⟨x, e, p⟩ => (by cases e), False.elim⟩
theorem truC_mem {ns : List Int} {P : Bool → Prop} : (truC (.mem ns) P) = (False) := propext ⟨fun ⟨x, e, p⟩ => (by cases e), False.elim⟩
theorem sqC_mem {ns : List Int} {P : Prop} : (sqC (.mem ns) P) = (False) := propext ⟨fun p => (by cases p.1), False.elim⟩
theorem flC_mem {ns : List Int} {P : Prop} : (flC (.mem ns) P) = (False) := propext ⟨fun p => (by cases p.1), False.elim⟩
theorem isC_true_mem {ns : List Int} {P : Prop} : (isC true (.mem ns) P) = (False) := propext ⟨fun p => p.1.elim, False.elim⟩
theorem eqC_true_mem {ns : List Int} {P : Prop} : (eqC true (.mem ns) P) = (False) := propext ⟨fun p => p.1.elim, False.elim⟩
theorem isC_false_mem {ns : List Int} {P : Prop} : (isC false (.mem ns) P) = (P) := propext ⟨fun p => p.2, fun p => ⟨trivial, p⟩⟩
theorem eqC_false_mem {ns : List Int} {P : Prop} : (eqC false (.mem ns) P) = (P) := propext ⟨fun p => p.2, fun p => ⟨trivial, p⟩⟩
theorem onIs_scr {ns : List Int} {P : List Int → Prop} : (onIs (.scr ns) P) = (False) := propext ⟨fun ⟨x, e, p⟩ => (by cases e), False.elim⟩
theorem onAr_scr {ns : List Int} {P : List (Int × Int) → Prop} : (onAr (.scr ns) P) = (False) := propext ⟨fun ⟨x, e, p⟩ => (by cases e), False.elim⟩
theorem onIsT_scr {ns : List Int} {P : List Int → Prop} : (onIsT (.scr ns) P) = (False) := propext ⟨fun ⟨x, e, p⟩ => (by cases e), False.elim⟩
theorem itLC_scr {ns : List Int} {P : List W → Prop} : (itLC (.scr ns) P) = (P (ns.map .int)) := propext ⟨fun ⟨x, e, p⟩ => (by cases e; exact p), fun p => ⟨_, rfl, p⟩⟩
theorem itTC_scr {ns : List Int} {P : List W → Prop} : (itTC (.scr ns) P) = (False) := propext ⟨fun ⟨x, e, p⟩ => (by cases e), False.elim⟩
theorem truC_scr {ns : List Int} {P : Bool → Prop} : (truC (.scr ns) P) = (False) := propext ⟨fun ⟨x, e, p⟩ => (by cases e), False.elim⟩
theorem sqC_scr {ns : List Int} {P : Prop} : (sqC (.scr ns) P) = (False) := propext ⟨fun p => (by cases p.1), False.elim⟩
theorem flC_scr {ns : List Int} {P : Prop} : (flC (.scr ns) P) = (False) := propext ⟨fun p => (by cases p.1), False.elim⟩
theorem isC_true_scr {ns : List Int} {P : Prop} : (isC true (.scr ns) P) = (False) := propext ⟨fun p => p.1.elim, False.elim⟩
theorem eqC_true_scr {ns : List Int} {P : Prop} : (eqC true (.scr ns) P) = (False) := propext ⟨fun p => p.1.elim, False.elim⟩
theorem isC_false_scr {ns : List Int} {P : Prop} : (isC false (.scr ns) P) = (False) := propext ⟨fun p => p.1.elim, False.elim⟩
theorem eqC_false_scr {ns : List Int} {P : Prop} : (eqC false (.scr ns) P) = (False) := propext ⟨fun p => p.1.elim, False.elim⟩
theorem onIs_dct {al : List (Int × Int)} {P : List Int → Prop} : (onIs (.dct al) P) = (False) := propext ⟨fun ⟨x, e, p⟩ => (by cases e), False.elim⟩
theorem onAr_dct {al : List (Int × Int)} {P : List (Int × Int) → Prop} : (onAr (.dct al) P) = (False) := propext ⟨fun ⟨x, e, p⟩ => (by cases e), False.elim⟩
theorem onIsT_dct {al : List (Int × Int)} {P : List Int → Prop} : (onIsT (.dct al) P) = (False) := propext ⟨fun ⟨x, e, p⟩ => (by cases e), False.elim⟩
theorem itLC_dct {al : List (Int × Int)} {P : List W → Prop} : (itLC (.dct al) P) = (False) := propext ⟨fun ⟨x, e, p⟩ => (by cases e), False.elim⟩
theorem itTC_dct {al : List (Int × Int)} {P : List W → Prop} : (itTC (.dct al) P) = (False) := propext ⟨fun ⟨x, e, p⟩ => (by cases e), False.elim⟩
theorem truC_dct {al : List (Int × Int)} {P : Bool → Prop} : (truC (.dct al) P) = (False) := propext ⟨fun ⟨x, e, p⟩ => (by cases e), False.elim⟩
theorem sqC_dct {al : List (Int × Int)} {P : Prop} : (sqC (.dct al) P) = (False) := propext ⟨fun p => (by cases p.1), False.elim⟩
theorem flC_dct {al : List (Int × Int)} {P : Prop} : (flC (.dct al) P) = (False) := propext ⟨fun p => (by cases p.1), False.elim⟩
theorem isC_true_dct {al : List (Int × Int)} {P : Prop} : (isC true (.dct al) P) = (False) := propext ⟨fun p => p.1.elim, False.elim⟩
theorem eqC_true_dct {al : List (Int × Int)} {P : Prop} : (eqC true (.dct al) P) = (False) := propext ⟨fun p => p.1.elim, False.elim⟩
theorem isC_false_dct {al : List (Int × Int)} {P : Prop} : (isC false (.dct al) P) = (False) := propext ⟨fun p => p.1.elim, False.elim⟩
theorem eqC_false_dct {al : List (Int × Int)} {P : Prop} : (eqC false (.dct al) P) = (False) := propext ⟨fun p => p.1.elim, False.elim⟩
theorem onIs_src  {P : List Int → Prop} : (onIs (.src) P) = (False) := propext ⟨fun ⟨x, e, p⟩ => (by cases e), False.elim⟩
theorem onAr_src  {P : List (Int × Int) → Prop} : (onAr (.src) P) = (False) := propext ⟨fun ⟨x, e, p⟩ => (by cases e), False.elim⟩
theorem onIsT_src  {P : List Int → Prop} : (onIsT (.src) P) = (False) := propext ⟨fun ⟨x, e, p⟩ => (by cases e), False.elim⟩
theorem itLC_src  {P : List W → Prop} : (itLC (.src) P) = (False) := propext ⟨fun ⟨x, e, p⟩ => (by cases e), False.elim⟩
theorem itTC_src  {P : List W → Prop} : (itTC (.src) P) = (False) := propext ⟨fun ⟨x, e, p⟩ => (by cases e), False.elim⟩
theorem truC_src  {P : Bool → Prop} : (truC (.src) P) = (False) := propext ⟨fun ⟨x, e, p⟩ => (by cases e), False.elim⟩
theorem sqC_src  {P : Prop} : (sqC (.src) P) = (False) := propext ⟨fun p => (by cases p.1), False.elim⟩
theorem flC_src  {P : Prop} : (flC (.src) P) = (False) := propext ⟨fun p => (by cases p.1), False.elim⟩
theorem isC_true_src  {P : Prop} : (isC true (.src) P) = (False) := propext ⟨fun p => p.1.elim, False.elim⟩
theorem eqC_true_src  {P : Prop} : (eqC true (.src) P) = (False) := propext ⟨fun p => p.1.elim, False.elim⟩
theorem isC_false_src  {P : Prop} : (isC false (.src) P) = (False) := propext ⟨fun p => p.1.elim, False.elim⟩
theorem eqC_false_src  {P : Prop} : (eqC false (.src) P) = (False) := propext ⟨fun p => p.1.elim, False.elim⟩
theorem isTC_non_int  {P : Bool → Prop} : (isTC (.non) (.ty "int") P) = (P false) := propext ⟨fun ⟨x, e, p⟩ => by rw [is_N_int] at e; cases e; exact p, fun p => ⟨_, is_N_int, p⟩⟩
theorem isTC_non_bool  {P : Bool → Prop} : (isTC (.non) (.ty "bool") P) = (P false) := propext ⟨fun ⟨x, e, p⟩ => by rw [is_N_bool] at e; cases e; exact p, fun p => ⟨_, is_N_bool, p⟩⟩
theorem isTC_non_str  {P : Bool → Prop} : (isTC (.non) (.ty "str") P) = (P false) := propext ⟨fun ⟨x, e, p⟩ => by rw [is_N_str] at e; cases e; exact p, fun p => ⟨_, is_N_str, p⟩⟩
theorem isTC_non_list  {P : Bool → Prop} : (isTC (.non) (.ty "list") P) = (P false) := propext ⟨fun ⟨x, e, p⟩ => by rw [is_N_list] at e; cases e; exact p, fun p => ⟨_, is_N_list, p⟩⟩
theorem isTC_non_tuple  {P : Bool → Prop} : (isTC (.non) (.ty "tuple") P) = (P false) := propext ⟨fun ⟨x, e, p⟩ => by rw [is_N_tuple] at e; cases e; exact p, fun p => ⟨_, is_N_tuple, p⟩⟩
theorem isTC_non_dict  {P : Bool → Prop} : (isTC (.non) (.ty "dict") P) = (P false) := propext ⟨fun ⟨x, e, p⟩ => by rw [is_N_dict] at e; cases e; exact p, fun p => ⟨_, is_N_dict, p⟩⟩
theorem isTC_bl_int {b : Bool} {P : Bool → Prop} : (isTC (.bl b) (.ty "int") P) = (P true) := propext ⟨fun ⟨x, e, p⟩ => by rw [is_B_int] at e; cases e; exact p, fun p => ⟨_, is_B_int, p⟩⟩
theorem isTC_bl_bool {b : Bool} {P : Bool → Prop} : (isTC (.bl b) (.ty "bool") P) = (P true) := propext ⟨fun ⟨x, e, p⟩ => by rw [is_B_bool] at e; cases e; exact p, fun p => ⟨_, is_B_bool, p⟩⟩
theorem isTC_bl_str {b : Bool} {P : Bool → Prop} : (isTC (.bl b) (.ty "str") P) = (P false) := propext ⟨fun ⟨x, e, p⟩ => by rw [is_B_str] at e; cases e; exact p, fun p => ⟨_, is_B_str, p⟩⟩
theorem isTC_bl_list {b : Bool} {P : Bool → Prop} : (isTC (.bl b) (.ty "list") P) = (P false) := propext ⟨fun ⟨x, e, p⟩ => by rw [is_B_list] at e; cases e; exact p, fun p => ⟨_, is_B_list, p⟩⟩
theorem isTC_bl_tuple {b : Bool} {P : Bool → Prop} : (isTC (.bl b) (.ty "tuple") P) = (P false) := propext ⟨fun ⟨x, e, p⟩ => by rw [is_B_tuple] at e; cases e; exact p, fun p => ⟨_, is_B_tuple, p⟩⟩
theorem isTC_bl_dict {b : Bool} {P : Bool → Prop} : (isTC (.bl b) (.ty "dict") P) = (P false) := propext ⟨fun ⟨x, e, p⟩ => by rw [is_B_dict] at e; cases e; exact p, fun p => ⟨_, is_B_dict, p⟩⟩
theorem isTC_int_int {i : Int} {P : Bool → Prop} : (isTC (.int i) (.ty "int") P) = (P true) := propext ⟨fun ⟨x, e, p⟩ => by rw [is_I_int] at e; cases e; exact p, fun p => ⟨_, is_I_int, p⟩⟩
theorem isTC_int_bool {i : Int} {P : Bool → Prop} : (isTC (.int i) (.ty "bool") P) = (P false) := propext ⟨fun ⟨x, e, p⟩ => by rw [is_I_bool] at e; cases e; exact p, fun p => ⟨_, is_I_bool, p⟩⟩
theorem isTC_int_str {i : Int} {P : Bool → Prop} : (isTC (.int i) (.ty "str") P) = (P false) := propext ⟨fun ⟨x, e, p⟩ => by rw [is_I_str] at e; cases e; exact p, fun p => ⟨_, is_I_str, p⟩⟩
theorem isTC_int_list {i : Int} {P : Bool → Prop} : (isTC (.int i) (.ty "list") P) = (P false) := propext ⟨fun ⟨x, e, p⟩ => by rw [is_I_list] at e; cases e; exact p, fun p => ⟨_, is_I_list, p⟩⟩
theorem isTC_int_tuple {i : Int} {P : Bool → Prop} : (isTC (.int i) (.ty "tuple") P) = (P false) := propext ⟨fun ⟨x, e, p⟩ => by rw [is_I_tuple] at e; cases e; exact p, fun p => ⟨_, is_I_tuple, p⟩⟩
theorem isTC_int_dict {i : Int} {P : Bool → Prop} : (isTC (.int i) (.ty "dict") P) = (P false) := propext ⟨fun ⟨x, e, p⟩ => by rw [is_I_dict] at e; cases e; exact p, fun p => ⟨_, is_I_dict, p⟩⟩
theorem isTC_str_int {s : Str} {P : Bool → Prop} : (isTC (.str s) (.ty "int") P) = (P false) := propext ⟨fun ⟨x, e, p⟩ => by rw [is_S_int] at e; cases e; exact p, fun p => ⟨_, is_S_int, p⟩⟩
theorem isTC_str_bool {s : Str} {P : Bool → Prop} : (isTC (.str s) (.ty "bool") P) = (P false) := propext ⟨fun ⟨x, e, p⟩ => by rw [is_S_bool] at e; cases e; exact p, fun p => ⟨_, is_S_bool, p⟩⟩
theorem isTC_str_str {s : Str} {P : Bool → Prop} : (isTC (.str s) (.ty "str") P) = (P true) := propext ⟨fun ⟨x, e, p⟩ => by rw [is_S_str] at e; cases e; exact p, fun p => ⟨_, is_S_str, p⟩⟩
theorem isTC_str_list {s : Str} {P : Bool → Prop} : (isTC (.str s) (.ty "list") P) = (P false) := propext ⟨fun ⟨x, e, p⟩ => by rw [is_S_list] at e; cases e; exact p, fun p => ⟨_, is_S_list, p⟩⟩
theorem isTC_str_tuple {s : Str} {P : Bool → Prop} : (isTC (.str s) (.ty "tuple") P) = (P false) := propext ⟨fun ⟨x, e, p⟩ => by rw [is_S_tuple] at e; cases e; exact p, fun p => ⟨_, is_S_tuple, p⟩⟩
theorem isTC_str_dict {s : Str} {P : Bool → Prop} : (isTC (.str s) (.ty "dict") P) = (P false) := propext ⟨fun ⟨x, e, p⟩ => by rw [is_S_dict] at e; cases e; exact p, fun p => ⟨_, is_S_dict, p⟩⟩
theorem isTC_lst_int {xs : List W} {P : Bool → Prop} : (isTC (.lst xs) (.ty "int") P) = (P false) := propext ⟨fun ⟨x, e, p⟩ => by rw [is_L_int] at e; cases e; exact p, fun p => ⟨_, is_L_int, p⟩⟩
theorem isTC_lst_bool {xs : List W} {P : Bool → Prop} : (isTC (.lst xs) (.ty "bool") P) = (P false) := propext ⟨fun ⟨x, e, p⟩ => by rw [is_L_bool] at e; cases e; exact p, fun p => ⟨_, is_L_bool, p⟩⟩
theorem isTC_lst_str {xs : List W} {P : Bool → Prop} : (isTC (.lst xs) (.ty "str") P) = (P false) := propext ⟨fun ⟨x, e, p⟩ => by rw [is_L_str] at e; cases e; exact p, fun p => ⟨_, is_L_str, p⟩⟩
theorem isTC_lst_list {xs : List W} {P : Bool → Prop} : (isTC (.lst xs) (.ty "list") P) = (P true) := propext ⟨fun ⟨x, e, p⟩ => by rw [is_L_list] at e; cases e; exact p, fun p => ⟨_, is_L_list, p⟩⟩
theorem isTC_lst_tuple {xs : List W} {P : Bool → Prop} : (isTC (.lst xs) (.ty "tuple") P) = (P false) := propext ⟨fun ⟨x, e, p⟩ => by rw [is_L_tuple] at e; cases e; exact p, fun p => ⟨_, is_L_tuple, p⟩⟩
theorem isTC_lst_dict {xs : List W} {P : Bool → Prop} : (isTC (.lst xs) (.ty "dict") P) = (P false) := propext ⟨fun ⟨x, e, p⟩ => by rw [is_L_dict] at e; cases e; exact p, fun p => ⟨_, is_L_dict, p⟩⟩
theorem isTC_tup_int {xs : List W} {P : Bool → Prop} : (isTC (.tup xs) (.ty "int") P) = (P false) := propext ⟨fun ⟨x, e, p⟩ => by rw [is_T_int] at e; cases e; exact p, fun p => ⟨_, is_T_int, p⟩⟩
theorem isTC_tup_bool {xs : List W} {P : Bool → Prop} : (isTC (.tup xs) (.ty "bool") P) = (P false) := propext ⟨fun ⟨x, e, p⟩ => by rw [is_T_bool] at e; cases e; exact p, fun p => ⟨_, is_T_bool, p⟩⟩
theorem isTC_tup_str {xs : List W} {P : Bool → Prop} : (isTC (.tup xs) (.ty "str") P) = (P false) := propext ⟨fun ⟨x, e, p⟩ => by rw [is_T_str] at e; cases e; exact p, fun p => ⟨_, is_T_str, p⟩⟩
theorem isTC_tup_list {xs : List W} {P : Bool → Prop} : (isTC (.tup xs) (.ty "list") P) = (P false) := propext ⟨fun ⟨x, e, p⟩ => by rw [is_T_list] at e; cases e; exact p, fun p => ⟨_, is_T_list, p⟩⟩
theorem isTC_tup_tuple {xs : List W} {P : Bool → Prop} : (isTC (.tup xs) (.ty "tuple") P) = (P true) := propext ⟨fun ⟨x, e, p⟩ => by rw [is_T_tuple] at e; cases e; exact p, fun p => ⟨_, is_T_tuple, p⟩⟩
theorem isTC_tup_dict {xs : List W} {P : Bool → Prop} : (isTC (.tup xs) (.ty "dict") P) = (P false) := propext ⟨fun ⟨x, e, p⟩ => by rw [is_T_dict] at e; cases e; exact p, fun p => ⟨_, is_T_dict, p⟩⟩
theorem isTC_is_rR {al : List (Int × Int)} {P : Bool → Prop} : (isTC (.rig al) (.cls true) P) = (P true) := propext ⟨fun ⟨x, e, p⟩ => (by cases e; exact p), fun p => ⟨_, rfl, p⟩⟩
theorem isTC_is_tR {xs : List W} {P : Bool → Prop} : (isTC (.tup xs) (.cls true) P) = (P false) := propext ⟨fun ⟨x, e, p⟩ => (by cases e; exact p), fun p => ⟨_, rfl, p⟩⟩
theorem isTC_is_mM {ns : List Int} {P : Bool → Prop} : (isTC (.mem ns) (.cls false) P) = (P true) := propext ⟨fun ⟨x, e, p⟩ => (by cases e; exact p), fun p => ⟨_, rfl, p⟩⟩
theorem isTC_is_tM {xs : List W} {P : Bool → Prop} : (isTC (.tup xs) (.cls false) P) = (P false) := propext ⟨fun ⟨x, e, p⟩ => (by cases e; exact p), fun p => ⟨_, rfl, p⟩⟩
theorem onIs_m {ns : List Int} {P : List Int → Prop} : (onIs (.lst (ns.map .int)) P) = (P ns) := propext ⟨fun ⟨x, e, p⟩ => by have := ints_inj.mp (W.lst.inj e); subst this; exact p, fun p => ⟨_, rfl, p⟩⟩
theorem onIsT_m {ns : List Int} {P : List Int → Prop} : (onIsT (.tup (ns.map .int)) P) = (P ns) := propext ⟨fun ⟨x, e, p⟩ => by have := ints_inj.mp (W.tup.inj e); subst this; exact p, fun p => ⟨_, rfl, p⟩⟩
theorem onIs_0 {P : List Int → Prop} : (onIs (.lst []) P) = (P []) := propext ⟨fun ⟨x, e, p⟩ => (by cases x with | nil => exact p | cons a x => cases e), fun p => ⟨[], rfl, p⟩⟩
theorem onIs_c {P : List Int → Prop} {i : Int} {r : List W} : (onIs (.lst (.int i :: r)) P) = (onIs (.lst r) fun ns => P (i :: ns)) := propext ⟨fun ⟨x, e, p⟩ => (by cases x with | nil => cases e | cons a x => cases e; exact ⟨x, rfl, p⟩), fun ⟨x, e, p⟩ => (by cases e; exact ⟨i :: x, rfl, p⟩)⟩
theorem onIs_r {P : List Int → Prop} {a : Int} {n : Nat} : (onIs (.lst (rgW a n)) P) = (P ((List.range n).map fun (k : Nat) => a + (k : Int))) := by
  have e : rgW a n = ((List.range n).map fun (k : Nat) => a + (k : Int)).map .int := by
    unfold rgW
    rw [List.map_map]; rfl
  rw [e]; exact onIs_m
theorem atI_unmap {ns : List Int} {i : Int} {w : W} (h : atI (ns.map W.int) i = some w) : ∃ z, atI ns i = some z ∧ w = .int z := by
  unfold atI at h ⊢
  rw [List.length_map] at h
  cases e : ixN ns.length i with
  | none => rw [e] at h; cases h
  | some j =>
    rw [e] at h
    have h : (ns.map W.int)[j]? = some w := h
    obtain ⟨z, a, b⟩ := mapW_at h
    exact ⟨z, a, b⟩
theorem arWinj {al bl : List (Int × Int)} (h : arW al = arW bl) : al = bl := arW_inj.mp (congrArg W.tup h)
theorem onAr_m {al : List (Int × Int)} {P : List (Int × Int) → Prop} : (onAr (.lst (arW al)) P) = (P al) := propext ⟨fun ⟨x, e, p⟩ => by have := arWinj (W.lst.inj e); subst this; exact p, fun p => ⟨_, rfl, p⟩⟩
theorem onAt_0 {Q : W → Prop} {a : W} {r : List W} : (onAt (a :: r) 0 Q) = (Q a) := propext ⟨fun ⟨x, e, p⟩ => by rw [r_at0] at e; cases e; exact p, fun p => ⟨_, r_at0, p⟩⟩
theorem onAt_1 {Q : W → Prop} {a b : W} {r : List W} : (onAt (a :: b :: r) 1 Q) = (Q b) := propext ⟨fun ⟨x, e, p⟩ => by rw [r_at1] at e; cases e; exact p, fun p => ⟨_, r_at1, p⟩⟩
theorem onAt_2 {Q : W → Prop} {a b c : W} {r : List W} : (onAt (a :: b :: c :: r) 2 Q) = (Q c) := propext ⟨fun ⟨x, e, p⟩ => by rw [r_at2] at e; cases e; exact p, fun p => ⟨_, r_at2, p⟩⟩
theorem onAt_3 {Q : W → Prop} {a b c d : W} {r : List W} : (onAt (a :: b :: c :: d :: r) 3 Q) = (Q d) := propext ⟨fun ⟨x, e, p⟩ => by rw [r_at3] at e; cases e; exact p, fun p => ⟨_, r_at3, p⟩⟩
theorem onAt_m {Q : W → Prop} {ns : List Int} {i : Int} : (onAt (ns.map .int) i Q) = (∃ z, atI ns i = some z ∧ Q (.int z)) := propext ⟨fun ⟨x, e, p⟩ => by obtain ⟨z, h, rfl⟩ := atI_unmap e; exact ⟨z, h, p⟩, fun ⟨z, h, p⟩ => ⟨.int z, atI_map h, p⟩⟩
theorem d_var {ρ : Sl} {Q : W → Prop} {i : Nat} : ((XE.var i).f ρ Q) = (onS ρ i Q) := rfl
theorem d_lit {ρ : Sl} {Q : W → Prop} {w : W} : ((XE.lit w).f ρ Q) = (Q w) := rfl
theorem d_op {ρ : Sl} {Q : W → Prop} {a b : XE} {o : XO} : ((XE.op o a b).f ρ Q) = (a.f ρ fun x => b.f ρ fun y => o.f x y Q) := rfl
theorem d_un {ρ : Sl} {Q : W → Prop} {a : XE} {o : XU} : ((XE.un o a).f ρ Q) = (a.f ρ fun x => o.f x Q) := rfl
theorem d_anil {ρ : Sl} {R : List W → Prop} : (XA.nil.f ρ R) = (R []) := rfl
theorem d_acons {ρ : Sl} {R : List W → Prop} {a : XE} {ar : XA} : ((XA.cons a ar).f ρ R) = (a.f ρ fun x => ar.f ρ fun xs => R (x :: xs)) := rfl
theorem d_fn {ρ : Sl} {Q : W → Prop} {ar : XA} {o : XN} : ((XE.fn o ar).f ρ Q) = (ar.f ρ fun xs => o.f xs Q) := rfl
theorem d_call {ρ : Sl} {Q : W → Prop} {ar : XA} {F : XF} : ((XE.call F ar).f ρ Q) = (ar.f ρ fun xs => F.f xs Q) := rfl
theorem d_ite {ρ : Sl} {Q : W → Prop} {t : XT} {a b : XE} : ((XE.ite t a b).f ρ Q) = (t.f ρ fun x => if x = true then a.f ρ Q else b.f ρ Q) := by simp only [r_ite, br]
theorem d_andV {ρ : Sl} {Q : W → Prop} {a b : XE} : ((XE.andV a b).f ρ Q) = (a.f ρ fun x => onB x fun p => if p = true then b.f ρ Q else Q (.bl false)) := by simp only [r_andV, br, onB]
theorem d_orV {ρ : Sl} {Q : W → Prop} {a b : XE} : ((XE.orV a b).f ρ Q) = (a.f ρ fun x => onB x fun p => if p = true then Q (.bl true) else b.f ρ Q) := by simp only [r_orV, br', onB]
theorem d_notV {ρ : Sl} {Q : W → Prop} {a : XE} : ((XE.notV a).f ρ Q) = (a.f ρ fun x => onB x fun p => Q (.bl (!p))) := rfl
theorem d_lst {ρ : Sl} {Q : W → Prop} {ar : XA} : ((XE.lst ar).f ρ Q) = (ar.f ρ fun ws => ws.length ≤ 100000 ∧ Q (.lst ws)) := rfl
theorem d_tup {ρ : Sl} {Q : W → Prop} {ar : XA} : ((XE.tup ar).f ρ Q) = (ar.f ρ fun ws => ws.length ≤ 100000 ∧ Q (.tup ws)) := rfl
theorem d_tupF {ρ : Sl} {Q : W → Prop} {ar : XA} : ((XE.tupF ar).f ρ Q) = (ar.f ρ fun ws => ∃ al, ws = arW al ∧ al.length ≤ 100000 ∧ Q (.arm al)) := rfl
theorem d_chain {ρ : Sl} {Q : W → Prop} {a b d : XE} {g g' : Int → Int → Bool} : ((XE.chain g g' a b d).f ρ Q) = (a.f ρ fun x => b.f ρ fun y => onI x fun i => onI y fun j => if g i j = true then d.f ρ fun z => onI z fun k => Q (.bl (g' j k)) else Q (.bl false)) := by simp only [r_chain, onI, br, exists_and_left]
theorem d_tval {ρ : Sl} {a : XE} {B : Bool → Prop} : ((XT.val a).f ρ B) = (a.f ρ fun x => onB x B) := rfl
theorem d_ttru {ρ : Sl} {a : XE} {B : Bool → Prop} : ((XT.tru a).f ρ B) = (a.f ρ fun w => truC w B) := rfl
theorem d_tand {ρ : Sl} {t u : XT} {B : Bool → Prop} : ((XT.and t u).f ρ B) = (t.f ρ fun x => if x = true then u.f ρ B else B false) := by simp only [r_tand, br]
theorem d_tor {ρ : Sl} {t u : XT} {B : Bool → Prop} : ((XT.or t u).f ρ B) = (t.f ρ fun x => if x = true then B true else u.f ρ B) := by simp only [r_tor, br']
theorem d_tnot {ρ : Sl} {t : XT} {B : Bool → Prop} : ((XT.not t).f ρ B) = (t.f ρ fun x => B (!x)) := rfl
theorem d_tyes {ρ : Sl} {B : Bool → Prop} : (XT.yes.f ρ B) = (B true) := rfl
theorem d_pno {ρ : Sl} {O : Option Int → Prop} : (XP.no.f ρ O) = (O none) := rfl
theorem d_pat {ρ : Sl} {a : XE} {O : Option Int → Prop} : ((XP.at a).f ρ O) = (a.f ρ fun x => onI x fun i => O (some i)) := rfl
theorem d_sl {ρ : Sl} {Q : W → Prop} {a : XE} {l h : XP} : ((XE.sl a l h).f ρ Q) = (a.f ρ fun w => l.f ρ fun i => h.f ρ fun j => (onL w fun xs => Q (.lst (cutD xs i j))) ∨ onT w fun xs => Q (.tup (cutD xs i j))) := rfl
theorem d_fldR {ρ : Sl} {Q : W → Prop} {a : XE} : ((XE.fld true a).f ρ Q) = (a.f ρ fun w => onR w fun al => Q (.arm al)) := r_fldR
theorem d_fldM {ρ : Sl} {Q : W → Prop} {a : XE} : ((XE.fld false a).f ρ Q) = (a.f ρ fun w => onM w fun ns => Q (.tup (ns.map .int))) := r_fldM
theorem d_prop {ρ : Sl} {Q : W → Prop} {a : XE} {k : Bool} {F : XF} : ((XE.prop k F a).f ρ Q) = (a.f ρ fun w => isC k w (F.f [w] Q)) := rfl
theorem d_callO {ρ : Sl} {Q : W → Prop} {a : XE} {ar : XA} {k : Bool} {F : XF} : ((XE.callO k F a ar).f ρ Q) = (a.f ρ fun w => isC k w (ar.f ρ fun ws => F.f (w :: ws) Q)) := rfl
theorem d_mkRig {ρ : Sl} {Q : W → Prop} {a : XE} {pre : List (Int × Int) → Prop} : ((XE.mkRig pre a).f ρ Q) = (a.f ρ fun w => onA w fun al => pre al ∧ Q (.rig al)) := rfl
theorem d_mkMem {ρ : Sl} {Q : W → Prop} {a : XE} {pre : List Int → Prop} : ((XE.mkMem pre a).f ρ Q) = (a.f ρ fun w => onIsT w fun ns => pre ns ∧ Q (.mem ns)) := rfl
theorem d_dget {ρ : Sl} {Q : W → Prop} {a b : XE} : ((XE.dget a b).f ρ Q) = (a.f ρ fun w => onD w fun al => b.f ρ fun u => onI u fun x => ∃ n, getI al x = some n ∧ Q (.int n)) := by simp only [r_dget, onI, onD, exists_and_left]
theorem d_dget2 {ρ : Sl} {Q : W → Prop} {a b : XE} : ((XE.dget2 a b).f ρ Q) = (a.f ρ fun w => onD w fun al => b.f ρ fun u => onI u fun x => Q (.int (cf al x))) := rfl
theorem d_lrg2 {ρ : Sl} {Q : W → Prop} {a b : XE} : ((XE.lrg2 a b).f ρ Q) = (a.f ρ fun x => b.f ρ fun y => onI x fun i => onI y fun j => (-1000000000 ≤ i ∧ i ≤ 1000000000 ∧ -1000000000 ≤ j ∧ j ≤ 1000000000 ∧ j - i ≤ 50000) ∧ Q (.lst (rgW i (j - i).toNat))) := by simp only [r_lrg2, onI, exists_and_left]
theorem d_lrg3 {ρ : Sl} {Q : W → Prop} {ar : XA} : ((XE.lrg3 ar).f ρ Q) = (ar.f ρ fun ws => on3 ws fun x y z => onI x fun i => onI y fun j => z = .int (-1) ∧ (-1000000000 ≤ i ∧ i ≤ 1000000000 ∧ -1000000000 ≤ j ∧ j ≤ 1000000000 ∧ i - j ≤ 50000) ∧ Q (.lst (dnW i (i - j).toNat))) := by
  show ar.f ρ _ = ar.f ρ _
  congr 1
  funext ws
  exact propext ⟨fun ⟨i, j, e, h, q⟩ => ⟨_, _, _, e, i, rfl, j, rfl, rfl, h, q⟩, fun ⟨x, y, z, e, i, e1, j, e2, e3, h, q⟩ => ⟨i, j, by rw [e, e1, e2, e3], h, q⟩⟩
theorem d_comp {ρ : Sl} {Q : W → Prop} {it : XI} {g : XG} {t : XT} {e : XE} {vs : List Nat} : ((XE.comp it g t e vs).f ρ Q) = (it.f ρ fun ws => ws.length ≤ 50000 ∧ wipeC ρ vs fun ρ' => CompI ws g t e ρ' Q) := rfl
theorem d_iseq {ρ : Sl} {R : List W → Prop} {a : XE} : ((XI.seq a).f ρ R) = (a.f ρ fun w => itLC w R ∨ itTC w R) := rfl
theorem d_rng1 {ρ : Sl} {R : List W → Prop} {ar : XA} : ((XI.rng1 ar).f ρ R) = (ar.f ρ fun ws => on1 ws fun x => onI x fun j => (-1000000000 ≤ j ∧ j ≤ 1000000000) ∧ R (rgW 0 j.toNat)) := by
  show ar.f ρ _ = ar.f ρ _
  congr 1
  funext ws
  exact propext ⟨fun ⟨j, e, q⟩ => ⟨_, e, j, rfl, q⟩, fun ⟨x, e, j, e1, q⟩ => ⟨j, by rw [e, e1], q⟩⟩
theorem d_rng2 {ρ : Sl} {R : List W → Prop} {ar : XA} : ((XI.rng2 ar).f ρ R) = (ar.f ρ fun ws => on2 ws fun x y => onI x fun i => onI y fun j => (-1000000000 ≤ i ∧ i ≤ 1000000000 ∧ -1000000000 ≤ j ∧ j ≤ 1000000000) ∧ R (rgW i (j - i).toNat)) := by
  show ar.f ρ _ = ar.f ρ _
  congr 1
  funext ws
  exact propext ⟨fun ⟨i, j, e, q⟩ => ⟨_, _, e, i, rfl, j, rfl, q⟩, fun ⟨x, y, e, i, e1, j, e2, q⟩ => ⟨i, j, by rw [e, e1, e2], q⟩⟩
theorem d_enum {ρ : Sl} {R : List W → Prop} {ar : XA} : ((XI.enum ar).f ρ R) = (ar.f ρ fun ws => on1 ws fun w => itLC w fun xs => R (enumW xs)) := by
  show ar.f ρ _ = ar.f ρ _
  congr 1
  funext ws
  exact propext ⟨fun ⟨w, xs, e, h, q⟩ => ⟨w, e, xs, h, q⟩, fun ⟨w, e, xs, h, q⟩ => ⟨w, xs, e, h, q⟩⟩
theorem d_zip {ρ : Sl} {R : List W → Prop} {ar : XA} : ((XI.zip ar).f ρ R) = (ar.f ρ fun ws => on2 ws fun w u => itLC w fun xs => itLC u fun ys => R (zipW xs ys)) := by
  show ar.f ρ _ = ar.f ρ _
  congr 1
  funext ws
  exact propext ⟨fun ⟨w, u, xs, ys, e, h, h2, q⟩ => ⟨w, u, e, xs, h, ys, h2, q⟩, fun ⟨w, u, e, xs, h, ys, h2, q⟩ => ⟨w, u, xs, ys, e, h, h2, q⟩⟩
theorem d_gname {ρ : Sl} {S : Sl → Prop} {i : Nat} {w : W} : ((XG.name i).f w ρ S) = (setC ρ i (some w) S) := rfl
theorem d_gtup {ρ : Sl} {S : Sl → Prop} {r : XGs} {w : W} : ((XG.tup r).f w ρ S) = (onT w fun xs => r.f xs ρ S) := rfl
theorem d_glst {ρ : Sl} {S : Sl → Prop} {r : XGs} {w : W} : ((XG.lst r).f w ρ S) = (onL w fun xs => r.f xs ρ S) := rfl
theorem r_vlst {r : XGs} : ((XG.lst r).vs) = (r.vs) := rfl
theorem d_gnil {ρ : Sl} {S : Sl → Prop} : (XGs.nil.f [] ρ S) = (S ρ) := propext ⟨fun p => p.2, fun p => ⟨rfl, p⟩⟩
theorem d_gnil1 {ρ : Sl} {S : Sl → Prop} {x : W} {xs : List W} : (XGs.nil.f (x :: xs) ρ S) = (False) := propext ⟨fun p => (by cases p.1), False.elim⟩
theorem d_gcons {ρ : Sl} {S : Sl → Prop} {g : XG} {r : XGs} {x : W} {xs : List W} : ((XGs.cons g r).f (x :: xs) ρ S) = (g.f x ρ fun ρ' => r.f xs ρ' S) := propext ⟨fun ⟨y, ys, e, p⟩ => (by cases e; exact p), fun p => ⟨_, _, rfl, p⟩⟩
theorem d_gcons0 {ρ : Sl} {S : Sl → Prop} {g : XG} {r : XGs} : ((XGs.cons g r).f [] ρ S) = (False) := propext ⟨fun ⟨y, ys, e, p⟩ => (by cases e), False.elim⟩
theorem d_oor {x y : W} {Q : W → Prop} {o o' : XO} : ((XO.or o o').f x y Q) = (o.f x y Q ∨ o'.f x y Q) := rfl
theorem d_oii {x y : W} {Q : W → Prop} {g : Int → Int → W} : ((XO.ii g).f x y Q) = (onI x fun i => onI y fun j => Q (g i j)) := propext ⟨fun ⟨i, j, a, b, q⟩ => ⟨i, a, j, b, q⟩, fun ⟨i, a, j, b, q⟩ => ⟨i, j, a, b, q⟩⟩
theorem d_oiic {x y : W} {Q : W → Prop} {C : Int → Int → Prop} {g : Int → Int → W} : ((XO.iic C g).f x y Q) = (onI x fun i => onI y fun j => C i j ∧ Q (g i j)) := propext ⟨fun ⟨i, j, a, b, q⟩ => ⟨i, a, j, b, q⟩, fun ⟨i, a, j, b, q⟩ => ⟨i, j, a, b, q⟩⟩
theorem d_ocatL {x y : W} {Q : W → Prop} : (XO.catL.f x y Q) = (onL x fun xs => onL y fun ys => xs.length + ys.length ≤ 100000 ∧ Q (.lst (xs ++ ys))) := propext ⟨fun ⟨i, j, a, b, q⟩ => ⟨i, a, j, b, q⟩, fun ⟨i, a, j, b, q⟩ => ⟨i, j, a, b, q⟩⟩
theorem d_ocatT {x y : W} {Q : W → Prop} : (XO.catT.f x y Q) = (onT x fun xs => onT y fun ys => xs.length + ys.length ≤ 100000 ∧ Q (.tup (xs ++ ys))) := propext ⟨fun ⟨i, j, a, b, q⟩ => ⟨i, a, j, b, q⟩, fun ⟨i, a, j, b, q⟩ => ⟨i, j, a, b, q⟩⟩
theorem d_oixL {x y : W} {Q : W → Prop} : (XO.ixL.f x y Q) = (onL x fun xs => onI y fun i => onAt xs i Q) := propext ⟨fun ⟨xs, i, w, a, b, h, q⟩ => ⟨xs, a, i, b, w, h, q⟩, fun ⟨xs, a, i, b, w, h, q⟩ => ⟨xs, i, w, a, b, h, q⟩⟩
theorem d_oixT {x y : W} {Q : W → Prop} : (XO.ixT.f x y Q) = (onT x fun xs => onI y fun i => onAt xs i Q) := propext ⟨fun ⟨xs, i, w, a, b, h, q⟩ => ⟨xs, a, i, b, w, h, q⟩, fun ⟨xs, a, i, b, w, h, q⟩ => ⟨xs, i, w, a, b, h, q⟩⟩
theorem d_oixA {x y : W} {Q : W → Prop} : (XO.ixA.f x y Q) = (onA x fun al => onI y fun i => ∃ p, atI al i = some p ∧ Q (.tup [.int p.1, .int p.2])) := propext ⟨fun ⟨xs, i, w, a, b, h, q⟩ => ⟨xs, a, i, b, w, h, q⟩, fun ⟨xs, a, i, b, w, h, q⟩ => ⟨xs, i, w, a, b, h, q⟩⟩
theorem d_oeqS {x y : W} {Q : W → Prop} {n : Bool} : ((XO.eqS n).f x y Q) = ((onI x fun i => onI y fun j => Q (.bl (n ^^ decide (i = j)))) ∨ (onStr x fun i => onStr y fun j => Q (.bl (n ^^ decide (i = j)))) ∨ (onB x fun i => onB y fun j => Q (.bl (n ^^ decide (i = j))))) := by rw [r_oeqS]; simp only [onI, onStr, onB, exists_and_left]
theorem d_oeqD {x y : W} {Q : W → Prop} {n : Bool} : ((XO.eqD n).f x y Q) = ((sqC x (sqC y (Pl 60 x ∧ Pl 60 y ∧ Q (.bl (n ^^ decide (x = y)))))) ∨ (onA x fun al => onA y fun bl => Q (.bl (n ^^ decide (al = bl))))) := by rw [r_oeqD]; simp only [sqC, onA, exists_and_left]
theorem d_oisN {x y : W} {Q : W → Prop} {n : Bool} : ((XO.isN n).f x y Q) = (y = .non ∧ x.kn = true ∧ Q (.bl (n ^^ decide (x = .non)))) := rfl
theorem d_oneg {x : W} {Q : W → Prop} : (XU.neg.f x Q) = (onI x fun i => Q (.int (-i))) := rfl
theorem d_uor {x : W} {Q : W → Prop} {o o' : XU} : ((XU.or o o').f x Q) = (o.f x Q ∨ o'.f x Q) := rfl
theorem d_oownB {x y : W} {Q : W → Prop} {k : Bool} {F : XF} : ((XO.ownBin k F).f x y Q) = (isC k x (isC k y (F.f [x, y] Q))) := rfl
theorem d_oownM {x y : W} {Q : W → Prop} {k : Bool} {F : XF} : ((XO.ownMul k F).f x y Q) = (isC k x (onI y fun n => F.f [x, .int n] Q)) := propext ⟨fun ⟨a, ⟨n, e⟩, q⟩ => ⟨a, n, e, by subst e; exact q⟩, fun ⟨a, n, e, q⟩ => ⟨a, ⟨n, e⟩, by subst e; exact q⟩⟩
theorem d_uownN {x : W} {Q : W → Prop} {k : Bool} {F : XF} : ((XU.ownNeg k F).f x Q) = (isC k x (F.f [x] Q)) := rfl
theorem d_oownE {x y : W} {Q : W → Prop} {k : Bool} {F : XF} : ((XO.ownEq k F).f x y Q) = (isC k x (eqC k y (F.f [x, y] Q))) := rfl
theorem d_oownNe {x y : W} {Q : W → Prop} {k : Bool} {F : XF} : ((XO.ownNe k F).f x y Q) = (isC k x (eqC k y (F.f [x, y] fun w => onB w fun b => Q (.bl (!b))))) := rfl
theorem d_nor {ws : List W} {Q : W → Prop} {o o' : XN} : ((XN.or o o').f ws Q) = (o.f ws Q ∨ o'.f ws Q) := rfl
theorem d_nlen {ws : List W} {Q : W → Prop} : (XN.len.f ws Q) = (on1 ws fun x => (onL x fun xs => Q (.int xs.length)) ∨ (onT x fun xs => Q (.int xs.length)) ∨ (onA x fun al => Q (.int al.length))) := propext ⟨fun h => by rcases h with ⟨xs, e, q⟩ | ⟨xs, e, q⟩ | ⟨xs, e, q⟩; exact ⟨_, e, .inl ⟨_, rfl, q⟩⟩; exact ⟨_, e, .inr (.inl ⟨_, rfl, q⟩)⟩; exact ⟨_, e, .inr (.inr ⟨_, rfl, q⟩)⟩, fun ⟨x, e, h⟩ => by rcases h with ⟨xs, e1, q⟩ | ⟨xs, e1, q⟩ | ⟨xs, e1, q⟩ <;> subst e1; exact .inl ⟨_, e, q⟩; exact .inr (.inl ⟨_, e, q⟩); exact .inr (.inr ⟨_, e, q⟩)⟩
theorem d_nii {ws : List W} {Q : W → Prop} {g : Int → Int → W} : ((XN.ii g).f ws Q) = (on2 ws fun x y => onI x fun i => onI y fun j => Q (g i j)) := propext ⟨fun ⟨i, j, e, q⟩ => ⟨_, _, e, i, rfl, j, rfl, q⟩, fun ⟨x, y, e, i, e1, j, e2, q⟩ => ⟨i, j, by rw [e, e1, e2], q⟩⟩
theorem d_ni {ws : List W} {Q : W → Prop} {g : Int → W} : ((XN.i g).f ws Q) = (on1 ws fun x => onI x fun i => Q (g i)) := propext ⟨fun ⟨i, e, q⟩ => ⟨_, e, i, rfl, q⟩, fun ⟨x, e, i, e1, q⟩ => ⟨i, by rw [e, e1], q⟩⟩
theorem d_nsum {ws : List W} {Q : W → Prop} : (XN.sum.f ws Q) = (on1 ws fun x => onIs x fun ns => Q (.int ns.sum)) := propext ⟨fun ⟨i, e, q⟩ => ⟨_, e, i, rfl, q⟩, fun ⟨x, e, i, e1, q⟩ => ⟨i, by rw [e, e1], q⟩⟩
theorem d_nminL {ws : List W} {Q : W → Prop} : (XN.minL.f ws Q) = (on1 ws fun x => onIs x fun ns => ns ≠ [] ∧ ∀ m, m ∈ ns → (∀ y ∈ ns, m ≤ y) → Q (.int m)) := propext ⟨fun ⟨i, e, q⟩ => ⟨_, e, i, rfl, q⟩, fun ⟨x, e, i, e1, q⟩ => ⟨i, by rw [e, e1], q⟩⟩
theorem d_nmaxL {ws : List W} {Q : W → Prop} : (XN.maxL.f ws Q) = (on1 ws fun x => onIs x fun ns => ns ≠ [] ∧ ∀ m, m ∈ ns → (∀ y ∈ ns, y ≤ m) → Q (.int m)) := propext ⟨fun ⟨i, e, q⟩ => ⟨_, e, i, rfl, q⟩, fun ⟨x, e, i, e1, q⟩ => ⟨i, by rw [e, e1], q⟩⟩
theorem d_nmaxT {ws : List W} {Q : W → Prop} : (XN.maxT.f ws Q) = (on1 ws fun x => onIsT x fun ns => ns ≠ [] ∧ ∀ m, m ∈ ns → (∀ y ∈ ns, y ≤ m) → Q (.int m)) := propext ⟨fun ⟨i, e, q⟩ => ⟨_, e, i, rfl, q⟩, fun ⟨x, e, i, e1, q⟩ => ⟨i, by rw [e, e1], q⟩⟩
theorem d_nall {ws : List W} {Q : W → Prop} : (XN.all.f ws Q) = (on1 ws fun x => ∃ bs : List Bool, x = .lst (bs.map .bl) ∧ Q (.bl (bs.all id))) := propext ⟨fun ⟨i, e, q⟩ => ⟨_, e, i, rfl, q⟩, fun ⟨x, e, i, e1, q⟩ => ⟨i, by rw [e, e1], q⟩⟩
theorem d_nint1 {ws : List W} {Q : W → Prop} : (XN.int1.f ws Q) = (on1 ws fun x => (onI x fun i => Q (.int i)) ∨ onB x fun b => Q (.int (if b = true then 1 else 0))) := propext ⟨fun h => by rcases h with ⟨i, e, q⟩ | ⟨i, e, q⟩; exact ⟨_, e, .inl ⟨_, rfl, q⟩⟩; exact ⟨_, e, .inr ⟨_, rfl, q⟩⟩, fun ⟨x, e, h⟩ => by rcases h with ⟨i, e1, q⟩ | ⟨i, e1, q⟩ <;> subst e1; exact .inl ⟨_, e, q⟩; exact .inr ⟨_, e, q⟩⟩
theorem d_nlist {ws : List W} {Q : W → Prop} : (XN.list.f ws Q) = (on1 ws fun x => (onL x fun xs => Q (.lst xs)) ∨ (onT x fun xs => Q (.lst xs)) ∨ onScr x fun ns => Q (.lst (ns.map .int))) := propext ⟨fun h => by rcases h with ⟨xs, e, q⟩ | ⟨xs, e, q⟩ | ⟨xs, e, q⟩; exact ⟨_, e, .inl ⟨_, rfl, q⟩⟩; exact ⟨_, e, .inr (.inl ⟨_, rfl, q⟩)⟩; exact ⟨_, e, .inr (.inr ⟨_, rfl, q⟩)⟩, fun ⟨x, e, h⟩ => by rcases h with ⟨xs, e1, q⟩ | ⟨xs, e1, q⟩ | ⟨xs, e1, q⟩ <;> subst e1; exact .inl ⟨_, e, q⟩; exact .inr (.inl ⟨_, e, q⟩); exact .inr (.inr ⟨_, e, q⟩)⟩
theorem d_ntuple {ws : List W} {Q : W → Prop} : (XN.tuple.f ws Q) = (on1 ws fun x => (onL x fun xs => Q (.tup xs)) ∨ onT x fun xs => Q (.tup xs)) := propext ⟨fun h => by rcases h with ⟨i, e, q⟩ | ⟨i, e, q⟩; exact ⟨_, e, .inl ⟨_, rfl, q⟩⟩; exact ⟨_, e, .inr ⟨_, rfl, q⟩⟩, fun ⟨x, e, h⟩ => by rcases h with ⟨i, e1, q⟩ | ⟨i, e1, q⟩ <;> subst e1; exact .inl ⟨_, e, q⟩; exact .inr ⟨_, e, q⟩⟩
theorem d_ntupF {ws : List W} {Q : W → Prop} : (XN.tupF.f ws Q) = (on1 ws fun x => onAr x fun al => Q (.arm al)) := propext ⟨fun ⟨i, e, q⟩ => ⟨_, e, i, rfl, q⟩, fun ⟨x, e, i, e1, q⟩ => ⟨i, by rw [e, e1], q⟩⟩
theorem d_nsorI {ws : List W} {Q : W → Prop} : (XN.sortedI.f ws Q) = (on1 ws fun x => onIs x fun ns => ∀ ys : List Int, ys.Perm ns → ys.Pairwise (· ≤ ·) → Q (.lst (ys.map .int))) := propext ⟨fun ⟨i, e, q⟩ => ⟨_, e, i, rfl, q⟩, fun ⟨x, e, i, e1, q⟩ => ⟨i, by rw [e, e1], q⟩⟩
theorem d_nsorD {ws : List W} {Q : W → Prop} : (XN.sortedD.f ws Q) = (on1 ws fun x => onD x fun al => al.length < 64 ∧ ∀ ys : List Int, ys.Perm (al.map (·.1)) → ys.Pairwise (· ≤ ·) → Q (.lst (ys.map .int))) := propext ⟨fun ⟨i, e, q⟩ => ⟨_, e, i, rfl, q⟩, fun ⟨x, e, i, e1, q⟩ => ⟨i, by rw [e, e1], q⟩⟩
theorem d_nisi {ws : List W} {Q : W → Prop} : (xIsi.f ws Q) = (on2 ws fun x t => onTy t fun n => isTC x (.ty n) fun r => Q (.bl r)) := propext ⟨fun ⟨x, n, r, e, h, q⟩ => ⟨x, _, e, n, rfl, r, h, q⟩, fun ⟨x, t, e, n, e1, r, h, q⟩ => ⟨x, n, r, by rw [e, e1], h, q⟩⟩
theorem onTy_ty {n : String} {P : String → Prop} : (onTy (.ty n) P) = (P n) := propext ⟨fun ⟨x, e, p⟩ => (by cases e; exact p), fun p => ⟨_, rfl, p⟩⟩
theorem d_nisC {ws : List W} {Q : W → Prop} {j : Bool} : ((xIsC j).f ws Q) = (on2 ws fun x t => t = .cls j ∧ isTC x (.cls j) fun r => Q (.bl r)) := propext ⟨fun ⟨x, r, e, h, q⟩ => ⟨x, _, e, rfl, r, h, q⟩, fun ⟨x, t, e, e1, r, h, q⟩ => ⟨x, r, by rw [e, e1], h, q⟩⟩
theorem d_nown {ws : List W} {Q : W → Prop} {k : Bool} {F : XF} : ((XN.ownLen k F).f ws Q) = (on1 ws fun x => isC k x (F.f [x] fun w => ∃ n : Nat, w = .int n ∧ n < 100000 ∧ Q (.int n))) := rfl
theorem d_asg0 {s : Sl} {κ : Ko} {g : XG} {a : XE} : ((XS.asg g a).f ⟨s, none⟩ κ) = (a.f s fun w => g.f w s fun s' => κ.nx ⟨s', none⟩) := propext ⟨fun p => p.2, fun p => ⟨fun q e => (by cases e), p⟩⟩
theorem d_asg1 {s : Sl} {κ : Ko}{i0 : Nat} {co : Co} {g : XG} {a : XE} : ((XS.asg g a).f ⟨s, some (i0, co)⟩ κ) = (i0 ∉ g.vs ∧ a.f s fun w => g.f w s fun s' => κ.nx ⟨s', some (i0, co)⟩) := propext ⟨fun p => ⟨p.1 _ rfl, p.2⟩, fun p => ⟨fun q e => (by cases e; exact p.1), p.2⟩⟩
theorem d_asgV0 {s : Sl} {κ : Ko} {g : XG} {a : XE} : ((XS.asgV g a).f ⟨s, none⟩ κ) = (a.f s fun w => flC w (g.f w s fun s' => κ.nx ⟨s', none⟩)) := propext ⟨fun p => p.2, fun p => ⟨fun q e => (by cases e), p⟩⟩
theorem d_asgV1 {s : Sl} {κ : Ko}{i0 : Nat} {co : Co} {g : XG} {a : XE} : ((XS.asgV g a).f ⟨s, some (i0, co)⟩ κ) = (i0 ∉ g.vs ∧ setC s i0 (some co.w) fun ρ => a.f ρ fun w => flC w (g.f w s fun s' => κ.nx ⟨s', some (i0, co)⟩)) := propext ⟨fun p => ⟨p.1 _ rfl, p.2⟩, fun p => ⟨fun q e => (by cases e; exact p.1), p.2⟩⟩
theorem d_par0 {s : Sl} {κ : Ko} {i j : Nat} {ar : XA} : ((XS.par i j ar).f ⟨s, none⟩ κ) = ( ar.f s fun ws => on2 ws fun u v => setC s i (some u) fun s1 => setC s1 j (some v) fun s2 => κ.nx ⟨s2, none⟩) := propext ⟨fun p => p.2, fun p => ⟨fun q e => (by cases e), p⟩⟩
theorem d_par1 {s : Sl} {κ : Ko}{i0 : Nat} {co : Co} {i j : Nat} {ar : XA} : ((XS.par i j ar).f ⟨s, some (i0, co)⟩ κ) = (i0 ∉ [i, j] ∧ ar.f s fun ws => on2 ws fun u v => setC s i (some u) fun s1 => setC s1 j (some v) fun s2 => κ.nx ⟨s2, some (i0, co)⟩) := propext ⟨fun p => ⟨p.1 _ rfl, p.2⟩, fun p => ⟨fun q e => (by cases e; exact p.1), p.2⟩⟩
theorem d_par30 {s : Sl} {κ : Ko} {i j l : Nat} {ar : XA} : ((XS.par3 i j l ar).f ⟨s, none⟩ κ) = ( ar.f s fun ws => on3 ws fun u v w => setC s i (some u) fun s1 => setC s1 j (some v) fun s2 => setC s2 l (some w) fun s3 => κ.nx ⟨s3, none⟩) := propext ⟨fun p => p.2, fun p => ⟨fun q e => (by cases e), p⟩⟩
theorem d_par31 {s : Sl} {κ : Ko}{i0 : Nat} {co : Co} {i j l : Nat} {ar : XA} : ((XS.par3 i j l ar).f ⟨s, some (i0, co)⟩ κ) = (i0 ∉ [i, j, l] ∧ ar.f s fun ws => on3 ws fun u v w => setC s i (some u) fun s1 => setC s1 j (some v) fun s2 => setC s2 l (some w) fun s3 => κ.nx ⟨s3, some (i0, co)⟩) := propext ⟨fun p => ⟨p.1 _ rfl, p.2⟩, fun p => ⟨fun q e => (by cases e; exact p.1), p.2⟩⟩
theorem d_ret0 {s : Sl} {κ : Ko} {a : XE} : ((XS.ret a).f ⟨s, none⟩ κ) = (a.f s κ.rt) := rfl
theorem d_ret1 {s : Sl} {κ : Ko}{i0 : Nat} {co : Co} {a : XE} : ((XS.ret a).f ⟨s, some (i0, co)⟩ κ) = (setC s i0 (some co.w) fun ρ => a.f ρ κ.rt) := rfl
theorem d_retN0 {s : Sl} {κ : Ko} : (XS.retN.f ⟨s, none⟩ κ) = (κ.rt .non) := rfl
theorem d_retN1 {s : Sl} {κ : Ko}{i0 : Nat} {co : Co} : (XS.retN.f ⟨s, some (i0, co)⟩ κ) = (κ.rt .non) := rfl
theorem d_drop0 {s : Sl} {κ : Ko} {a : XE} : ((XS.drop a).f ⟨s, none⟩ κ) = (a.f s fun _ => κ.nx ⟨s, none⟩) := rfl
theorem d_drop1 {s : Sl} {κ : Ko}{i0 : Nat} {co : Co} {a : XE} : ((XS.drop a).f ⟨s, some (i0, co)⟩ κ) = (a.f s fun _ => κ.nx ⟨s, some (i0, co)⟩) := rfl
theorem d_next0 {s : Sl} {κ : Ko} : (XS.next.f ⟨s, none⟩ κ) = (κ.nx ⟨s, none⟩) := rfl
theorem d_next1 {s : Sl} {κ : Ko}{i0 : Nat} {co : Co} : (XS.next.f ⟨s, some (i0, co)⟩ κ) = (κ.nx ⟨s, some (i0, co)⟩) := rfl
theorem d_never0 {s : Sl} {κ : Ko} : (XS.never.f ⟨s, none⟩ κ) = (False) := rfl
theorem d_never1 {s : Sl} {κ : Ko}{i0 : Nat} {co : Co} : (XS.never.f ⟨s, some (i0, co)⟩ κ) = (False) := rfl
theorem d_seq0 {s : Sl} {κ : Ko} {x y : XS} : ((XS.seq x y).f ⟨s, none⟩ κ) = (x.f ⟨s, none⟩ ⟨fun φ' => y.f φ' κ, κ.rt, κ.bk, κ.ct⟩) := rfl
theorem d_seq1 {s : Sl} {κ : Ko}{i0 : Nat} {co : Co} {x y : XS} : ((XS.seq x y).f ⟨s, some (i0, co)⟩ κ) = (x.f ⟨s, some (i0, co)⟩ ⟨fun φ' => y.f φ' κ, κ.rt, κ.bk, κ.ct⟩) := rfl
theorem d_ifs0 {s : Sl} {κ : Ko} {t : XT} {x y : XS} : ((XS.ifs t x y).f ⟨s, none⟩ κ) = (t.f s fun b => if b = true then x.f ⟨s, none⟩ κ else y.f ⟨s, none⟩ κ) := by show t.f s (fun b => (b = true → x.f ⟨s, none⟩ κ) ∧ (b = false → y.f ⟨s, none⟩ κ)) = _; simp only [br]
theorem d_ifs1 {s : Sl} {κ : Ko}{i0 : Nat} {co : Co} {t : XT} {x y : XS} : ((XS.ifs t x y).f ⟨s, some (i0, co)⟩ κ) = (setC s i0 (some co.w) fun ρ => t.f ρ fun b => if b = true then x.f ⟨s, some (i0, co)⟩ κ else y.f ⟨s, some (i0, co)⟩ κ) := by show t.f (s.set i0 (some co.w)) (fun b => (b = true → x.f ⟨s, some (i0, co)⟩ κ) ∧ (b = false → y.f ⟨s, some (i0, co)⟩ κ)) = t.f (s.set i0 (some co.w)) _; simp only [br]
theorem d_frz0 {s : Sl} {κ : Ko} {x : XS} : ((XS.frz x).f ⟨s, none⟩ κ) = (x.f ⟨s, none⟩ κ) := rfl
theorem d_frz1 {s : Sl} {κ : Ko}{i0 : Nat} {co : Co} {x : XS} : ((XS.frz x).f ⟨s, some (i0, co)⟩ κ) = (setC s i0 (some co.w) fun ρ => x.f ⟨ρ, none⟩ κ) := rfl
theorem d_aug0 {s : Sl} {κ : Ko} {i : Nat} {g : Int → Int → Int} {a : XE} : ((XS.aug i g a).f ⟨s, none⟩ κ) = ( onS s i fun u => onI u fun x => a.f s fun w => onI w fun n => setC s i (some (.int (g x n))) fun s' => κ.nx ⟨s', none⟩) := propext ⟨fun ⟨_, x, e, q⟩ => ⟨_, e, x, rfl, q⟩, fun ⟨w, e, x, e1, q⟩ => ⟨fun q e => (by cases e), x, by rw [e, e1], q⟩⟩
theorem d_aug1 {s : Sl} {κ : Ko}{i0 : Nat} {co : Co} {i : Nat} {g : Int → Int → Int} {a : XE} : ((XS.aug i g a).f ⟨s, some (i0, co)⟩ κ) = (i0 ∉ [i] ∧ onS s i fun u => onI u fun x => a.f s fun w => onI w fun n => setC s i (some (.int (g x n))) fun s' => κ.nx ⟨s', some (i0, co)⟩) := propext ⟨fun ⟨o, x, e, q⟩ => ⟨o _ rfl, _, e, x, rfl, q⟩, fun ⟨o, w, e, x, e1, q⟩ => ⟨fun q e => (by cases e; exact o), x, by rw [e, e1], q⟩⟩
theorem d_for0 {s : Sl} {κ : Ko} {it : XI} {g : XG} {x : XS} : ((XS.forr it g x).f ⟨s, none⟩ κ) = (it.f s fun ws => ForI ws g x ⟨s, none⟩ κ) := rfl
theorem d_for1 {s : Sl} {κ : Ko}{i0 : Nat} {co : Co} {it : XI} {g : XG} {x : XS} : ((XS.forr it g x).f ⟨s, some (i0, co)⟩ κ) = (it.f s fun ws => ForI ws g x ⟨s, some (i0, co)⟩ κ) := rfl
theorem d_while0 {s : Sl} {κ : Ko} {t : XT} {x : XS} : ((XS.whil t x).f ⟨s, none⟩ κ) = (WhI t x ⟨s, none⟩ κ) := rfl
theorem d_while1 {s : Sl} {κ : Ko}{i0 : Nat} {co : Co} {t : XT} {x : XS} : ((XS.whil t x).f ⟨s, some (i0, co)⟩ κ) = (WhI t x ⟨s, some (i0, co)⟩ κ) := rfl
theorem d_newL0 {s : Sl} {κ : Ko} {i : Nat} {ar : XA} : ((XS.newL i ar).f ⟨s, none⟩ κ) = (i < s.length ∧ ar.f s fun ws => ws.length ≤ 100000 ∧ setC s i none fun s' => κ.nx ⟨s', some (i, .lst ws)⟩) := propext ⟨fun p => p.2, fun p => ⟨rfl, p⟩⟩
theorem d_newD0 {s : Sl} {κ : Ko} {i : Nat} {a : XE} : ((XS.newD i a).f ⟨s, none⟩ κ) = (i < s.length ∧ a.f s fun w => onA w fun al => (al.map (·.1)).Nodup ∧ setC s i none fun s' => κ.nx ⟨s', some (i, .dct al)⟩) := propext ⟨fun p => p.2, fun p => ⟨rfl, p⟩⟩
theorem d_newD00 {s : Sl} {κ : Ko} {i : Nat} : ((XS.newD0 i).f ⟨s, none⟩ κ) = (i < s.length ∧ setC s i none fun s' => κ.nx ⟨s', some (i, .dct [])⟩) := propext ⟨fun p => p.2, fun p => ⟨rfl, p⟩⟩
theorem d_app {s : Sl} {κ : Ko} {i : Nat} {a : XE} {xs : List W} : ((XS.app i a).f ⟨s, some (i, .lst xs)⟩ κ) = (xs.length < 100000 ∧ a.f s fun w => κ.nx ⟨s, some (i, .lst (xs ++ [w]))⟩) := propext ⟨fun ⟨ys, e, h, q⟩ => by cases e; exact ⟨h, q⟩, fun ⟨h, q⟩ => ⟨_, rfl, h, q⟩⟩
theorem d_appV {s : Sl} {κ : Ko} {i : Nat} {a : XE} {xs : List W} : ((XS.appV i a).f ⟨s, some (i, .lst xs)⟩ κ) = (xs.length < 100000 ∧ setC s i (some (.lst xs)) fun ρ => a.f ρ fun w => flC w (κ.nx ⟨s, some (i, .lst (xs ++ [w]))⟩)) := propext ⟨fun ⟨ys, e, h, q⟩ => by cases e; exact ⟨h, q⟩, fun ⟨h, q⟩ => ⟨_, rfl, h, q⟩⟩
theorem d_dput {s : Sl} {κ : Ko} {i j : Nat} {a : XE} {al : List (Int × Int)} : ((XS.dput i j a).f ⟨s, some (i, .dct al)⟩ κ) = (onS s j fun u => onI u fun x => al.length < 100000 ∧ a.f s fun w => onI w fun n => κ.nx ⟨s, some (i, .dct (putI al x (cf al x + n)))⟩) := propext ⟨fun ⟨ys, x, e, h, l, q⟩ => by cases e; exact ⟨_, h, x, rfl, l, q⟩, fun ⟨u, h, x, e, l, q⟩ => ⟨_, x, rfl, by rw [h, e], l, q⟩⟩
theorem d_here {ρ : Sl} {ar : XA} {R : List W → List W → Prop} : ((XAN.here ar).f ρ R) = (ar.f ρ fun ws => R [] ws) := rfl
theorem d_ncons {ρ : Sl} {a : XE} {x : XAN} {R : List W → List W → Prop} : ((XAN.cons a x).f ρ R) = (a.f ρ fun w => x.f ρ fun p q => R (w :: p) q) := rfl
theorem d_coL {xs : List W} : ((Co.lst xs).w) = (.lst xs) := rfl
theorem d_coD {al : List (Int × Int)} : ((Co.dct al).w) = (.dct al) := rfl
theorem d_off0 {s : Sl} {is : List Nat} : (Fr.off ⟨s, none⟩ is) = (True) := propext ⟨fun _ => trivial, fun _ q e => (by cases e)⟩
theorem d_off1 {s : Sl} {is : List Nat} {i : Nat} {co : Co} : (Fr.off ⟨s, some (i, co)⟩ is) = (i ∉ is) := propext ⟨fun p => p _ rfl, fun p q e => (by cases e; exact p)⟩
theorem d_xf {F : XF} {ws : List W} {Q : W → Prop} : (F.f ws Q) = (∃ a, ws = F.args a ∧ F.pre a ∧ ∀ w, F.post a w → Q w) := rfl
theorem d_peq {R : W → Prop} {u : W} : (∀ w, w = u → R w) = (R u) := propext ⟨fun h => h u rfl, fun h w e => (by rw [e]; exact h)⟩
theorem d_pex {α : Type} {p : α → Prop} {g : α → W} {R : W → Prop} : (∀ w, (∃ x, p x ∧ w = g x) → R w) = (∀ x, p x → R (g x)) := propext ⟨fun h x hx => h _ ⟨x, hx, rfl⟩, fun h w ⟨x, hx, e⟩ => (by rw [e]; exact h x hx)⟩
theorem d_wip0 {ρ : Sl} {S : Sl → Prop} : (wipeC ρ [] S) = (S ρ) := rfl
theorem d_wip1 {ρ : Sl} {S : Sl → Prop} {i : Nat} {is : List Nat} : (wipeC ρ (i :: is) S) = (wipeC ρ is fun ρ' => setC ρ' i none S) := rfl
end Z

namespace Z
open PySem L2
def runA := (And.intro (And.intro (And.intro (And.intro (And.intro (And.intro (And.intro (And.intro @onS_0 (And.intro @onS_n @onS_s)) (And.intro (And.intro @setC_0 @setC_s) (And.intro @on1_c @on2_c))) (And.intro (And.intro @on3_c (And.intro @on1_2 @on2_1)) (And.intro (And.intro @onI_non @onI_bl) (And.intro @onI_int @onI_str)))) (And.intro (And.intro (And.intro @onI_lst (And.intro @onI_tup @onI_rig)) (And.intro (And.intro @onI_arm @onI_mem) (And.intro @onI_scr @onI_dct))) (And.intro (And.intro @onI_src (And.intro @onB_non @onB_bl)) (And.intro (And.intro @onB_int @onB_str) (And.intro @onB_lst @onB_tup))))) (And.intro (And.intro (And.intro (And.intro @onB_rig (And.intro @onB_arm @onB_mem)) (And.intro (And.intro @onB_scr @onB_dct) (And.intro @onB_src @onStr_non))) (And.intro (And.intro @onStr_bl (And.intro @onStr_int @onStr_str)) (And.intro (And.intro @onStr_lst @onStr_tup) (And.intro @onStr_rig @onStr_arm)))) (And.intro (And.intro (And.intro @onStr_mem (And.intro @onStr_scr @onStr_dct)) (And.intro (And.intro @onStr_src @onT_non) (And.intro @onT_bl @onT_int))) (And.intro (And.intro @onT_str (And.intro @onT_lst @onT_tup)) (And.intro (And.intro @onT_rig @onT_arm) (And.intro @onT_mem @onT_scr)))))) (And.intro (And.intro (And.intro (And.intro (And.intro @onT_dct (And.intro @onT_src @onL_non)) (And.intro (And.intro @onL_bl @onL_int) (And.intro @onL_str @onL_lst))) (And.intro (And.intro @onL_tup (And.intro @onL_rig @onL_arm)) (And.intro (And.intro @onL_mem @onL_scr) (And.intro @onL_dct @onL_src)))) (And.intro (And.intro (And.intro @onA_non (And.intro @onA_bl @onA_int)) (And.intro (And.intro @onA_str @onA_lst) (And.intro @onA_tup @onA_rig))) (And.intro (And.intro @onA_arm (And.intro @onA_mem @onA_scr)) (And.intro (And.intro @onA_dct @onA_src) (And.intro @onR_non @onR_bl))))) (And.intro (And.intro (And.intro (And.intro @onR_int (And.intro @onR_str @onR_lst)) (And.intro (And.intro @onR_tup @onR_rig) (And.intro @onR_arm @onR_mem))) (And.intro (And.intro @onR_scr (And.intro @onR_dct @onR_src)) (And.intro (And.intro @onM_non @onM_bl) (And.intro @onM_int @onM_str)))) (And.intro (And.intro (And.intro @onM_lst (And.intro @onM_tup @onM_rig)) (And.intro (And.intro @onM_arm @onM_mem) (And.intro @onM_scr @onM_dct))) (And.intro (And.intro @onM_src (And.intro @onD_non @onD_bl)) (And.intro (And.intro @onD_int @onD_str) (And.intro @onD_lst @onD_tup))))))) (And.intro (And.intro (And.intro (And.intro (And.intro (And.intro @onD_rig (And.intro @onD_arm @onD_mem)) (And.intro (And.intro @onD_scr @onD_dct) (And.intro @onD_src @onScr_non))) (And.intro (And.intro @onScr_bl (And.intro @onScr_int @onScr_str)) (And.intro (And.intro @onScr_lst @onScr_tup) (And.intro @onScr_rig @onScr_arm)))) (And.intro (And.intro (And.intro @onScr_mem (And.intro @onScr_scr @onScr_dct)) (And.intro (And.intro @onScr_src @onIs_non) (And.intro @onAr_non @onIsT_non))) (And.intro (And.intro @itLC_non (And.intro @itTC_non @truC_non)) (And.intro (And.intro @sqC_non @flC_non) (And.intro @isC_true_non @eqC_true_non))))) (And.intro (And.intro (And.intro (And.intro @isC_false_non (And.intro @eqC_false_non @onIs_bl)) (And.intro (And.intro @onAr_bl @onIsT_bl) (And.intro @itLC_bl @itTC_bl))) (And.intro (And.intro @truC_bl (And.intro @sqC_bl @flC_bl)) (And.intro (And.intro @isC_true_bl @eqC_true_bl) (And.intro @isC_false_bl @eqC_false_bl)))) (And.intro (And.intro (And.intro @onIs_int (And.intro @onAr_int @onIsT_int)) (And.intro (And.intro @itLC_int @itTC_int) (And.intro @truC_int @sqC_int))) (And.intro (And.intro @flC_int (And.intro @isC_true_int @eqC_true_int)) (And.intro (And.intro @isC_false_int @eqC_false_int) (And.intro @onIs_str @onAr_str)))))) (And.intro (And.intro (And.intro (And.intro (And.intro @onIsT_str (And.intro @itLC_str @itTC_str)) (And.intro (And.intro @truC_str @sqC_str) (And.intro @flC_str @isC_true_str))) (And.intro (And.intro @eqC_true_str (And.intro @isC_false_str @eqC_false_str)) (And.intro (And.intro @onIsT_lst @itLC_lst) (And.intro @itTC_lst @truC_lst)))) (And.intro (And.intro (And.intro @sqC_lst (And.intro @flC_lst @isC_true_lst)) (And.intro (And.intro @eqC_true_lst @isC_false_lst) (And.intro @eqC_false_lst @onIs_tup))) (And.intro (And.intro @onAr_tup (And.intro @itLC_tup @itTC_tup)) (And.intro (And.intro @truC_tup @sqC_tup) (And.intro @flC_tup @isC_true_tup))))) (And.intro (And.intro (And.intro (And.intro @isC_false_tup (And.intro @onIs_rig @onAr_rig)) (And.intro (And.intro @onIsT_rig @itLC_rig) (And.intro @itTC_rig @truC_rig))) (And.intro (And.intro @sqC_rig (And.intro @flC_rig @isC_true_rig)) (And.intro (And.intro @eqC_true_rig @isC_false_rig) (And.intro @eqC_false_rig @onIs_arm)))) (And.intro (And.intro (And.intro @onAr_arm (And.intro @onIsT_arm @itLC_arm)) (And.intro (And.intro @itTC_arm @truC_arm) (And.intro @sqC_arm @flC_arm))) (And.intro (And.intro (And.intro @isC_true_arm @eqC_true_arm) (And.intro @isC_false_arm @eqC_false_arm)) (And.intro (And.intro @onIs_mem @onAr_mem) (And.intro @onIsT_mem @itLC_mem)))))))) (And.intro (And.intro (And.intro (And.intro (And.intro (And.intro (And.intro @itTC_mem (And.intro @truC_mem @sqC_mem)) (And.intro (And.intro @flC_mem @isC_true_mem) (And.intro @eqC_true_mem @isC_false_mem))) (And.intro (And.intro @eqC_false_mem (And.intro @onIs_scr @onAr_scr)) (And.intro (And.intro @onIsT_scr @itLC_scr) (And.intro @itTC_scr @truC_scr)))) (And.intro (And.intro (And.intro @sqC_scr (And.intro @flC_scr @isC_true_scr)) (And.intro (And.intro @eqC_true_scr @isC_false_scr) (And.intro @eqC_false_scr @onIs_dct))) (And.intro (And.intro @onAr_dct (And.intro @onIsT_dct @itLC_dct)) (And.intro (And.intro @itTC_dct @truC_dct) (And.intro @sqC_dct @flC_dct))))) (And.intro (And.intro (And.intro (And.intro @isC_true_dct (And.intro @eqC_true_dct @isC_false_dct)) (And.intro (And.intro @eqC_false_dct @onIs_src) (And.intro @onAr_src @onIsT_src))) (And.intro (And.intro @itLC_src (And.intro @itTC_src @truC_src)) (And.intro (And.intro @sqC_src @flC_src) (And.intro @isC_true_src @eqC_true_src)))) (And.intro (And.intro (And.intro @isC_false_src (And.intro @eqC_false_src @isTC_non_int)) (And.intro (And.intro @isTC_non_bool @isTC_non_str) (And.intro @isTC_non_list @isTC_non_tuple))) (And.intro (And.intro @isTC_non_dict (And.intro @isTC_bl_int @isTC_bl_bool)) (And.intro (And.intro @isTC_bl_str @isTC_bl_list) (And.intro @isTC_bl_tuple @isTC_bl_dict)))))) (And.intro (And.intro (And.intro (And.intro (And.intro @isTC_int_int (And.intro @isTC_int_bool @isTC_int_str)) (And.intro (And.intro @isTC_int_list @isTC_int_tuple) (And.intro @isTC_int_dict @isTC_str_int))) (And.intro (And.intro @isTC_str_bool (And.intro @isTC_str_str @isTC_str_list)) (And.intro (And.intro @isTC_str_tuple @isTC_str_dict) (And.intro @isTC_lst_int @isTC_lst_bool)))) (And.intro (And.intro (And.intro @isTC_lst_str (And.intro @isTC_lst_list @isTC_lst_tuple)) (And.intro (And.intro @isTC_lst_dict @isTC_tup_int) (And.intro @isTC_tup_bool @isTC_tup_str))) (And.intro (And.intro @isTC_tup_list (And.intro @isTC_tup_tuple @isTC_tup_dict)) (And.intro (And.intro @isTC_is_rR @isTC_is_tR) (And.intro @isTC_is_mM @isTC_is_tM))))) (And.intro (And.intro (And.intro (And.intro @onIs_m (And.intro @onIsT_m @onIs_0)) (And.intro (And.intro @onIs_c @onIs_r) (And.intro @onAr_m @onAt_0))) (And.intro (And.intro @onAt_1 (And.intro @onAt_2 @onAt_3)) (And.intro (And.intro @onAt_m @d_var) (And.intro @d_lit @d_op)))) (And.intro (And.intro (And.intro @d_un (And.intro @d_anil @d_acons)) (And.intro (And.intro @d_fn @d_call) (And.intro @d_ite @d_andV))) (And.intro (And.intro (And.intro @d_orV @d_notV) (And.intro @d_lst @d_tup)) (And.intro (And.intro @d_tupF @d_chain) (And.intro @d_tval @d_ttru))))))) (And.intro (And.intro (And.intro (And.intro (And.intro (And.intro @d_tand (And.intro @d_tor @d_tnot)) (And.intro (And.intro @d_tyes @d_pno) (And.intro @d_pat @d_sl))) (And.intro (And.intro @d_fldR (And.intro @d_fldM @d_prop)) (And.intro (And.intro @d_callO @d_mkRig) (And.intro @d_mkMem @d_dget)))) (And.intro (And.intro (And.intro @d_dget2 (And.intro @d_lrg2 @d_lrg3)) (And.intro (And.intro @d_comp @d_iseq) (And.intro @d_rng1 @d_rng2))) (And.intro (And.intro @d_enum (And.intro @d_zip @d_gname)) (And.intro (And.intro @d_gtup @d_glst) (And.intro @r_vlst @d_gnil))))) (And.intro (And.intro (And.intro (And.intro @d_gnil1 (And.intro @d_gcons @d_gcons0)) (And.intro (And.intro @d_oor @d_oii) (And.intro @d_oiic @d_ocatL))) (And.intro (And.intro @d_ocatT (And.intro @d_oixL @d_oixT)) (And.intro (And.intro @d_oixA @d_oeqS) (And.intro @d_oeqD @d_oisN)))) (And.intro (And.intro (And.intro @d_oneg (And.intro @d_uor @d_oownB)) (And.intro (And.intro @d_oownM @d_uownN) (And.intro @d_oownE @d_oownNe))) (And.intro (And.intro @d_nor (And.intro @d_nlen @d_nii)) (And.intro (And.intro @d_ni @d_nsum) (And.intro @d_nminL @d_nmaxL)))))) (And.intro (And.intro (And.intro (And.intro (And.intro @d_nmaxT (And.intro @d_nall @d_nint1)) (And.intro (And.intro @d_nlist @d_ntuple) (And.intro @d_ntupF @d_nsorI))) (And.intro (And.intro @d_nsorD (And.intro @d_nisi @onTy_ty)) (And.intro (And.intro @d_nisC @d_nown) (And.intro @d_asg0 @d_asg1)))) (And.intro (And.intro (And.intro @d_asgV0 (And.intro @d_asgV1 @d_par0)) (And.intro (And.intro @d_par1 @d_par30) (And.intro @d_par31 @d_ret0))) (And.intro (And.intro @d_ret1 (And.intro @d_retN0 @d_retN1)) (And.intro (And.intro @d_drop0 @d_drop1) (And.intro @d_next0 @d_next1))))) (And.intro (And.intro (And.intro (And.intro @d_never0 (And.intro @d_never1 @d_ifs0)) (And.intro (And.intro @d_ifs1 @d_frz0) (And.intro @d_frz1 @d_aug0))) (And.intro (And.intro @d_aug1 (And.intro @d_for0 @d_for1)) (And.intro (And.intro @d_while0 @d_while1) (And.intro @d_newL0 @d_newD0)))) (And.intro (And.intro (And.intro @d_newD00 (And.intro @d_app @d_appV)) (And.intro (And.intro @d_dput @d_here) (And.intro @d_ncons @d_coL))) (And.intro (And.intro (And.intro @d_coD @d_off0) (And.intro @d_off1 @d_xf)) (And.intro (And.intro @d_peq @d_pex) (And.intro @d_wip0 @d_wip1)))))))))
def runB := (And.intro (And.intro (And.intro (And.intro (And.intro (And.intro @Bool.not_eq_true @Bool.not_eq_false) (And.intro @r_eqR (And.intro @r_eqM @r_vname))) (And.intro (And.intro @r_vtup (And.intro @r_vnil @r_vcons)) (And.intro @r_wS0 (And.intro @r_wS1 @r_sA)))) (And.intro (And.intro (And.intro @r_sA0 @r_eqTR) (And.intro @r_eqTM (And.intro @r_gcons @r_gnil))) (And.intro (And.intro @r_parN (And.intro @is_rR @is_tR)) (And.intro @r_at0 (And.intro @r_at1 @r_at2))))) (And.intro (And.intro (And.intro (And.intro @r_at3 @tg01) (And.intro @tg02 (And.intro @tg03 @tg04))) (And.intro (And.intro @tg05 (And.intro @tg10 @tg12)) (And.intro @tg13 (And.intro @tg14 @tg15)))) (And.intro (And.intro (And.intro @tg20 @tg21) (And.intro @tg23 (And.intro @tg24 @tg25))) (And.intro (And.intro @tg30 (And.intro @tg31 @tg32)) (And.intro @tg34 (And.intro @tg35 @tg40)))))) (And.intro (And.intro (And.intro (And.intro (And.intro @tg41 @tg42) (And.intro @tg43 (And.intro @tg45 @tg50))) (And.intro (And.intro @tg51 (And.intro @tg52 @tg53)) (And.intro @tg54 (And.intro @W.int.injEq @W.bl.injEq)))) (And.intro (And.intro (And.intro @W.lst.injEq @W.tup.injEq) (And.intro @W.rig.injEq (And.intro @W.arm.injEq @W.mem.injEq))) (And.intro (And.intro @W.str.injEq (And.intro @W.dct.injEq @W.scr.injEq)) (And.intro @W.ty.injEq (And.intro @W.cls.injEq @and_assoc))))) (And.intro (And.intro (And.intro (And.intro @false_and @and_false) (And.intro @true_and (And.intro @and_true @or_false))) (And.intro (And.intro @false_or (And.intro @not_false_eq_true @not_true_eq_false)) (And.intro @Bool.not_false (And.intro @Bool.not_true @false_implies)))) (And.intro (And.intro (And.intro @true_implies @Bool.false_xor) (And.intro @Bool.true_xor (And.intro @Bool.not_eq_true' @Bool.not_eq_false'))) (And.intro (And.intro @and_self (And.intro @true_or @or_true)) (And.intro @or_self (And.intro @Bool.false_eq_true @Bool.true_eq_false)))))))
end Z

namespace Z
open PySem L2
/-! ### x[i] of an own object -/
theorem pe_ownIx {X : Cx} {k j : Nat} {C : Addr} {sp : Sp} {a b : Expr} {ta tb : TE} {pos : Pos} (c : Mx X.prog X.w X.K X.mg X.base k C "__getitem__" sp) (hr : Room j X.A) (hk : k + 1 ≤ j) (ha : PE X a ta) (hb : PE X b tb)
    (hs : ∀ o i : Value, subscripted b true o i = runValue (Code.builtin "lifetime.subscript" { pos := [o, i] })) : PE X (.Subscript a b pos) (tOp (rOwnMul C sp) ta tb) := ⟨fun pins s σ H Q I h => by
  refine PyProof.Rows.Subscript_ ?_
  refine wpAny_mono (ha.run pins s σ H _ I h) (fun v s1 z => ?_) fun _ _ e => e
  obtain ⟨x, H1, I1, rx, z⟩ := z
  refine wpAny_mono (hb.run pins s1 σ H1 _ I1 z) (fun u s2 z => ?_) fun _ _ e => e
  obtain ⟨y, H2, I2, ry, z⟩ := z
  obtain ⟨p, dx, fs, n, rfl, ho, rfl, q⟩ := z
  obtain rfl : v = Value.ref p := rx
  obtain ⟨f, hs', hf, hfn, G⟩ := c.ex
  obtain ⟨mA, J, _⟩ := ins_get I2.hok ho
  obtain ⟨od, J, _⟩ := J.look
  obtain ⟨m, hF⟩ := I2.fr
  refine PySem.W.sub_K hF I2.ok.mod.kin J hs' hfn hf ?_ (hs _ _)
  exact run_own G (hr.mono hk).in1 rfl I2 (.cons (show RelV (.ref p) (.ref p) from rfl) (.cons ry .nil)) q⟩
section
variable {K : PySem.W.Frag} {c : Cl} {te ta tb tc : TE} {tr : TA} {e a b d : XE} {ar : XA}
/-- dict(pairs) as a value -/
def XE.dctE (a : XE) : XE := ⟨fun ρ Q => a.f ρ fun w => ∃ al, w = .arm al ∧ (al.map (·.1)).Nodup ∧ Q (.dct al), fun k q => a.m (fun _ ⟨al, e, n, z⟩ => ⟨al, e, n, k _ z⟩) q⟩
theorem ev_dctE (ha : Ev K c ta a) : Ev K c (tCB (rDictT K) (tCons ta tNil)) (.dctE a) := fun ρ Q q σ h H en e R k => ha ρ _ q σ h H en e _ fun v h1 H1 s1 ⟨w, ⟨al, ew, nd, qw⟩, pw⟩ => by
  subst ew
  obtain ⟨p, o, xs, rfl, ho, od, dq⟩ := pw
  obtain ⟨ads, rfl, hp⟩ := pairs_I dq
  refine ⟨p, o, ads, encD al, rfl, s1.i _ _ ho, od, hp _ s1.i, fun r nr => ?_⟩
  have e0 : mergeK [] (encD al) = encD al := by
    have z := mergeK_enc al []
    rw [merge_nd al [] nd] at z
    exact z
  rw [e0]
  exact k _ (upd h1 r (.dK (encD al))) _ (s1.trans (Stp.new s1.i nr)) ⟨_, qw, r, rfl, upd_same⟩
theorem d_dctE {ρ : Sl} {Q : W → Prop} {a : XE} : ((XE.dctE a).f ρ Q) = (a.f ρ fun w => onA w fun al => (al.map (·.1)).Nodup ∧ Q (.dct al)) := rfl
/-- arms behind arms -/
def XO.catA : XO := ⟨fun x y Q => ∃ al bl, x = .arm al ∧ y = .arm bl ∧ al.length + bl.length ≤ 100000 ∧ Q (.tup (arW al ++ arW bl)), fun k ⟨i, j, a, b, d, q⟩ => ⟨i, j, a, b, d, k _ q⟩⟩
theorem eo_catA : EO K c (rCatA K) .catA := fun x y Q ⟨al, bl, ex, ey, hz, q⟩ u v h H a d e R k => by
  subst ex ey
  exact eo_catT (.tup (arW al)) (.tup (arW bl)) Q ⟨_, _, rfl, rfl, by rw [show (arW al).length = al.length from List.length_map .., show (arW bl).length = bl.length from List.length_map ..]; exact hz, q⟩ u v h H (itT_of (xs := arW al) rfl a) (itT_of (xs := arW bl) rfl d) e R k
theorem d_ocatA {x y : W} {Q : W → Prop} : ((XO.catA).f x y Q) = (onA x fun al => onA y fun bl => al.length + bl.length ≤ 100000 ∧ Q (.tup (arW al ++ arW bl))) := propext ⟨fun ⟨i, j, a, b, q⟩ => ⟨i, a, j, b, q⟩, fun ⟨i, a, j, b, q⟩ => ⟨i, j, a, b, q⟩⟩
end
section
variable {K : PySem.W.Frag} {c : Cl}
/-- None or a number, compared -/
def W.oi : W → Bool | .non => true | .int _ => true | _ => false
def XO.eqN (n : Bool) : XO := ⟨fun x y Q => x.oi = true ∧ y.oi = true ∧ Q (.bl (n ^^ decide (x = y))), fun k ⟨a, b, q⟩ => ⟨a, b, k _ q⟩⟩
theorem oi_v {x y : W} (hx : x.oi = true) (hy : y.oi = true) {u v : V} {h h' : Hp} (a : (x.p K c).p u h) (d : (y.p K c).p v h') : scal u v = true ∧ decide (u = v) = decide (x = y) := by
  cases x <;> first | (cases hx; done) | skip
  · obtain rfl := dp_non a
    cases y <;> first | (cases hy; done) | skip
    · obtain rfl := dp_non d; exact ⟨rfl, by simp⟩
    · obtain rfl := dp_int d; exact ⟨rfl, by simp⟩
  · obtain rfl := dp_int a
    cases y <;> first | (cases hy; done) | skip
    · obtain rfl := dp_non d; exact ⟨rfl, by simp⟩
    · obtain rfl := dp_int d; exact ⟨rfl, by simp⟩
theorem eo_eqN : EO K c rEq (.eqN false) := fun x y Q ⟨hx, hy, q⟩ u v h H a d e R k => by
  obtain ⟨z1, z2⟩ := oi_v hx hy a d
  exact ⟨z1, k _ h H (Stp.refl e) ⟨_, q, by rw [z2, Bool.false_xor]; exact Dq.bl _⟩⟩
theorem eo_neN : EO K c rNe (.eqN true) := fun x y Q ⟨hx, hy, q⟩ u v h H a d e R k => by
  obtain ⟨z1, z2⟩ := oi_v hx hy a d
  exact ⟨z1, k _ h H (Stp.refl e) ⟨_, q, by rw [z2, Bool.true_xor]; exact Dq.bl _⟩⟩
theorem d_eqN {x y : W} {Q : W → Prop} {n : Bool} : ((XO.eqN n).f x y Q) = (x.oi = true ∧ y.oi = true ∧ Q (.bl (n ^^ decide (x = y)))) := rfl
abbrev rDvm : List V → Hp → VK → Prop := fun xs H Q => ∃ i j, xs = [.int i, .int j] ∧ CDiv i j ∧ ∀ p, H p = none → Q (.ref p) (upd H p (.tup [.int (i / j), .int (i % j)]))
def XN.dvm : XN := ⟨fun ws Q => ∃ i j, ws = [.int i, .int j] ∧ CDiv i j ∧ Q (.tup [.int (i / j), .int (i % j)]), fun k ⟨i, j, e, d, q⟩ => ⟨i, j, e, d, k _ q⟩⟩
theorem en_dvm : EN K c rDvm .dvm := fun ws Q ⟨i, j, e1, cd, q⟩ vs h H a e R k => by
  subst e1
  cases a with
  | cons pv r =>
    cases r with
    | cons pu r =>
      cases r
      obtain rfl := dp_int pv
      obtain rfl := dp_int pu
      exact ⟨i, j, rfl, cd, fun p np => k _ (upd h p (.tup [.int (i / j), .int (i % j)])) _ (Stp.new e np) ⟨_, q, p, [V.int (i / j), V.int (i % j)], rfl, .inl (.inl upd_same), .cons (Dq.int _) (.cons (Dq.int _) .nil)⟩⟩
theorem d_ndvm {ws : List W} {Q : W → Prop} : (XN.dvm.f ws Q) = (on2 ws fun x y => onI x fun i => onI y fun j => CDiv i j ∧ Q (.tup [.int (i / j), .int (i % j)])) := propext ⟨fun ⟨i, j, e, d, q⟩ => ⟨_, _, e, i, rfl, j, rfl, d, q⟩, fun ⟨x, y, e, i, e1, j, e2, d, q⟩ => ⟨i, j, by rw [e, e1, e2], d, q⟩⟩
theorem d_brk {φ : Fr} {κ : Ko} : (XS.brk.f φ κ) = (κ.bk φ) := rfl
theorem es_brk : ES K c tBreak .brk := fun φ κ b D q lk => lk.bk φ q
theorem oi_non : W.oi .non = true := rfl
theorem oi_int {i : Int} : W.oi (.int i) = true := rfl
end
/-! ### xs in ([0], []) -/
def rInDT (K : PySem.W.Frag) : R2 := fun x y H Q => ∃ d ds, L2.Dp K H x d ∧ L2.Dp K H y (.tuple ds) ∧ SeqAt.shaped d = true ∧ SeqAt.shaped (.tuple ds) = true ∧ (∀ z ∈ ds, SeqAt.noMix z d = true) ∧ Q (.bl (decide (Spec.countIn d ds ≠ 0))) H
theorem op_inDT {X : Cx} (hu : X.A.units + 65 < cLine) : OpR X (compareOp .In) (rInDT X.K) := by
  intro pins s σ H x y v u Q I rx ry h
  obtain ⟨d, ds, hd, hy, s1, s2, nm, q⟩ := h
  obtain ⟨as, ra⟩ := L2.Dp.reads I d x v hd rx
  obtain ⟨bs, rb⟩ := L2.Dp.reads I (.tuple ds) y u hy ry
  exact PyProof.Rows.in_tuple_dataH rb ra s2 s1 hu nm ⟨.bl (decide (Spec.countIn d ds ≠ 0)), H, I, rfl, q⟩
section
variable {K : PySem.W.Frag} {c : Cl}
def XO.inZ : XO := ⟨fun x y Q => ∃ ns : List Int, (ns = [0] ∨ ns = []) ∧ x = .lst (ns.map .int) ∧ y = .tup [.lst [.int 0], .lst []] ∧ Q (.bl true), fun k ⟨ns, a, b, d, q⟩ => ⟨ns, a, b, d, k _ q⟩⟩
theorem inz_val (ns : List Int) (h : ns = [0] ∨ ns = []) : decide (Spec.countIn (W.dat (.lst (ns.map .int))) [.list [.int 0], .list []] ≠ 0) = true := by
  rcases h with rfl | rfl
  · decide +kernel
  · decide +kernel
theorem eo_inZ : EO K c (rInDT K) .inZ := fun x y Q ⟨ns, hn, ex, ey, q⟩ u v h H a d e R k => by
  subst ex ey
  have px : Pl 60 (W.lst (ns.map W.int)) := fun z hz => by
    obtain ⟨m, _, rfl⟩ := List.mem_map.mp hz
    exact trivial
  have py : Pl 60 (W.tup [.lst [.int 0], .lst []]) := fun z hz => by
    rcases List.mem_cons.mp hz with rfl | hz
    · exact fun z hz => by rw [List.mem_singleton.mp hz]; exact trivial
    · rw [List.mem_singleton.mp hz]; exact fun z hz => by cases hz
  have dx := (pl_dat (K := K) (c := c) 60 _ px).1 u h a
  have dy := (pl_dat (K := K) (c := c) 60 _ py).1 v h d
  refine ⟨_, [.list [.int 0], .list []], dq_dp (dp_ex e dx), dq_dp (dp_ex e dy), pl_shape (K := K) (c := c) px (by decide), pl_shape (K := K) (c := c) py (by decide), fun z hz => ?_, ?_⟩
  · rcases hn with rfl | rfl
    · rcases List.mem_cons.mp hz with rfl | hz
      · rfl
      · rw [List.mem_singleton.mp hz]; rfl
    · rcases List.mem_cons.mp hz with rfl | hz
      · rfl
      · rw [List.mem_singleton.mp hz]; rfl
  · rw [inz_val ns hn]
    exact k _ h H (Stp.refl e) ⟨_, q, Dq.bl _⟩
theorem d_inZ {x y : W} {Q : W → Prop} : ((XO.inZ).f x y Q) = (∃ ns : List Int, (ns = [0] ∨ ns = []) ∧ x = .lst (ns.map .int) ∧ y = .tup [.lst [.int 0], .lst []] ∧ Q (.bl true)) := rfl
end
def rNotInDT (K : PySem.W.Frag) : R2 := fun x y H Q => ∃ d ds, L2.Dp K H x d ∧ L2.Dp K H y (.tuple ds) ∧ SeqAt.shaped d = true ∧ SeqAt.shaped (.tuple ds) = true ∧ (∀ z ∈ ds, SeqAt.noMix z d = true) ∧ Q (.bl (!decide (Spec.countIn d ds ≠ 0))) H
theorem op_notInDT {X : Cx} (hu : X.A.units + 65 < cLine) : OpR X (compareOp .NotIn) (rNotInDT X.K) := by
  intro pins s σ H x y v u Q I rx ry h
  obtain ⟨d, ds, hd, hy, s1, s2, nm, q⟩ := h
  obtain ⟨as, ra⟩ := L2.Dp.reads I d x v hd rx
  obtain ⟨bs, rb⟩ := L2.Dp.reads I (.tuple ds) y u hy ry
  exact PyProof.Rows.notIn_tuple_dataH rb ra s2 s1 hu nm ⟨.bl (!decide (Spec.countIn d ds ≠ 0)), H, I, rfl, q⟩
section
variable {K : PySem.W.Frag} {c : Cl}
def XO.notZ : XO := ⟨fun x y Q => ∃ ns : List Int, (ns = [0] ∨ ns = []) ∧ x = .lst (ns.map .int) ∧ y = .tup [.lst [.int 0], .lst []] ∧ Q (.bl false), fun k ⟨ns, a, b, d, q⟩ => ⟨ns, a, b, d, k _ q⟩⟩
theorem eo_notZ : EO K c (rNotInDT K) .notZ := fun x y Q ⟨ns, hn, ex, ey, q⟩ u v h H a d e R k => by
  subst ex ey
  have px : Pl 60 (W.lst (ns.map W.int)) := fun z hz => by
    obtain ⟨m, _, rfl⟩ := List.mem_map.mp hz
    exact trivial
  have py : Pl 60 (W.tup [.lst [.int 0], .lst []]) := fun z hz => by
    rcases List.mem_cons.mp hz with rfl | hz
    · exact fun z hz => by rw [List.mem_singleton.mp hz]; exact trivial
    · rw [List.mem_singleton.mp hz]; exact fun z hz => by cases hz
  have dx := (pl_dat (K := K) (c := c) 60 _ px).1 u h a
  have dy := (pl_dat (K := K) (c := c) 60 _ py).1 v h d
  refine ⟨_, [.list [.int 0], .list []], dq_dp (dp_ex e dx), dq_dp (dp_ex e dy), pl_shape (K := K) (c := c) px (by decide), pl_shape (K := K) (c := c) py (by decide), fun z hz => ?_, ?_⟩
  · rcases hn with rfl | rfl
    · rcases List.mem_cons.mp hz with rfl | hz
      · rfl
      · rw [List.mem_singleton.mp hz]; rfl
    · rcases List.mem_cons.mp hz with rfl | hz
      · rfl
      · rw [List.mem_singleton.mp hz]; rfl
  · rw [inz_val ns hn]
    exact k _ h H (Stp.refl e) ⟨_, q, Dq.bl _⟩
theorem d_notZ {x y : W} {Q : W → Prop} : ((XO.notZ).f x y Q) = (∃ ns : List Int, (ns = [0] ∨ ns = []) ∧ x = .lst (ns.map .int) ∧ y = .tup [.lst [.int 0], .lst []] ∧ Q (.bl false)) := rfl
end
theorem room65 {k : Nat} {A : Around} (h : Room k A) : A.units + 65 < cLine := by
  have := h.un; omega
def runC := And.intro @d_dctE (And.intro @d_ocatA (And.intro @d_eqN (And.intro @oi_non (And.intro @oi_int (And.intro @d_brk (And.intro @d_ndvm (And.intro @d_inZ @d_notZ)))))))
end Z

namespace Pf
open PySem L2 Z PyProof.Rows
def isPl (p : Int) : Bool := decide (-1000000 ≤ p) && decide (p ≤ 1000000)
theorem isPl_of {p : Int} (h : -1000000 ≤ p ∧ p ≤ 1000000) : isPl p = true := by simp [isPl, h.1, h.2]
theorem getD_mem {xs : List Int} {i : Nat} (h : i < xs.length) : xs.getD i 0 ∈ xs := by
  rw [List.getD_eq_getElem?_getD, List.getElem?_eq_getElem h]; exact List.getElem_mem h
-- from t_mem2.lean
def btw (p i j : Int) : Bool := decide (min i j < p) && decide (p < max i j)
def fitB (ps : List Int) (i : Nat) : Bool := isPl (ps.getD i 0) && (if i = 0 then decide (ps.getD 0 0 ≤ 0) else if i = 1 then decide (ps.getD 0 0 < ps.getD 1 0) else btw (ps.getD i 0) (ps.getD (i - 2) 0) (ps.getD (i - 1) 0))
def okMem (ps : List Int) : Prop := ps ≠ [] ∧ ps.length ≤ 5000 ∧ ∀ i, i < ps.length → fitB ps i = true
def runL (p : Int) : List Int → Nat
  | a :: b :: r => if btw p a b = true then runL p (b :: r) + 1 else 0
  | _ => 0
theorem runL_lt (p : Int) : ∀ ps : List Int, ps ≠ [] → runL p ps + 1 ≤ ps.length
  | [], h => absurd rfl h
  | [a], _ => Nat.le_refl _
  | a :: b :: r, _ => by
    unfold runL
    have := runL_lt p (b :: r) (List.cons_ne_nil _ _)
    split
    · simp only [List.length_cons] at this ⊢; omega
    · simp
def aft (ps : List Int) (p : Int) : List Int := if p ≤ ps.getD 0 0 then [p] else ps.take (runL p ps + 1) ++ [p]
theorem aft_len (ps : List Int) (p : Int) (h : ps ≠ []) : (aft ps p).length ≤ ps.length + 1 ∧ aft ps p ≠ [] := by
  unfold aft
  split
  · exact ⟨by have := List.length_pos_iff.mpr h; simp, by simp⟩
  · exact ⟨by rw [List.length_append, List.length_take]; simp; omega, by simp⟩
theorem runL_step {p : Int} {ps : List Int} {g : Nat} (h1 : 1 ≤ g) (h2 : g < ps.length) : runL p (ps.drop (g - 1)) = if btw p (ps.getD (g - 1) 0) (ps.getD g 0) = true then runL p (ps.drop g) + 1 else 0 := by
  have e1 : ps.drop (g - 1) = ps[g - 1] :: ps.drop g := by
    rw [List.drop_eq_getElem_cons (by omega)]
    congr 2; omega
  have e2 : ps.drop g = ps[g] :: ps.drop (g + 1) := List.drop_eq_getElem_cons h2
  rw [e1, e2]
  have a1 : ps.getD (g - 1) 0 = ps[g - 1] := by rw [List.getD_eq_getElem?_getD, List.getElem?_eq_getElem (by omega)]; rfl
  have a2 : ps.getD g 0 = ps[g] := by rw [List.getD_eq_getElem?_getD, List.getElem?_eq_getElem h2]; rfl
  rw [a1, a2]
  rfl
theorem getD_some {ps : List Int} {i : Nat} (h : i < ps.length) : ps[i]? = some (ps.getD i 0) := by
  rw [List.getD_eq_getElem?_getD, List.getElem?_eq_getElem h]; rfl
theorem at_getD {ps : List Int} {i : Nat} (h : i < ps.length) : atI ps (i : Int) = some (ps.getD i 0) := atI_nat (getD_some h)
-- from t_mem4.lean
def leB (lo : Bool) (a b : Int) : Prop := if lo = true then a ≤ b else b ≤ a
/-- ms is the memory of the places xs, the lowest (highest) first -/
inductive Mean : Bool → List Int → List Int → Prop
  | last {lo : Bool} {E : Int} (a : List Int) (h : ∀ y ∈ a, leB lo E y) : Mean lo (a ++ [E]) [E]
  | more {lo : Bool} {E : Int} {t ms : List Int} (a : List Int) (h : ∀ y ∈ a, leB lo E y) (h2 : ∀ y ∈ t, ¬ leB lo y E) (ne : t ≠ []) (m : Mean (!lo) (E :: t) ms) : Mean lo (a ++ E :: t) (E :: ms)
theorem leB_trans {lo : Bool} {a b c : Int} (h : leB lo a b) (k : leB lo b c) : leB lo a c := by
  cases lo <;> simp [leB] at * <;> omega
theorem leB_not {lo : Bool} {a b : Int} (h : ¬ leB lo a b) : leB (!lo) a b ∧ leB lo b a := by
  cases lo <;> simp [leB] at * <;> omega
theorem leB_rfl {lo : Bool} {a : Int} : leB lo a a := by cases lo <;> simp [leB]
theorem Mean.head {lo : Bool} {xs ms : List Int} (m : Mean lo xs ms) : ∃ F r, ms = F :: r ∧ ∀ y ∈ xs, leB lo F y := by
  cases m with
  | @last lo E a h =>
    refine ⟨E, [], rfl, fun y hy => ?_⟩
    rcases List.mem_append.mp hy with q | q
    · exact h y q
    · rw [List.mem_singleton.mp q]; exact leB_rfl
  | @more lo E t ms a h h2 ne m =>
    refine ⟨E, ms, rfl, fun y hy => ?_⟩
    rcases List.mem_append.mp hy with q | q
    · exact h y q
    · rcases List.mem_cons.mp q with q | q
      · rw [q]; exact leB_rfl
      · exact (leB_not (h2 y q)).2
def updL (lo : Bool) (ms : List Int) (p : Int) : List Int := if (if lo = true then decide (p ≤ ms.getD 0 0) else decide (ms.getD 0 0 ≤ p)) = true then [p] else ms.take (runL p ms + 1) ++ [p]
theorem updL_yes {lo : Bool} {E p : Int} {r : List Int} (h : leB lo p E) : updL lo (E :: r) p = [p] := by
  unfold updL
  refine if_pos ?_
  cases lo <;> simp [leB] at * <;> exact h
theorem updL_no {lo : Bool} {E p : Int} {r : List Int} (h : ¬ leB lo p E) : updL lo (E :: r) p = (E :: r).take (runL p (E :: r) + 1) ++ [p] := by
  unfold updL
  refine if_neg ?_
  cases lo <;> simp [leB] at * <;> exact h
theorem Mean.upd {p : Int} : ∀ {lo : Bool} {xs ms : List Int}, Mean lo xs ms → Mean lo (xs ++ [p]) (updL lo ms p) := by
  intro lo xs ms m
  induction m with
  | @last lo E a h =>
    by_cases c : leB lo p E
    · rw [updL_yes c]
      refine Mean.last (a ++ [E]) fun y hy => ?_
      rcases List.mem_append.mp hy with q | q
      · exact leB_trans c (h y q)
      · rw [List.mem_singleton.mp q]; exact c
    · rw [updL_no c, List.append_assoc]
      refine Mean.more (t := [p]) (ms := [p]) a h (fun y hy => ?_) (by simp) ?_
      · rw [List.mem_singleton.mp hy]; exact c
      · refine Mean.last [E] fun y hy => ?_
        rw [List.mem_singleton.mp hy]; exact (leB_not c).1
  | @more lo E t ms a h h2 ne m ih =>
    by_cases c : leB lo p E
    · rw [updL_yes c]
      refine Mean.last (a ++ E :: t) fun y hy => ?_
      rcases List.mem_append.mp hy with q | q
      · exact leB_trans c (h y q)
      · rcases List.mem_cons.mp q with q | q
        · rw [q]; exact c
        · exact leB_trans c (leB_not (h2 y q)).2
    · have e : updL lo (E :: ms) p = E :: updL (!lo) ms p := by
        rw [updL_no c]
        obtain ⟨F, r, rfl, hF⟩ := m.head
        have hE : leB (!lo) F E := hF E List.mem_cons_self
        by_cases c2 : leB (!lo) p F
        · rw [updL_yes c2]
          have : btw p E F = false := by
            unfold btw
            cases lo <;> simp [leB] at * <;> omega
          have r0 : runL p (E :: F :: r) = 0 := by
            show (if btw p E F = true then _ else 0) = 0
            rw [this]; simp
          rw [r0]; rfl
        · rw [updL_no c2]
          have : btw p E F = true := by
            unfold btw
            cases lo <;> simp [leB] at * <;> omega
          have r1 : runL p (E :: F :: r) = runL p (F :: r) + 1 := by
            show (if btw p E F = true then _ else 0) = _
            rw [if_pos this]
          rw [r1]; rfl
      rw [e, List.append_assoc]
      refine Mean.more (t := t ++ [p]) a h (fun y hy => ?_) (by simp) ih
      rcases List.mem_append.mp hy with q | q
      · exact h2 y q
      · rw [List.mem_singleton.mp q]; exact c
def memF (row : List Int) : List Int := row.foldl aft [0]
theorem aft_updL (ms : List Int) (p : Int) : aft ms p = updL true ms p := by
  unfold aft updL
  simp
theorem mean_fold : ∀ (row xs ms : List Int), Mean true xs ms → Mean true (xs ++ row) (row.foldl aft ms)
  | [], xs, ms, m => by rw [List.append_nil]; exact m
  | p :: row, xs, ms, m => by
    have := mean_fold row (xs ++ [p]) (aft ms p) (by rw [aft_updL]; exact m.upd)
    rw [List.append_assoc] at this
    exact this
theorem mean_mem (row : List Int) : Mean true (0 :: row) (memF row) := mean_fold row [0] [0] (Mean.last [] (by simp))
theorem getD_take {ps : List Int} {n i : Nat} (h : i < n) : (ps.take n).getD i 0 = ps.getD i 0 := by
  rw [List.getD_eq_getElem?_getD, List.getD_eq_getElem?_getD, List.getElem?_take_of_lt h]
theorem getD_app {xs ys : List Int} {i : Nat} (h : i < xs.length) : (xs ++ ys).getD i 0 = xs.getD i 0 := by
  rw [List.getD_eq_getElem?_getD, List.getD_eq_getElem?_getD, List.getElem?_append_left h]
theorem runL_btw {p : Int} : ∀ {ps : List Int} {j : Nat}, j < runL p ps → btw p (ps.getD j 0) (ps.getD (j + 1) 0) = true
  | [], j, h => by simp [runL] at h
  | [a], j, h => by simp [runL] at h
  | a :: c :: r, j, h => by
    unfold runL at h
    by_cases e : btw p a c = true
    · rw [if_pos e] at h
      cases j with
      | zero => exact e
      | succ j => exact runL_btw (ps := c :: r) (j := j) (by omega)
    · rw [if_neg e] at h; omega
theorem fitB_pre {ps qs : List Int} {i : Nat} (h : ∀ j, j ≤ i → qs.getD j 0 = ps.getD j 0) : fitB qs i = fitB ps i := by
  unfold fitB
  by_cases h0 : i = 0
  · subst h0; rw [if_pos rfl, if_pos rfl, h 0 (Nat.le_refl _)]
  · by_cases h1 : i = 1
    · subst h1; rw [if_neg h0, if_neg h0, if_pos rfl, if_pos rfl, h 0 (by omega), h 1 (Nat.le_refl _)]
    · rw [if_neg h0, if_neg h0, if_neg h1, if_neg h1, h i (Nat.le_refl _), h (i - 2) (by omega), h (i - 1) (by omega)]
theorem okMem_aft {ps : List Int} {p : Int} (ok : okMem ps) (hp : isPl p = true) (hl : ps.length < 5000) : okMem (aft ps p) := by
  obtain ⟨ne, _, fit⟩ := ok
  have l := aft_len ps p ne
  refine ⟨l.2, by omega, fun i hi => ?_⟩
  have h0 : 0 < ps.length := List.length_pos_iff.mpr ne
  have f0 := fit 0 h0
  unfold aft at hi ⊢
  by_cases c : p ≤ ps.getD 0 0
  · rw [if_pos c] at hi ⊢
    have : i = 0 := by simpa using hi
    subst this
    have q : ps.getD 0 0 ≤ 0 := by
      unfold fitB at f0
      rw [if_pos rfl, Bool.and_eq_true] at f0
      exact of_decide_eq_true f0.2
    unfold fitB
    rw [if_pos rfl]
    show (isPl p && decide (p ≤ 0)) = true
    rw [hp, decide_eq_true (Int.le_trans c q)]; rfl
  · rw [if_neg c] at hi ⊢
    have rl := runL_lt p ps ne
    have lt : (ps.take (runL p ps + 1)).length = runL p ps + 1 := by rw [List.length_take]; omega
    rw [List.length_append, lt, List.length_singleton] at hi
    by_cases hlast : i = runL p ps + 1
    · subst hlast
      have e1 : (ps.take (runL p ps + 1) ++ [p]).getD (runL p ps + 1) 0 = p := by
        rw [List.getD_eq_getElem?_getD, List.getElem?_append_right (by omega), lt, Nat.sub_self]; rfl
      have e2 : ∀ j, j ≤ runL p ps → (ps.take (runL p ps + 1) ++ [p]).getD j 0 = ps.getD j 0 := fun j hj => by
        rw [getD_app (by omega), getD_take (by omega)]
      unfold fitB
      rw [e1, hp, Bool.true_and, if_neg (by omega)]
      by_cases h1 : runL p ps = 0
      · rw [if_pos (by omega), e2 0 (by omega)]
        have : (ps.take (runL p ps + 1) ++ [p]).getD 1 0 = p := by
          have := e1
          rw [h1] at this ⊢
          exact this
        rw [this]
        exact decide_eq_true (by omega)
      · rw [if_neg (by omega), e2 _ (by omega), e2 _ (by omega)]
        have := runL_btw (p := p) (ps := ps) (j := runL p ps - 1) (by omega)
        have a1 : runL p ps + 1 - 2 = runL p ps - 1 := by omega
        have a2 : runL p ps + 1 - 1 = runL p ps - 1 + 1 := by omega
        rw [a1, a2]
        exact this
    · have hi' : i < ps.length := by omega
      rw [fitB_pre (ps := ps) fun j hj => by rw [getD_app (by omega), getD_take (by omega)]]
      exact fit i hi'
theorem okMem_zero : okMem [0] := ⟨by simp, by simp, fun i hi => by
  have : i = 0 := by simpa using hi
  subst this; decide⟩
theorem okMem_fold : ∀ (row ps : List Int), okMem ps → (∀ x ∈ row, isPl x = true) → ps.length + row.length ≤ 5000 → okMem (row.foldl aft ps) ∧ (row.foldl aft ps).length ≤ ps.length + row.length
  | [], ps, ok, _, _ => ⟨ok, by simp⟩
  | p :: row, ps, ok, hp, hl => by
    rw [List.length_cons] at hl
    have l := aft_len ps p ok.1
    have := okMem_fold row (aft ps p) (okMem_aft ok (hp p List.mem_cons_self) (by omega)) (fun x hx => hp x (List.mem_cons_of_mem _ hx)) (by omega)
    refine ⟨this.1, ?_⟩
    have := this.2
    show (row.foldl aft (aft ps p)).length ≤ _
    rw [List.length_cons]
    omega
theorem okMem_memF {row : List Int} (hp : ∀ x ∈ row, isPl x = true) (hl : row.length ≤ 4000) : okMem (memF row) ∧ (memF row).length ≤ row.length + 1 := by
  have := okMem_fold row [0] okMem_zero hp (by simp; omega)
  refine ⟨this.1, ?_⟩
  have := this.2
  show (row.foldl aft [0]).length ≤ _
  simp at this ⊢
  omega
-- from t_mem5.lean
abbrev fPl : Str := "_places"
theorem at_lastI {ps : List Int} (h : ps ≠ []) : atI ps (-1) = some (ps.getLast h) := by
  conv => lhs; rw [← List.dropLast_concat_getLast h]
  exact atI_last _ _
def rowM (ps : List Int) : List Int := if ps.getD 0 0 = 0 then ps.drop 1 else ps
-- from t_mean.lean
theorem leB_anti {lo : Bool} {a b : Int} (h : leB lo a b) (k : leB lo b a) : a = b := by
  cases lo <;> simp [leB] at * <;> omega
theorem getD_at {xs : List Int} {i : Nat} {z : Int} (h : xs[i]? = some z) : xs.getD i 0 = z := by rw [List.getD_eq_getElem?_getD, h]; rfl
theorem mean_at {lo : Bool} {xs ms : List Int} {m : Int} (M : Mean lo xs ms) (hm : m ∈ xs) (hx : ∀ y ∈ xs, leB lo m y) :
    ∃ j, j < xs.length ∧ xs.getD j 0 = m ∧ (∀ j', j < j' → j' < xs.length → xs.getD j' 0 ≠ m) ∧ ((j + 1 = xs.length ∧ ms = [m]) ∨ (j + 1 < xs.length ∧ ∃ ms', ms = m :: ms' ∧ Mean (!lo) (xs.drop j) ms')) := by
  obtain ⟨F, r, hF, hle⟩ := M.head
  cases M with
  | @last lo E a h =>
    cases hF
    have e : m = F := leB_anti (hx F (by simp)) (hle m hm)
    subst e
    refine ⟨a.length, by simp, getD_at (by simp), fun j' h1 h2 => ?_, .inl ⟨by simp, rfl⟩⟩
    simp at h2
    omega
  | @more lo E t ms a h h2 ne M =>
    cases hF
    have e : m = F := leB_anti (hx F (by simp)) (hle m hm)
    subst e
    have tp : 0 < t.length := List.length_pos_iff.mpr ne
    refine ⟨a.length, by simp, getD_at (by simp), fun j' h1 h3 c => ?_, .inr ⟨by simp; omega, r, rfl, by rw [List.drop_left]; exact M⟩⟩
    simp at h3
    have e1 : (a ++ m :: t).getD j' 0 = t.getD (j' - a.length - 1) 0 := by
      rw [List.getD_eq_getElem?_getD, List.getD_eq_getElem?_getD, List.getElem?_append_right (by omega)]
      obtain ⟨q, hq⟩ : ∃ q, j' - a.length = q + 1 := ⟨j' - a.length - 1, by omega⟩
      rw [hq, List.getElem?_cons_succ, Nat.add_sub_cancel]
    have : t.getD (j' - a.length - 1) 0 ∈ t := getD_mem (by omega)
    rw [← e1, c] at this
    exact h2 m this leB_rfl
theorem Mean.ne {lo : Bool} {xs ms : List Int} (M : Mean lo xs ms) : xs ≠ [] := by cases M <;> simp
-- from t_min.lean
theorem leB_total {lo : Bool} {a b : Int} : leB lo a b ∨ leB lo b a := by
  cases lo <;> simp [leB] <;> omega
theorem Mean.drop1 {lo : Bool} {E : Int} {t ms : List Int} (M : Mean lo (E :: t) ms) (ne : t ≠ []) (h : ∀ y ∈ t, ¬ leB lo E y) : Mean lo t ms := by
  generalize hxs : E :: t = xs at M
  cases M with
  | @last lo F a h' =>
    cases a with
    | nil =>
      cases hxs
      exact absurd rfl ne
    | cons a0 a =>
      have e1 : t = a ++ [F] := (List.cons.inj hxs).2
      subst e1
      exact Mean.last a fun y hy => h' y (List.mem_cons_of_mem _ hy)
  | @more lo F t' ms a h' h2 ne' M =>
    cases a with
    | nil =>
      cases hxs
      obtain ⟨y, hy⟩ := List.exists_mem_of_ne_nil t ne
      rcases leB_total (lo := lo) (a := E) (b := y) with q | q
      · exact absurd q (h y hy)
      · exact absurd q (h2 y hy)
    | cons a0 a =>
      have e1 : t = a ++ F :: t' := (List.cons.inj hxs).2
      subst e1
      exact Mean.more a (fun y hy => h' y (List.mem_cons_of_mem _ hy)) h2 ne' M
theorem Mean.pre {lo : Bool} {x : Int} {xs ms : List Int} (M : Mean lo xs ms) (h : ∀ F r, ms = F :: r → leB lo F x) : Mean lo (x :: xs) ms := by
  cases M with
  | @last lo F a h' =>
    refine Mean.last (x :: a) fun y hy => ?_
    rcases List.mem_cons.mp hy with q | q
    · rw [q]; exact h _ _ rfl
    · exact h' y q
  | @more lo F t' ms a h' h2 ne' M =>
    refine Mean.more (x :: a) (fun y hy => ?_) h2 ne' M
    rcases List.mem_cons.mp hy with q | q
    · rw [q]; exact h _ _ rfl
    · exact h' y q
theorem Mean.next {lo : Bool} {E : Int} {t ms : List Int} (M : Mean (!lo) (E :: t) ms) (ne : t ≠ []) (h2 : ∀ y ∈ t, ¬ leB lo y E) : Mean (!lo) t ms := M.drop1 ne fun y hy => by
  have := h2 y hy
  cases lo <;> simp [leB] at * <;> omega
theorem Mean.sub : ∀ {ms : List Int} {lo : Bool} {xs : List Int}, Mean lo xs ms → ms.Sublist xs
  | [], lo, xs, M => List.nil_sublist _
  | E :: ms, lo, xs, M => by
    cases M with
    | last a h => exact List.sublist_append_right a [E]
    | more a h h2 ne M => exact (((M.next ne h2).sub).cons₂ E).trans (List.sublist_append_right a _)
theorem Mean.self : ∀ {ms : List Int} {lo : Bool} {xs : List Int}, Mean lo xs ms → Mean lo ms ms
  | [], lo, xs, M => by cases M
  | E :: ms, lo, xs, M => by
    cases M with
    | last a h => exact Mean.last [] (by simp)
    | @more _ _ t _ a h h2 ne M =>
      obtain ⟨F, r, rfl, hF⟩ := M.head
      exact Mean.more [] (by simp) (fun y hy => h2 y ((M.next ne h2).sub.subset hy)) (by simp) (M.self.pre fun F' r' e => by
        cases e
        exact hF E List.mem_cons_self)
theorem Mean.uniq : ∀ {n : Nat} {lo : Bool} {xs ms ns : List Int}, ms.length ≤ n → Mean lo xs ms → Mean lo xs ns → ms = ns
  | 0, lo, xs, ms, ns, h, M, N => by
    obtain ⟨F, r, rfl, _⟩ := M.head
    simp at h
  | n + 1, lo, xs, ms, ns, h, M, N => by
    obtain ⟨F, r, rfl, hF⟩ := M.head
    obtain ⟨F', r', rfl, hF'⟩ := N.head
    have m1 : F ∈ xs := M.sub.subset List.mem_cons_self
    have m2 : F' ∈ xs := N.sub.subset List.mem_cons_self
    have e : F = F' := leB_anti (hF _ m2) (hF' _ m1)
    subst e
    obtain ⟨j, j1, j2, j3, j4⟩ := mean_at M m1 hF
    obtain ⟨i, i1, i2, i3, i4⟩ := mean_at N m1 hF
    have e : i = j := by
      rcases Nat.lt_trichotomy i j with q | q | q
      · exact absurd j2 (i3 j q j1)
      · exact q
      · exact absurd i2 (j3 i q i1)
    subst e
    rcases j4 with ⟨a, b⟩ | ⟨a, m', b, M'⟩ <;> rcases i4 with ⟨c, d⟩ | ⟨c, n', d, N'⟩
    · rw [b, d]
    · omega
    · omega
    · obtain rfl := (List.cons.inj b).2
      obtain rfl := (List.cons.inj d).2
      have hl : r.length ≤ n := by simpa using h
      rw [Mean.uniq hl M' N']
theorem memF_uniq {row ms : List Int} (M : Mean true (0 :: row) ms) : memF row = ms := Mean.uniq (Nat.le_refl _) (mean_mem row) M
theorem memF_head (row : List Int) : ∃ F r, memF row = F :: r ∧ F ≤ 0 := by
  obtain ⟨F, r, e, h⟩ := (mean_mem row).head
  refine ⟨F, r, e, ?_⟩
  have := h 0 List.mem_cons_self
  simpa [leB] using this
theorem rowM_0 {r : List Int} : rowM (0 :: r) = r := rfl
theorem rowM_ne {F : Int} {r : List Int} (h : F ≠ 0) : rowM (F :: r) = F :: r := if_neg h
theorem memF_row (row : List Int) : memF (rowM (memF row)) = memF row := by
  have S := (mean_mem row).self
  obtain ⟨F, r, e, h⟩ := memF_head row
  rw [e] at S ⊢
  by_cases c : F = 0
  · subst c
    exact memF_uniq S
  · rw [rowM_ne c]
    exact memF_uniq (S.pre fun F' r' e => by cases e; simpa [leB] using h)
theorem row_min {row r : List Int} (h : memF r = memF row) : (rowM (memF row)).length ≤ r.length := by
  have M := mean_mem r
  rw [h] at M
  obtain ⟨F, q, e, _⟩ := memF_head row
  rw [e] at M ⊢
  have S := M.sub
  by_cases c : F = 0
  · subst c
    have := S.length_le
    simp at this
    exact this
  · rw [rowM_ne c]
    cases S with
    | cons _ S => exact S.length_le
    | cons_cons _ S => exact absurd rfl c
theorem rowM_mem {ns : List Int} {x : Int} (h : x ∈ rowM (memF ns)) : x = 0 ∨ x ∈ ns := by
  have h1 : x ∈ memF ns := by
    unfold rowM at h
    split at h
    · exact List.mem_of_mem_drop h
    · exact h
  exact List.mem_cons.mp ((mean_mem ns).sub.subset h1)
theorem isPl_in {x f : Int} (h : -f ≤ x ∧ x ≤ f) (hf : f ≤ 1000000) : isPl x = true := by
  unfold isPl
  simp
  omega
-- from t_rig1.lean
abbrev fAr : Str := "_arms"
def okA (arms : List (Int × Int)) : Prop := arms.length ≤ 60 ∧ ∀ a ∈ arms, a.1 ≤ 999 ∧ -1000000 ≤ a.2 ∧ a.2 ≤ 1000000
theorem dA_len (arms : List (Int × Int)) : ((prI arms).length : Int) = (arms.length : Int) := by rw [List.length_map]
def rodSt (s e x : Int) : Int := min (max e (x - s)) x
/-- the ends after each place, from end e -/
def rodEs (s : Int) : Int → List Int → List Int
  | _, [] => []
  | e, x :: xs => rodSt s e x :: rodEs s (rodSt s e x) xs
def rodE (s e : Int) (xs : List Int) : Int := xs.foldl (rodSt s) e
theorem rodEs_len (s : Int) : ∀ (e : Int) (xs : List Int), (rodEs s e xs).length = xs.length
  | _, [] => rfl
  | e, x :: xs => by show (rodEs s _ xs).length + 1 = _; rw [rodEs_len s _ xs]; rfl
theorem rodEs_take {s : Int} : ∀ {e : Int} {xs : List Int} {i : Nat} {x : Int}, xs[i]? = some x → rodEs s e (xs.take (i + 1)) = rodEs s e (xs.take i) ++ [rodE s e (xs.take (i + 1))] ∧ rodE s e (xs.take (i + 1)) = rodSt s (rodE s e (xs.take i)) x
  | e, [], i, x, h => by simp at h
  | e, y :: ys, 0, x, h => by
    have : y = x := by simpa using h
    subst this
    exact ⟨rfl, rfl⟩
  | e, y :: ys, i + 1, x, h => by
    have ih := rodEs_take (s := s) (e := rodSt s e y) (xs := ys) (i := i) (x := x) (by simpa using h)
    refine ⟨?_, ih.2⟩
    show rodSt s e y :: rodEs s (rodSt s e y) (ys.take (i + 1)) = rodSt s e y :: rodEs s (rodSt s e y) (ys.take i) ++ [rodE s (rodSt s e y) (ys.take (i + 1))]
    rw [ih.1]; rfl
-- from t_rig2.lean
def addE (arm : Int) : List Int → List Int → List Int
  | e :: es, f :: fs => (e + arm * f) :: addE arm es fs
  | _, _ => []
def armsEs (ps : List Int) (init : List Int) (arms : List (Int × Int)) : List Int := arms.foldl (fun es a => addE a.2 es (rodEs a.1 0 ps)) init
theorem addE_len (arm : Int) : ∀ (es fs : List Int), es.length = fs.length → (addE arm es fs).length = es.length
  | [], [], _ => rfl
  | e :: es, f :: fs, h => by show (addE arm es fs).length + 1 = _; rw [addE_len arm es fs (by simpa using h)]; rfl
  | [], _ :: _, h => by simp at h
  | _ :: _, [], h => by simp at h
theorem addE_take {arm : Int} : ∀ {es fs : List Int} {i : Nat} {e f : Int}, es[i]? = some e → fs[i]? = some f → addE arm (es.take (i + 1)) (fs.take (i + 1)) = addE arm (es.take i) (fs.take i) ++ [e + arm * f]
  | [], _, i, e, f, h, _ => by simp at h
  | _ :: _, [], i, e, f, _, h => by simp at h
  | a :: es, b :: fs, 0, e, f, h1, h2 => by
    have : a = e := by simpa using h1
    subst this
    have : b = f := by simpa using h2
    subst this
    rfl
  | a :: es, b :: fs, i + 1, e, f, h1, h2 => by
    show (a + arm * b) :: addE arm (es.take (i + 1)) (fs.take (i + 1)) = (a + arm * b) :: addE arm (es.take i) (fs.take i) ++ [e + arm * f]
    rw [addE_take (es := es) (fs := fs) (by simpa using h1) (by simpa using h2)]; rfl
theorem armsEs_len {ps : List Int} : ∀ {arms : List (Int × Int)} {init : List Int}, init.length = ps.length → (armsEs ps init arms).length = ps.length
  | [], init, h => h
  | a :: arms, init, h => by
    show (armsEs ps (addE a.2 init (rodEs a.1 0 ps)) arms).length = _
    exact armsEs_len (by rw [addE_len _ _ _ (by rw [h, rodEs_len])]; exact h)
abbrev zEs (ps : List Int) : List Int := ps.map fun _ => 0
-- from t_tell.lean
theorem rodE_cons {s e x : Int} {xs : List Int} : rodE s e (x :: xs) = rodE s (rodSt s e x) xs := rfl
theorem rodSt_0 {e x : Int} : rodSt 0 e x = x := by unfold rodSt; omega
theorem rodE_0 : ∀ {xs : List Int} {e : Int} (h : xs ≠ []), rodE 0 e xs = xs.getLast h
  | [x], e, _ => rodSt_0
  | x :: y :: xs, e, _ => by
    rw [rodE_cons, rodE_0 (xs := y :: xs) (by simp)]
    simp
theorem rodSt_step {s e e' x : Int} (h : 0 ≤ e - e' ∧ e - e' ≤ 1) : 0 ≤ rodSt s e x - rodSt (s + 1) e' x ∧ rodSt s e x - rodSt (s + 1) e' x ≤ 1 := by unfold rodSt; omega
theorem rodE_step : ∀ {xs : List Int} {s e e' : Int}, 0 ≤ e - e' ∧ e - e' ≤ 1 → 0 ≤ rodE s e xs - rodE (s + 1) e' xs ∧ rodE s e xs - rodE (s + 1) e' xs ≤ 1
  | [], _, _, _, h => h
  | x :: xs, s, e, e', h => rodE_step (xs := xs) (rodSt_step h)
theorem rodE_low : ∀ {xs : List Int} {s e lo : Int}, 0 ≤ s → lo ≤ e → (∀ x ∈ xs, lo ≤ x) → lo ≤ rodE s e xs
  | [], _, _, _, _, h, _ => h
  | x :: xs, s, e, lo, h0, h, hx => by
    refine rodE_low (xs := xs) h0 ?_ fun y hy => hx y (List.mem_cons_of_mem _ hy)
    have := hx x List.mem_cons_self
    unfold rodSt; omega
theorem rodE_last {xs : List Int} : ∀ {s e : Int} (h : xs ≠ []), rodE s e xs ≤ xs.getLast h := by
  induction xs with
  | nil => intro s e h; exact absurd rfl h
  | cons x xs ih =>
    intro s e h
    cases xs with
    | nil => show rodSt s e x ≤ x; unfold rodSt; omega
    | cons y ys =>
      rw [rodE_cons, List.getLast_cons (by simp)]
      exact ih (by simp)
/-- the end stays -/
theorem stay_low : ∀ {xs : List Int} {s a : Int}, (∀ x ∈ xs, a ≤ x ∧ x - s ≤ a) → rodE s a xs = a
  | [], _, _, _ => rfl
  | x :: xs, s, a, h => by
    have h1 := h x List.mem_cons_self
    have e : rodSt s a x = a := by unfold rodSt; omega
    rw [rodE_cons, e]
    exact stay_low fun y hy => h y (List.mem_cons_of_mem _ hy)
theorem stay_high : ∀ {xs : List Int} {s a : Int}, (∀ x ∈ xs, x ≤ a ∧ a - s ≤ x) → rodE s (a - s) xs = a - s
  | [], _, _, _ => rfl
  | x :: xs, s, a, h => by
    have h1 := h x List.mem_cons_self
    have e : rodSt s (a - s) x = a - s := by unfold rodSt; omega
    rw [rodE_cons, e]
    exact stay_high fun y hy => h y (List.mem_cons_of_mem _ hy)
/-- places that lie one within the two before -/
inductive NB : Int → Int → List Int → Prop
  | nil {c a : Int} : NB c a []
  | cons {c a b : Int} {r : List Int} : min c a < b ∧ b < max c a → NB a b r → NB c a (b :: r)
theorem NB.mem : ∀ {r : List Int} {c a : Int}, NB c a r → ∀ x ∈ r, min c a < x ∧ x < max c a
  | b :: r, c, a, .cons h n, x, hx => by
    rcases List.mem_cons.mp hx with q | q
    · rw [q]; exact h
    · have := n.mem x q
      omega
theorem low_far {a b s : Int} {r : List Int} (h : a < b) (n : NB a b r) (hs : b - a ≤ s) : rodE s a (b :: r) = a := by
  refine stay_low fun x hx => ?_
  rcases List.mem_cons.mp hx with q | q
  · rw [q]; omega
  · have := n.mem x q; omega
theorem low_near {a b s : Int} {r : List Int} (h : a < b) (h0 : 0 ≤ s) (hs : s < b - a) : rodE s a (b :: r) = rodE s (b - s) r := by
  have e : rodSt s a b = b - s := by unfold rodSt; omega
  rw [rodE_cons, e]
theorem high_far {a b s : Int} {r : List Int} (h : b < a) (n : NB a b r) (hs : a - b ≤ s) : rodE s (a - s) (b :: r) = a - s := by
  refine stay_high fun x hx => ?_
  rcases List.mem_cons.mp hx with q | q
  · rw [q]; omega
  · have := n.mem x q; omega
theorem high_near {a b s : Int} {r : List Int} (h : b < a) (h0 : 0 ≤ s) (hs : s < a - b) : rodE s (a - s) (b :: r) = rodE s b r := by
  have e : rodSt s (a - s) b = b := by unfold rodSt; omega
  rw [rodE_cons, e]
/-- right behind the greatest swing the end stands still -/
theorem low_at {a b : Int} {r : List Int} (h : a < b) (n : NB a b r) : rodE (b - a - 1) a (b :: r) = a + 1 := by
  rw [low_near h (by omega) (by omega)]
  have : rodE (b - a - 1) (b - (b - a - 1)) r = b - (b - a - 1) := stay_high fun x hx => by
    have := n.mem x hx
    omega
  rw [this]; omega
theorem high_at {a b : Int} {r : List Int} (h : b < a) (n : NB a b r) : rodE (a - b - 1) (a - (a - b - 1)) (b :: r) = b := by
  rw [high_near h (by omega) (by omega)]
  exact stay_low fun x hx => by
    have := n.mem x hx
    omega
theorem tell : ∀ {r1 r2 : List Int} {c a : Int}, NB c a r1 → NB c a r2 →
    (a < c → (∀ s, 0 ≤ s → s < c - a → rodE s a r1 = rodE s a r2) → r1 = r2) ∧ (c < a → (∀ s, 0 ≤ s → s < a - c → rodE s (a - s) r1 = rodE s (a - s) r2) → r1 = r2)
  | [], [], c, a, _, _ => ⟨fun _ _ => rfl, fun _ _ => rfl⟩
  | [], b :: r, c, a, _, .cons h n => by
    refine ⟨fun hc hs => ?_, fun hc hs => ?_⟩
    · have := hs (b - a - 1) (by omega) (by omega)
      rw [low_at (by omega) n] at this
      have e : rodE (b - a - 1) a [] = a := rfl
      rw [e] at this; omega
    · have := hs (a - b - 1) (by omega) (by omega)
      rw [high_at (by omega) n] at this
      have e : rodE (a - b - 1) (a - (a - b - 1)) [] = a - (a - b - 1) := rfl
      rw [e] at this; omega
  | b :: r, [], c, a, .cons h n, _ => by
    refine ⟨fun hc hs => ?_, fun hc hs => ?_⟩
    · have := hs (b - a - 1) (by omega) (by omega)
      rw [low_at (by omega) n] at this
      have e : rodE (b - a - 1) a [] = a := rfl
      rw [e] at this; omega
    · have := hs (a - b - 1) (by omega) (by omega)
      rw [high_at (by omega) n] at this
      have e : rodE (a - b - 1) (a - (a - b - 1)) [] = a - (a - b - 1) := rfl
      rw [e] at this; omega
  | b :: r, d :: q, c, a, .cons h n, .cons h' n' => by
    have ih := fun e : b = d => tell (r1 := r) (r2 := q) (c := a) (a := b) n (e ▸ n')
    refine ⟨fun hc hs => ?_, fun hc hs => ?_⟩
    · have e : b = d := by
        rcases Int.lt_trichotomy b d with z | z | z
        · have := hs (d - a - 1) (by omega) (by omega)
          rw [low_at (by omega) n', low_far (by omega) n (by omega)] at this
          omega
        · exact z
        · have := hs (b - a - 1) (by omega) (by omega)
          rw [low_at (by omega) n, low_far (by omega) n' (by omega)] at this
          omega
      subst e
      rw [(ih rfl).2 (by omega) fun s s0 s1 => by
        have := hs s s0 (by omega)
        rw [low_near (by omega) s0 (by omega), low_near (by omega) s0 (by omega)] at this
        exact this]
    · have e : b = d := by
        rcases Int.lt_trichotomy b d with z | z | z
        · have := hs (a - b - 1) (by omega) (by omega)
          rw [high_at (by omega) n, high_far (by omega) n' (by omega)] at this
          omega
        · exact z
        · have := hs (a - d - 1) (by omega) (by omega)
          rw [high_at (by omega) n', high_far (by omega) n (by omega)] at this
          omega
      subst e
      rw [(ih rfl).1 (by omega) fun s s0 s1 => by
        have := hs s s0 (by omega)
        rw [high_near (by omega) s0 (by omega), high_near (by omega) s0 (by omega)] at this
        exact this]
/-- a memory's places are so -/
theorem okMem_nb {ps : List Int} (ok : okMem ps) : ∀ {n i : Nat} {c : Int}, ps.length - i ≤ n → 1 ≤ i → i ≤ ps.length → (i = 1 → ∀ x ∈ ps, x < c ∧ ps.getD 0 0 ≤ c) → (2 ≤ i → c = ps.getD (i - 2) 0) → NB c (ps.getD (i - 1) 0) (ps.drop i)
  | 0, i, c, h, h1, h2, _, _ => by
    rw [List.drop_eq_nil_of_le (by omega)]
    exact .nil
  | n + 1, i, c, h, h1, h2, ha, hb => by
    by_cases hi : i < ps.length
    · have f := ok.2.2 i hi
      have e : ps.drop i = ps.getD i 0 :: ps.drop (i + 1) := by
        rw [List.drop_eq_getElem_cons hi, List.getD_eq_getElem?_getD, List.getElem?_eq_getElem hi]; rfl
      rw [e]
      refine .cons ?_ (okMem_nb ok (n := n) (i := i + 1) (c := ps.getD (i - 1) 0) (by omega) (by omega) (by omega) (fun q => by omega) fun _ => rfl)
      unfold fitB at f
      by_cases c1 : i = 1
      · subst c1
        rw [if_neg (by omega), if_pos rfl, Bool.and_eq_true] at f
        have f2 : ps.getD 0 0 < ps.getD 1 0 := of_decide_eq_true f.2
        have := ha rfl (ps.getD 1 0) (getD_mem hi)
        have e0 : ps.getD (1 - 1) 0 = ps.getD 0 0 := rfl
        rw [e0]
        omega
      · rw [if_neg (by omega), if_neg c1, Bool.and_eq_true] at f
        have f2 := f.2
        unfold btw at f2
        rw [hb (by omega)]
        simp only [Bool.and_eq_true, decide_eq_true_eq] at f2
        omega
    · rw [List.drop_eq_nil_of_le (by omega)]
      exact .nil
theorem okMem_head {ps : List Int} (ok : okMem ps) : ∃ a r, ps = a :: r ∧ a ≤ 0 ∧ ∀ x ∈ r, a < x := by
  obtain ⟨a, r, rfl⟩ := List.exists_cons_of_ne_nil ok.1
  have f := ok.2.2 0 (by simp)
  unfold fitB at f
  rw [if_pos rfl, Bool.and_eq_true] at f
  refine ⟨a, r, rfl, of_decide_eq_true f.2, fun x hx => ?_⟩
  have hm : ∃ M, ∀ x ∈ a :: r, x < M ∧ a ≤ M := by
    have : ∀ l : List Int, ∃ M, ∀ x ∈ l, x < M := by
      intro l
      induction l with
      | nil => exact ⟨0, by simp⟩
      | cons y l ih =>
        obtain ⟨M, hM⟩ := ih
        refine ⟨max M (y + 1), fun x hx => ?_⟩
        rcases List.mem_cons.mp hx with q | q
        · rw [q]; omega
        · have := hM x q; omega
    obtain ⟨M, hM⟩ := this (a :: r)
    exact ⟨M, fun x hx => ⟨hM x hx, by have := hM a List.mem_cons_self; omega⟩⟩
  obtain ⟨M, hM⟩ := hm
  have n := okMem_nb ok (n := (a :: r).length) (i := 1) (c := M) (by omega) (Nat.le_refl _) (by simp) (fun _ => hM) (fun q => by omega)
  have := n.mem x (by simpa using hx)
  have e : (a :: r).getD (1 - 1) 0 = a := rfl
  rw [e] at this
  have := (hM a List.mem_cons_self).1
  omega
theorem rodE_mem {s a : Int} {r : List Int} (h0 : 0 ≤ s) (ha : a ≤ 0) : rodE s 0 (a :: r) = rodE s a r := by
  have e : rodSt s 0 a = a := by unfold rodSt; omega
  rw [rodE_cons, e]
theorem rodE_far {ps : List Int} {f : Int} (ok : okMem ps) (hf : ∀ x ∈ ps, -f ≤ x ∧ x ≤ f) : rodE (2 * f + 1) 0 ps = ps.getD 0 0 := by
  obtain ⟨a, r, rfl, ha, hr⟩ := okMem_head ok
  have := hf a List.mem_cons_self
  rw [rodE_mem (by omega) ha]
  exact stay_low fun x hx => by
    have h1 := hr x hx
    have h2 := hf x (List.mem_cons_of_mem _ hx)
    omega
theorem tell_mem {ps qs : List Int} {f : Int} (o1 : okMem ps) (o2 : okMem qs) (h1 : ∀ x ∈ ps, -f ≤ x ∧ x ≤ f) (h2 : ∀ x ∈ qs, -f ≤ x ∧ x ≤ f) (hE : ∀ s, 0 ≤ s → s < 2 * f + 2 → rodE s 0 ps = rodE s 0 qs) : ps = qs := by
  have hd : ps.getD 0 0 = qs.getD 0 0 := by
    rw [← rodE_far o1 h1, ← rodE_far o2 h2]
    obtain ⟨a, r, rfl, ha, hr⟩ := okMem_head o1
    have := h1 a List.mem_cons_self
    exact hE _ (by omega) (by omega)
  obtain ⟨a, r, rfl, ha, hr⟩ := okMem_head o1
  obtain ⟨b, q, rfl, hb, hq⟩ := okMem_head o2
  have e : a = b := hd
  subst e
  have fa := h1 a List.mem_cons_self
  have n1 := okMem_nb o1 (n := (a :: r).length) (i := 1) (c := f + 1) (by omega) (Nat.le_refl _) (by simp) (fun _ x hx => ⟨by have := h1 x hx; omega, by show a ≤ f + 1; omega⟩) (fun q => by omega)
  have n2 := okMem_nb o2 (n := (a :: q).length) (i := 1) (c := f + 1) (by omega) (Nat.le_refl _) (by simp) (fun _ x hx => ⟨by have := h2 x hx; omega, by show a ≤ f + 1; omega⟩) (fun q => by omega)
  have := (tell (c := f + 1) (a := a) n1 n2).1 (by omega) fun s s0 s1 => by
    have := hE s s0 (by omega)
    rw [rodE_mem s0 ha, rodE_mem s0 ha] at this
    exact this
  have e2 : r = q := by simpa using this
  rw [e2]
-- from t_rig3.lean
def stepA (times : Int) (al : List (Int × Int)) (a : Int × Int) : List (Int × Int) := putI al a.1 (cf al a.1 + a.2 * times)
def accA (one : List (Int × Int)) (times : Int) (other : List (Int × Int)) : List (Int × Int) := other.foldl (stepA times) one
theorem accA_nd : ∀ {other one : List (Int × Int)} {times : Int}, (one.map (·.1)).Nodup → ((accA one times other).map (·.1)).Nodup
  | [], one, times, h => h
  | a :: other, one, times, h => accA_nd (other := other) (nodup_put h)
theorem putI_len {al : List (Int × Int)} {k v : Int} : (putI al k v).length ≤ al.length + 1 := by
  unfold putI
  split
  · rw [List.length_map]; omega
  · rw [List.length_append]; simp
theorem accA_len : ∀ {other one : List (Int × Int)} {times : Int}, (accA one times other).length ≤ one.length + other.length
  | [], one, times => by show one.length ≤ _; simp
  | a :: other, one, times => by
    have h1 := accA_len (other := other) (one := putI one a.1 (cf one a.1 + a.2 * times)) (times := times)
    have h2 := putI_len (al := one) (k := a.1) (v := cf one a.1 + a.2 * times)
    show (accA (putI one a.1 (cf one a.1 + a.2 * times)) times other).length ≤ _
    rw [List.length_cons]; omega
theorem accA_keys : ∀ {other one : List (Int × Int)} {times x : Int}, x ∈ (accA one times other).map (·.1) → x ∈ one.map (·.1) ∨ x ∈ other.map (·.1)
  | [], one, times, x, h => .inl h
  | a :: other, one, times, x, h => by
    rcases accA_keys (other := other) h with q | q
    · have q : x ∈ (putI one a.1 (cf one a.1 + a.2 * times)).map (·.1) := q
      rw [keys_put] at q
      by_cases c : a.1 ∈ one.map (·.1)
      · rw [if_pos c] at q; exact .inl q
      · rw [if_neg c] at q
        rcases List.mem_append.mp q with q | q
        · exact .inl q
        · rw [List.mem_singleton.mp q]; exact .inr List.mem_cons_self
    · exact .inr (List.mem_cons_of_mem _ q)
theorem cf_cons {p : Int × Int} {al : List (Int × Int)} {k : Int} : cf (p :: al) k = if p.1 = k then p.2 else cf al k := by
  unfold cf
  rw [getI_cons]
  by_cases e : p.1 = k
  · rw [if_pos e, if_pos e]; rfl
  · rw [if_neg e, if_neg e]
theorem cf_out {al : List (Int × Int)} {k : Int} (h : k ∉ al.map (·.1)) : cf al k = 0 := by
  unfold cf; rw [getI_none.mpr h]; rfl
theorem accA_cf : ∀ {other one : List (Int × Int)} {times x : Int}, (other.map (·.1)).Nodup → cf (accA one times other) x = cf one x + times * cf other x
  | [], one, times, x, _ => by
    show cf one x = cf one x + times * 0
    omega
  | a :: other, one, times, x, h => by
    rw [List.map_cons, List.nodup_cons] at h
    show cf (accA (putI one a.1 (cf one a.1 + a.2 * times)) times other) x = _
    rw [accA_cf h.2, cf_put, cf_cons]
    by_cases c : x = a.1
    · subst c
      rw [if_pos rfl, if_pos rfl, cf_out h.1]
      have := Int.mul_comm a.2 times
      omega
    · rw [if_neg c, if_neg fun z => c z.symm]
/-- arms as the program keeps them: slacks ascending, no arm 0 -/
def Nrm (arms : List (Int × Int)) : Prop := (arms.map (·.1)).Pairwise (· < ·) ∧ ∀ a ∈ arms, a.2 ≠ 0
theorem Nrm.nd {arms : List (Int × Int)} (n : Nrm arms) : (arms.map (·.1)).Nodup := n.1.imp fun h => Int.ne_of_lt h
theorem getI_of_nd : ∀ {al : List (Int × Int)} {p : Int × Int}, (al.map (·.1)).Nodup → p ∈ al → getI al p.1 = some p.2
  | q :: al, p, nd, h => by
    rw [List.map_cons, List.nodup_cons] at nd
    rw [getI_cons]
    rcases List.mem_cons.mp h with e | h
    · rw [e, if_pos rfl]
    · have : ¬ q.1 = p.1 := fun e => nd.1 (e ▸ List.mem_map.mpr ⟨p, h, rfl⟩)
      rw [if_neg this]
      exact getI_of_nd nd.2 h
theorem cf_in {al : List (Int × Int)} {k : Int} (h : k ∈ al.map (·.1)) : getI al k = some (cf al k) := by
  unfold cf
  cases e : getI al k with
  | none => exact absurd h (getI_none.mp e)
  | some v => rfl
/-- arms are the same if all their numbers are -/
theorem nrm_ext : ∀ {al bl : List (Int × Int)}, Nrm al → Nrm bl → (∀ k, cf al k = cf bl k) → al = bl
  | [], [], _, _, _ => rfl
  | [], p :: bl, _, n, h => by
    have := h p.1
    rw [cf_cons, if_pos rfl] at this
    exact absurd this.symm (n.2 p List.mem_cons_self)
  | p :: al, [], n, _, h => by
    have := h p.1
    rw [cf_cons, if_pos rfl] at this
    exact absurd this (n.2 p List.mem_cons_self)
  | p :: al, q :: bl, n, m, h => by
    have n1 := n.1
    have m1 := m.1
    rw [List.map_cons, List.pairwise_cons] at n1 m1
    have e1 : p.1 = q.1 := by
      rcases Int.lt_trichotomy p.1 q.1 with z | z | z
      · have := h p.1
        rw [cf_cons, if_pos rfl, cf_cons, if_neg (by omega), cf_out fun w => by have := m1.1 _ w; omega] at this
        exact absurd this (n.2 p List.mem_cons_self)
      · exact z
      · have := h q.1
        rw [cf_cons, if_neg (by omega), cf_cons, if_pos rfl, cf_out fun w => by have := n1.1 _ w; omega] at this
        exact absurd this.symm (m.2 q List.mem_cons_self)
    have e2 : p.2 = q.2 := by
      have := h p.1
      rw [cf_cons, if_pos rfl, cf_cons, if_pos e1.symm] at this
      exact this
    have e : p = q := Prod.ext e1 e2
    subst e
    rw [nrm_ext (al := al) (bl := bl) ⟨n1.2, fun a ha => n.2 a (List.mem_cons_of_mem _ ha)⟩ ⟨m1.2, fun a ha => m.2 a (List.mem_cons_of_mem _ ha)⟩ fun k => by
      by_cases c : p.1 = k
      · rw [cf_out fun w => by have := n1.1 _ w; omega, cf_out fun w => by have := m1.1 _ w; omega]
      · have := h k
        rw [cf_cons, if_neg c, cf_cons, if_neg c] at this
        exact this]
theorem cf_map (f : Int → Int) : ∀ {l : List Int} {x : Int}, cf (l.map fun k => (k, f k)) x = if x ∈ l then f x else 0
  | [], x => by rw [if_neg (by simp)]; rfl
  | k :: l, x => by
    rw [List.map_cons, cf_cons, cf_map f]
    by_cases c : k = x
    · subst c
      rw [if_pos rfl, if_pos List.mem_cons_self]
    · rw [if_neg c]
      by_cases d : x ∈ l
      · rw [if_pos d, if_pos (List.mem_cons_of_mem _ d)]
      · rw [if_neg d, if_neg fun z => by
          rcases List.mem_cons.mp z with q | q
          · exact c q.symm
          · exact d q]
theorem prI_app (al bl : List (Int × Int)) : prI (al ++ bl) = prI al ++ prI bl := List.map_append
def pickA (al : List (Int × Int)) (ys : List Int) : List (Int × Int) := (ys.filter fun k => !decide (cf al k = 0)).map fun k => (k, cf al k)
theorem pickA_nrm {al : List (Int × Int)} {ys : List Int} (nd : (al.map (·.1)).Nodup) (pm : ys.Perm (al.map (·.1))) (so : ys.Pairwise (· ≤ ·)) : Nrm (pickA al ys) ∧ ∀ k, cf (pickA al ys) k = cf al k := by
  have ny : ys.Nodup := pm.nodup_iff.mpr nd
  have st : ys.Pairwise (· < ·) := so.imp₂ (fun _ _ h1 h2 => by have h2' : _ ≠ _ := h2; omega) ny
  refine ⟨⟨?_, ?_⟩, fun k => ?_⟩
  · unfold pickA
    rw [List.map_map]
    have e : ((fun a : Int × Int => a.1) ∘ fun k => (k, cf al k)) = id := rfl
    rw [e, List.map_id]
    exact st.filter _
  · intro a ha
    obtain ⟨k, hk, rfl⟩ := List.mem_map.mp ha
    have := (List.mem_filter.mp hk).2
    simpa using this
  · unfold pickA
    rw [cf_map]
    by_cases c : k ∈ ys.filter fun k => !decide (cf al k = 0)
    · rw [if_pos c]
    · rw [if_neg c]
      by_cases d : cf al k = 0
      · exact d.symm
      · have : k ∉ ys := fun m => c (List.mem_filter.mpr ⟨m, by simp [d]⟩)
        exact (cf_out fun m => this (pm.mem_iff.mpr m)).symm
abbrev sumP (a : List (Int × Int) × List (Int × Int) × Int) : Prop := (a.1.map (·.1)).Nodup ∧ (a.2.1.map (·.1)).Nodup ∧ a.1.length + a.2.1.length ≤ 1000 ∧ (accA a.1 a.2.2 a.2.1).length < 64 ∧ (-1000000 ≤ a.2.2 ∧ a.2.2 ≤ 1000000)
-- from t_rig4.lean
/-- the sums of the arms up to each are 0 or more -/
def fwdB : Int → List (Int × Int) → Bool
  | _, [] => true
  | p, a :: r => decide (0 ≤ p + a.2) && fwdB (p + a.2) r
def pullA (arms : List (Int × Int)) : Int := (arms.map (·.2)).sum
theorem fwdB_step {arms : List (Int × Int)} {i : Nat} {a : Int × Int} {p : Int} (h : arms[i]? = some a) : fwdB p (arms.drop i) = (decide (0 ≤ p + a.2) && fwdB (p + a.2) (arms.drop (i + 1))) := by
  have hi := (List.getElem?_eq_some_iff.mp h).1
  have e : arms[i] = a := (List.getElem?_eq_some_iff.mp h).2
  rw [List.drop_eq_getElem_cons hi, e]; rfl
theorem pull_take {arms : List (Int × Int)} {i : Nat} {a : Int × Int} (h : arms[i]? = some a) : pullA (arms.take (i + 1)) = pullA (arms.take i) + a.2 := by
  unfold pullA
  rw [List.take_add_one, h, List.map_append, List.sum_append]
  show _ + (a.2 + 0) = _
  omega
/-- what comes of sums: the one normal list of arms with these numbers -/
abbrev SumR (one other : List (Int × Int)) (n : Int) : Type := { r : List (Int × Int) // Nrm r ∧ ∀ k, cf r k = cf one k + n * cf other k }
abbrev okSum (one other : List (Int × Int)) (n : Int) : Prop := sumP (one, other, n) ∧ ∀ r : SumR one other n, okA r.1
-- from t_rig5.lean
def slopeA (arms : List (Int × Int)) : Nat → Int
  | 0 => 0
  | h + 1 => slopeA arms h + cf arms (h : Int)
/-- the place of the end at the height h, going up from rest -/
def fA (arms : List (Int × Int)) : Nat → Int
  | 0 => 0
  | h + 1 => fA arms h + slopeA arms (h + 1)
def hgtA (arms : List (Int × Int)) (h : Int) : Int := (arms.map fun a => a.2 * max 0 (h - a.1)).sum
def gsA (arms : List (Int × Int)) : Int := (arms.getLast?.map (·.1)).getD 0
def pullE (e : Nat → Int) (k : Nat) : Int := if k = 0 then 0 else e k - e (k - 1)
/-- the arms of a list of ends -/
def arcA (e : Nat → Int) : Nat → List (Int × Int)
  | 0 => []
  | k + 1 =>
    if e (k + 1) - e k = pullE e k then arcA e k else arcA e k ++ [((k : Int), e (k + 1) - e k - pullE e k)]
theorem arcA_keys {e : Nat → Int} : ∀ {n : Nat} {x : Int}, x ∈ (arcA e n).map (·.1) → 0 ≤ x ∧ x < n
  | 0, x, h => by simp [arcA] at h
  | n + 1, x, h => by
    unfold arcA at h
    split at h
    · have := arcA_keys h; omega
    · rw [List.map_append] at h
      rcases List.mem_append.mp h with q | q
      · have := arcA_keys q; omega
      · have : x = (n : Int) := by simpa using q
        omega
theorem arcA_nrm (e : Nat → Int) : ∀ n, Nrm (arcA e n)
  | 0 => ⟨List.Pairwise.nil, by simp [arcA]⟩
  | n + 1 => by
    have ih := arcA_nrm e n
    unfold arcA
    split
    · exact ih
    · rename_i h
      refine ⟨?_, fun a ha => ?_⟩
      · rw [List.map_append, List.pairwise_append]
        refine ⟨ih.1, List.pairwise_singleton _ _, fun a ha c hc => ?_⟩
        have := arcA_keys ha
        have : c = (n : Int) := by simpa using hc
        omega
      · rcases List.mem_append.mp ha with q | q
        · exact ih.2 a q
        · rw [List.mem_singleton.mp q]
          show e (n + 1) - e n - _ ≠ 0
          omega
theorem cf_app_out {al bl : List (Int × Int)} {k : Int} (h : k ∉ bl.map (·.1)) : cf (al ++ bl) k = cf al k := by
  unfold cf
  rw [getI_app, getI_none.mpr h]
  cases getI al k <;> rfl
theorem cf_app_in {al bl : List (Int × Int)} {k : Int} (h : k ∉ al.map (·.1)) : cf (al ++ bl) k = cf bl k := by
  unfold cf
  rw [getI_app, getI_none.mpr h]; rfl
theorem arcA_cf (e : Nat → Int) : ∀ {n k : Nat}, cf (arcA e n) (k : Int) = if k < n then e (k + 1) - e k - pullE e k else 0
  | 0, k => by rw [if_neg (by omega)]; rfl
  | n + 1, k => by
    have ih := arcA_cf e (n := n) (k := k)
    have out : ((n : Nat) : Int) ∉ (arcA e n).map (·.1) := fun m => by have := arcA_keys m; omega
    unfold arcA
    split
    · rename_i h
      rw [ih]
      by_cases c : k < n
      · rw [if_pos c, if_pos (by omega)]
      · rw [if_neg c]
        by_cases d : k = n
        · subst d
          rw [if_pos (by omega)]; omega
        · rw [if_neg (by omega)]
    · rename_i h
      by_cases d : k = n
      · subst d
        rw [cf_app_in out, cf_cons, if_pos rfl, if_pos (by omega)]
      · rw [cf_app_out (by simp; omega), ih]
        by_cases c : k < n
        · rw [if_pos c, if_pos (by omega)]
        · rw [if_neg c, if_neg (by omega)]
theorem arcA_len (e : Nat → Int) : ∀ n, (arcA e n).length ≤ n
  | 0 => Nat.le_refl _
  | n + 1 => by
    have := arcA_len e n
    unfold arcA
    split
    · omega
    · rw [List.length_append]; simp; omega
abbrev curveL (al : List (Int × Int)) (n : Nat) : List Int := (List.range (n + 1)).map (fA al)
theorem curveL_step (al : List (Int × Int)) (n : Nat) : curveL al (n + 1) = curveL al n ++ [fA al (n + 1)] := by
  unfold curveL
  rw [List.range_succ, List.map_append]; rfl
theorem curveL_at {al : List (Int × Int)} {n i : Nat} (h : i ≤ n) : atI (curveL al n) (i : Int) = some (fA al i) := by
  refine atI_get ?_
  unfold curveL
  rw [List.getElem?_map, List.getElem?_range (by omega)]; rfl
-- from t_rig6.lean
abbrev topA (al bl : List (Int × Int)) : Nat := (gsA al + gsA bl + 1).toNat
/-- the arms of the rig al that drives the rig bl -/
abbrev chainA (al bl : List (Int × Int)) : List (Int × Int) := arcA (fun h => hgtA bl (fA al h)) (topA al bl)
abbrev chP (a : List (Int × Int) × List (Int × Int)) : Prop := (a.1.map (·.1)).Nodup ∧ okA a.2 ∧ (0 ≤ gsA a.1 ∧ 0 ≤ gsA a.2 ∧ gsA a.1 + gsA a.2 ≤ 2000)
-- from t_alg.lean
/-- slacks are 0 or more -/
def Pos0 (arms : List (Int × Int)) : Prop := ∀ k ∈ arms.map (·.1), 0 ≤ k
theorem cf_cons_nd {p : Int × Int} {al : List (Int × Int)} {k : Int} (h : p.1 ∉ al.map (·.1)) : cf (p :: al) k = (if p.1 = k then p.2 else 0) + cf al k := by
  rw [cf_cons]
  by_cases c : p.1 = k
  · rw [if_pos c, if_pos c, ← c, cf_out h]; omega
  · rw [if_neg c, if_neg c]; omega
theorem slopeA_cons {p : Int × Int} {al : List (Int × Int)} (h : p.1 ∉ al.map (·.1)) (h0 : 0 ≤ p.1) : ∀ n : Nat, slopeA (p :: al) n = (if p.1 < (n : Int) then p.2 else 0) + slopeA al n
  | 0 => by
    rw [if_neg (by omega)]
    show (0 : Int) = 0 + 0
    rfl
  | n + 1 => by
    show slopeA (p :: al) n + cf (p :: al) (n : Int) = _ + (slopeA al n + cf al (n : Int))
    rw [slopeA_cons h h0 n, cf_cons_nd h]
    by_cases c : p.1 = (n : Int)
    · rw [if_pos c, if_neg (by omega), if_pos (by omega)]; omega
    · rw [if_neg c]
      by_cases d : p.1 < (n : Int)
      · rw [if_pos d, if_pos (by omega)]; omega
      · rw [if_neg d, if_neg (by omega)]; omega
theorem fA_cons {p : Int × Int} {al : List (Int × Int)} (h : p.1 ∉ al.map (·.1)) (h0 : 0 ≤ p.1) : ∀ n : Nat, fA (p :: al) n = p.2 * max 0 ((n : Int) - p.1) + fA al n
  | 0 => by
    have : max 0 (((0 : Nat) : Int) - p.1) = 0 := by omega
    rw [this, Int.mul_zero]; rfl
  | n + 1 => by
    show fA (p :: al) n + slopeA (p :: al) (n + 1) = _ + (fA al n + slopeA al (n + 1))
    rw [fA_cons h h0 n, slopeA_cons h h0]
    by_cases c : p.1 < ((n + 1 : Nat) : Int)
    · rw [if_pos c]
      have : max 0 (((n + 1 : Nat) : Int) - p.1) = max 0 ((n : Int) - p.1) + 1 := by omega
      rw [this, Int.mul_add, Int.mul_one]; omega
    · rw [if_neg c]
      have : max 0 (((n + 1 : Nat) : Int) - p.1) = max 0 ((n : Int) - p.1) := by omega
      rw [this]; omega
theorem fA_nil : ∀ n : Nat, fA [] n = 0 ∧ slopeA [] n = 0
  | 0 => ⟨rfl, rfl⟩
  | n + 1 => by
    have h := fA_nil n
    have s : slopeA [] (n + 1) = 0 := by
      show slopeA [] n + 0 = 0
      rw [h.2]; rfl
    refine ⟨?_, s⟩
    show fA [] n + slopeA [] (n + 1) = 0
    rw [h.1, s]; rfl
theorem hgtA_fA : ∀ {al : List (Int × Int)}, (al.map (·.1)).Nodup → Pos0 al → ∀ n : Nat, hgtA al (n : Int) = fA al n
  | [], _, _, n => (fA_nil n).1.symm
  | p :: al, nd, h0, n => by
    rw [List.map_cons, List.nodup_cons] at nd
    rw [fA_cons nd.1 (h0 p.1 List.mem_cons_self), ← hgtA_fA nd.2 (fun k hk => h0 k (List.mem_cons_of_mem _ hk)) n]
    show (p.2 * max 0 ((n : Int) - p.1) + _) = _
    rfl
theorem slope_lin {r a b : List (Int × Int)} {n : Int} (h : ∀ k, cf r k = cf a k + n * cf b k) : ∀ m : Nat, slopeA r m = slopeA a m + n * slopeA b m
  | 0 => by
    show (0 : Int) = 0 + n * 0
    omega
  | m + 1 => by
    show slopeA r m + cf r (m : Int) = slopeA a m + cf a (m : Int) + n * (slopeA b m + cf b (m : Int))
    rw [slope_lin h m, h, Int.mul_add]; omega
theorem fA_lin {r a b : List (Int × Int)} {n : Int} (h : ∀ k, cf r k = cf a k + n * cf b k) : ∀ m : Nat, fA r m = fA a m + n * fA b m
  | 0 => by
    show (0 : Int) = 0 + n * 0
    omega
  | m + 1 => by
    show fA r m + slopeA r (m + 1) = fA a m + slopeA a (m + 1) + n * (fA b m + slopeA b (m + 1))
    rw [fA_lin h m, slope_lin h, Int.mul_add]; omega
/-- the curve tells the arms -/
theorem fA_ext {a b : List (Int × Int)} (na : Nrm a) (nb : Nrm b) (pa : Pos0 a) (pb : Pos0 b) (h : ∀ n, fA a n = fA b n) : a = b := by
  have hs : ∀ n, slopeA a n = slopeA b n := fun n => by
    cases n with
    | zero => rfl
    | succ n =>
      have h1 := h (n + 1)
      have h0 := h n
      have e1 : fA a (n + 1) = fA a n + slopeA a (n + 1) := rfl
      have e2 : fA b (n + 1) = fA b n + slopeA b (n + 1) := rfl
      omega
  refine nrm_ext na nb fun k => ?_
  by_cases c : 0 ≤ k
  · obtain ⟨n, rfl⟩ := Int.eq_ofNat_of_zero_le c
    have h1 := hs (n + 1)
    have h0 := hs n
    have e1 : slopeA a (n + 1) = slopeA a n + cf a (n : Int) := rfl
    have e2 : slopeA b (n + 1) = slopeA b n + cf b (n : Int) := rfl
    omega
  · rw [cf_out fun m => c (pa _ m), cf_out fun m => c (pb _ m)]
/-- arms of a list of ends: the curve goes through them -/
theorem arc_slope {e : Nat → Int} {n : Nat} : ∀ {m : Nat}, m ≤ n → slopeA (arcA e n) m = if m = 0 then 0 else e m - e (m - 1)
  | 0, _ => rfl
  | m + 1, h => by
    have ih := arc_slope (e := e) (n := n) (m := m) (by omega)
    have c0 := arcA_cf e (n := n) (k := m)
    rw [if_pos (show m < n by omega)] at c0
    rw [if_neg (by omega : ¬ m + 1 = 0)]
    show slopeA (arcA e n) m + cf (arcA e n) (m : Int) = e (m + 1) - e m
    rw [c0, ih]
    unfold pullE
    by_cases c : m = 0
    · rw [if_pos c]; omega
    · rw [if_neg c]; omega
theorem arc_fA {e : Nat → Int} {n : Nat} (e0 : e 0 = 0) : ∀ {m : Nat}, m ≤ n → fA (arcA e n) m = e m
  | 0, _ => e0.symm
  | m + 1, h => by
    show fA (arcA e n) m + slopeA (arcA e n) (m + 1) = _
    rw [arc_fA e0 (by omega), arc_slope h, if_neg (by omega : ¬ m + 1 = 0)]
    show e m + (e (m + 1) - e m) = _
    omega
theorem slope_far {al : List (Int × Int)} {n : Nat} (h : ∀ k ∈ al.map (·.1), k < (n : Int)) : ∀ m, slopeA al (n + m) = slopeA al n
  | 0 => rfl
  | m + 1 => by
    show slopeA al (n + m) + cf al ((n + m : Nat) : Int) = _
    rw [slope_far h m, cf_out fun z => by have := h _ z; omega]; omega
theorem fA_far {al : List (Int × Int)} {n : Nat} (h : ∀ k ∈ al.map (·.1), k < (n : Int) + 1) : ∀ m : Nat, fA al (n + m) = fA al n + m * slopeA al (n + 1)
  | 0 => by
    show fA al n = fA al n + 0 * _
    omega
  | m + 1 => by
    show fA al (n + m) + slopeA al (n + m + 1) = _
    have e : slopeA al (n + m + 1) = slopeA al (n + 1) := by
      have := slope_far (n := n + 1) (by simpa using h) m
      rw [← this]
      congr 1
      omega
    have c : ((m + 1 : Nat) : Int) * slopeA al (n + 1) = (m : Int) * slopeA al (n + 1) + slopeA al (n + 1) := by
      rw [Int.natCast_add, Int.add_mul]
      show _ + 1 * _ = _
      rw [Int.one_mul]
    rw [fA_far h m, e, c]; omega
theorem slope_0 {al : List (Int × Int)} : ∀ {n : Nat}, (∀ k ∈ al.map (·.1), (n : Int) ≤ k) → slopeA al n = 0
  | 0, _ => rfl
  | n + 1, h => by
    show slopeA al n + cf al (n : Int) = 0
    rw [slope_0 fun k hk => by have := h k hk; omega, cf_out fun m => by have := h _ m; omega]; rfl
theorem fwd_slope : ∀ {al : List (Int × Int)} {p : Int}, Nrm al → Pos0 al → 0 ≤ p → fwdB p al = true → ∀ n, 0 ≤ p + slopeA al n
  | [], p, _, _, hp, _, n => by rw [(fA_nil n).2]; omega
  | a :: al, p, na, pa, hp, hf, n => by
    have h := na.1
    rw [List.map_cons, List.pairwise_cons] at h
    have nd : a.1 ∉ al.map (·.1) := fun m => by have := h.1 _ m; omega
    have hf' : (decide (0 ≤ p + a.2) && fwdB (p + a.2) al) = true := hf
    rw [Bool.and_eq_true] at hf'
    rw [slopeA_cons nd (pa a.1 List.mem_cons_self)]
    by_cases c : a.1 < (n : Int)
    · rw [if_pos c]
      have := fwd_slope (al := al) (p := p + a.2) ⟨h.2, fun x hx => na.2 x (List.mem_cons_of_mem _ hx)⟩ (fun k hk => pa k (List.mem_cons_of_mem _ hk)) (of_decide_eq_true hf'.1) hf'.2 n
      omega
    · rw [if_neg c, slope_0 fun k hk => by have := h.1 k hk; omega]; omega
theorem fwd_fA {al : List (Int × Int)} (na : Nrm al) (pa : Pos0 al) (hf : fwdB 0 al = true) : ∀ n, 0 ≤ fA al n
  | 0 => Int.le_refl _
  | n + 1 => by
    have h1 := fwd_fA na pa hf n
    have h2 := fwd_slope na pa (Int.le_refl 0) hf (n + 1)
    show 0 ≤ fA al n + slopeA al (n + 1)
    omega
theorem gsA_ge : ∀ {al : List (Int × Int)}, Nrm al → ∀ k ∈ al.map (·.1), k ≤ gsA al
  | [], _, k, h => by simp at h
  | [a], _, k, h => by
    have : k = a.1 := by simpa using h
    rw [this]; exact Int.le_refl _
  | a :: b :: al, n, k, h => by
    have hn := n.1
    rw [List.map_cons, List.pairwise_cons] at hn
    have ih := gsA_ge (al := b :: al) ⟨hn.2, fun x hx => n.2 x (List.mem_cons_of_mem _ hx)⟩
    have e : gsA (a :: b :: al) = gsA (b :: al) := by
      unfold gsA
      rw [List.getLast?_cons_cons]
    rw [e]
    rw [List.map_cons] at h
    rcases List.mem_cons.mp h with q | q
    · have h1 := hn.1 b.1 (by simp)
      have h2 := ih b.1 (by simp)
      omega
    · exact ih k q
theorem gsA_0 {al : List (Int × Int)} (pa : Pos0 al) : 0 ≤ gsA al := by
  unfold gsA
  cases e : al.getLast? with
  | none => exact Int.le_refl _
  | some a => exact pa a.1 (List.mem_map.mpr ⟨a, List.mem_of_getLast? e, rfl⟩)
/-- a chain's curve is the one curve put through the other -/
theorem chain_fA {al bl : List (Int × Int)} (na : Nrm al) (nb : Nrm bl) (pa : Pos0 al) (pb : Pos0 bl) (hf : fwdB 0 al = true) (n : Nat) : fA (chainA al bl) n = hgtA bl (fA al n) := by
  have nn := fwd_fA na pa hf
  have hb : ∀ x : Int, 0 ≤ x → hgtA bl x = fA bl x.toNat := fun x hx => by
    have := hgtA_fA (Nrm.nd nb) pb x.toNat
    rw [Int.toNat_of_nonneg hx] at this
    exact this
  obtain ⟨G, hG⟩ := Int.eq_ofNat_of_zero_le (gsA_0 pa)
  obtain ⟨S, hS⟩ := Int.eq_ofNat_of_zero_le (gsA_0 pb)
  have ht : topA al bl = G + S + 1 := by
    show (gsA al + gsA bl + 1).toNat = _
    rw [hG, hS]; omega
  have e0 : (fun h => hgtA bl (fA al h)) 0 = 0 := by
    show hgtA bl 0 = 0
    rw [hb 0 (Int.le_refl 0)]; rfl
  by_cases hn : n ≤ topA al bl
  · exact arc_fA e0 hn
  · obtain ⟨m, rfl⟩ : ∃ m, n = topA al bl + m := ⟨n - topA al bl, by omega⟩
    -- beyond the last bend
    have ka : ∀ k ∈ al.map (·.1), k < (G : Int) + 1 := fun k hk => by have := gsA_ge na k hk; omega
    have kb : ∀ k ∈ bl.map (·.1), k < (S : Int) + 1 := fun k hk => by have := gsA_ge nb k hk; omega
    have lin : ∀ t : Nat, hgtA bl (fA al (G + S + t)) = hgtA bl (fA al (G + S)) + t * (slopeA al (G + 1) * slopeA bl (S + 1)) := by
      intro t
      have f1 : fA al (G + S) = fA al G + (S : Int) * slopeA al (G + 1) := fA_far ka S
      have f2 : fA al (G + S + t) = fA al (G + S) + (t : Int) * slopeA al (G + 1) := by
        have := fA_far ka (S + t)
        have e : G + (S + t) = G + S + t := by omega
        rw [e] at this
        rw [this, f1, Int.natCast_add, Int.add_mul]; omega
      have sp : 0 ≤ slopeA al (G + 1) := by have := fwd_slope na pa (Int.le_refl 0) hf (G + 1); omega
      by_cases c : slopeA al (G + 1) = 0
      · rw [f2, c]
        have e1 : (t : Int) * 0 = 0 := Int.mul_zero _
        have e2 : (t : Int) * (0 * slopeA bl (S + 1)) = 0 := by rw [Int.zero_mul, Int.mul_zero]
        rw [e1, e2]; simp
      · have s1 : 1 ≤ slopeA al (G + 1) := by omega
        have x0 : (S : Int) ≤ fA al (G + S) := by
          have h1 := nn G
          have h2 : (S : Int) * 1 ≤ (S : Int) * slopeA al (G + 1) := Int.mul_le_mul_of_nonneg_left s1 (by omega)
          omega
        obtain ⟨X, hX⟩ : ∃ X : Nat, fA al (G + S) = ((S + X : Nat) : Int) := ⟨(fA al (G + S) - S).toNat, by omega⟩
        obtain ⟨Y, hY⟩ : ∃ Y : Nat, (t : Int) * slopeA al (G + 1) = (Y : Int) := ⟨((t : Int) * slopeA al (G + 1)).toNat, by have := Int.mul_nonneg (show (0 : Int) ≤ t by omega) sp; omega⟩
        have g1 : hgtA bl (fA al (G + S)) = fA bl S + (X : Int) * slopeA bl (S + 1) := by
          rw [hX, hgtA_fA (Nrm.nd nb) pb]; exact fA_far kb X
        have g2 : hgtA bl (fA al (G + S + t)) = fA bl S + ((X + Y : Nat) : Int) * slopeA bl (S + 1) := by
          have : fA al (G + S + t) = ((S + (X + Y) : Nat) : Int) := by rw [f2, hX, hY]; omega
          rw [this, hgtA_fA (Nrm.nd nb) pb]; exact fA_far kb (X + Y)
        rw [g1, g2, ← Int.mul_assoc, hY, Int.natCast_add, Int.add_mul]; omega
    have kc : ∀ k ∈ (chainA al bl).map (·.1), k < ((topA al bl : Nat) : Int) + 1 := fun k hk => by have := arcA_keys hk; omega
    rw [fA_far kc m, arc_fA e0 (Nat.le_refl _)]
    have sl : slopeA (chainA al bl) (topA al bl + 1) = slopeA al (G + 1) * slopeA bl (S + 1) := by
      have k1 : ∀ k ∈ (chainA al bl).map (·.1), k < ((topA al bl : Nat) : Int) := fun k hk => (arcA_keys hk).2
      rw [slope_far k1 1, arc_slope (Nat.le_refl _), if_neg (by omega : ¬ topA al bl = 0)]
      rw [ht]
      show hgtA bl (fA al (G + S + 1)) - hgtA bl (fA al (G + S)) = _
      rw [lin 1]
      show _ + (1 : Int) * _ - _ = _
      rw [Int.one_mul]; omega
    rw [sl]
    show hgtA bl (fA al (topA al bl)) + _ = hgtA bl (fA al (topA al bl + m))
    have e1 : topA al bl + m = G + S + (1 + m) := by omega
    have e2 : topA al bl = G + S + 1 := ht
    rw [e1, lin (1 + m), e2, lin 1, Int.natCast_add, Int.add_mul]
    omega
-- from t_tree1.lean
inductive Tr
  | rod (s : Int)
  | mul (a : Tr) (n : Int)
  | neg (a : Tr)
  | add (a b : Tr)
  | sub (a b : Tr)
  | chn (a b : Tr)
def tagT : Tr → Str
  | .rod _ => "rod" | .mul _ _ => "*" | .neg _ => "neg" | .add _ _ => "+" | .sub _ _ => "-" | .chn _ _ => ">>"
def depT : Tr → Nat
  | .rod _ => 0
  | .mul a _ => depT a + 1
  | .neg a => depT a + 1
  | .add a b => max (depT a) (depT b) + 1
  | .sub a b => max (depT a) (depT b) + 1
  | .chn a b => max (depT a) (depT b) + 1
def totT : Tr → Int
  | .rod s => s
  | .mul a _ => totT a
  | .neg a => totT a
  | .add a b => totT a + totT b
  | .sub a b => totT a + totT b
  | .chn a b => totT a + totT b
theorem no_tag {x y : Str} {c : Bool} {Q : Prop} (h : c = decide (x = y)) (hc : c = true) (n : decide (x = y) = false) : Q := by rw [hc, n] at h; cases h
theorem is_tag {x y : Str} {c : Bool} {Q : Prop} (h : c = decide (x = y)) (hc : c = false) (n : decide (x = y) = true) : Q := by rw [hc, n] at h; cases h
-- from t_tree2.lean
def valT : Tr → Nat → Int
  | .rod s, h => max 0 ((h : Int) - s)
  | .mul a n, h => valT a h * n
  | .neg a, h => 0 - valT a h
  | .add a b, h => valT a h + valT b h
  | .sub a b, h => valT a h - valT b h
  | .chn a b, h => valT b (valT a h).toNat
/-- slacks are 0 or more -/
def posT : Tr → Prop
  | .rod s => 0 ≤ s
  | .mul a _ => posT a
  | .neg a => posT a
  | .add a b => posT a ∧ posT b
  | .sub a b => posT a ∧ posT b
  | .chn a b => posT a ∧ posT b
theorem valT_0 : ∀ {t : Tr}, posT t → valT t 0 = 0
  | .rod s, h => by
    have h' : 0 ≤ s := h
    show max 0 (((0 : Nat) : Int) - s) = 0
    omega
  | .mul a n, h => by
    show valT a 0 * n = 0
    rw [valT_0 (t := a) h, Int.zero_mul]
  | .neg a, h => by
    show 0 - valT a 0 = 0
    rw [valT_0 (t := a) h]; rfl
  | .add a b, h => by
    show valT a 0 + valT b 0 = 0
    rw [valT_0 (t := a) h.1, valT_0 (t := b) h.2]; rfl
  | .sub a b, h => by
    show valT a 0 - valT b 0 = 0
    rw [valT_0 (t := a) h.1, valT_0 (t := b) h.2]; rfl
  | .chn a b, h => by
    show valT b (valT a 0).toNat = 0
    rw [valT_0 (t := a) h.1]
    exact valT_0 (t := b) h.2
-- from t_tree3.lean
/-- the places between two, the last one with them -/
def stepsI (old new : Int) : List Int := if old < new then (List.range (new - old).toNat).map fun (k : Nat) => old + 1 + (k : Int) else (List.range (old - new).toNat).map fun (k : Nat) => old - 1 - (k : Int)
-- from t_law17.lean
theorem addE_one : ∀ {ps fs : List Int}, ps.length = fs.length → addE 1 (zEs ps) fs = fs
  | [], [], _ => rfl
  | p :: ps, f :: fs, h => by
    show (0 + 1 * f) :: addE 1 (zEs ps) fs = f :: fs
    rw [addE_one (by simpa using h)]
    have : 0 + 1 * f = f := by omega
    rw [this]
  | [], _ :: _, h => by simp at h
  | _ :: _, [], h => by simp at h
theorem rodEs_last {s : Int} : ∀ {xs : List Int} {e : Int}, xs ≠ [] → (rodEs s e xs).getLast? = some (rodE s e xs)
  | [x], e, _ => rfl
  | x :: y :: xs, e, _ => by
    have := rodEs_last (s := s) (xs := y :: xs) (e := rodSt s e x) (by simp)
    show (rodSt s e x :: rodEs s (rodSt s e x) (y :: xs)).getLast? = _
    rw [List.getLast?_cons, this]; rfl
theorem at_rod {s : Int} {ps : List Int} (h : ps ≠ []) : (armsEs ps (zEs ps) [(s, 1)]).getLast?.getD 0 = rodE s 0 ps := by
  show (addE 1 (zEs ps) (rodEs s 0 ps)).getLast?.getD 0 = _
  rw [addE_one (by rw [rodEs_len]), rodEs_last h]; rfl
def endsTo (n : Nat) (ps : List Int) : List Int := (List.range n).map fun (s : Nat) => rodE (s : Int) 0 ps
theorem endsTo_len (n : Nat) (ps : List Int) : (endsTo n ps).length = n := by simp [endsTo]
theorem endsTo_at {n i : Nat} {ps : List Int} (h : i < n) : atI (endsTo n ps) (i : Int) = some (rodE (i : Int) 0 ps) := by
  refine atI_get ?_
  unfold endsTo
  rw [List.getElem?_map, List.getElem?_range h]; rfl
theorem endsTo_eq {n : Nat} {ps qs : List Int} (h : endsTo n ps = endsTo n qs) : ∀ s : Int, 0 ≤ s → s < n → rodE s 0 ps = rodE s 0 qs := fun s s0 s1 => by
  obtain ⟨i, rfl⟩ := Int.eq_ofNat_of_zero_le s0
  have h1 := endsTo_at (ps := ps) (n := n) (i := i) (by omega)
  have h2 := endsTo_at (ps := qs) (n := n) (i := i) (by omega)
  rw [h, h2] at h1
  exact (Option.some.inj h1).symm
theorem memF_far {ns : List Int} {f : Int} (f0 : 0 ≤ f) (h : ∀ x ∈ ns, -f ≤ x ∧ x ≤ f) : ∀ x ∈ memF ns, -f ≤ x ∧ x ≤ f := fun x hx => by
  rcases List.mem_cons.mp ((mean_mem ns).sub.subset hx) with q | q
  · rw [q]; omega
  · exact h x q
abbrev Rw (f : Int) (L : Nat) : Type := { ns : List Int // ns.length ≤ L ∧ ∀ x ∈ ns, -f ≤ x ∧ x ≤ f }
end Pf

namespace Pf
open PySem L2 Z PyProof.Rows
/-! ### swings -/
instance {lo : Bool} {a b : Int} : Decidable (leB lo a b) := by unfold leB; exact inferInstance
/-- a memory after a move, turning place by turning place -/
def upS : Bool → List Int → Int → List Int
  | _, [], x => [x]
  | lo, E :: ms, x => if leB lo x E then [x] else E :: upS (!lo) ms x
/-- up and down along the turning places, by the curve g -/
def Phi (g : Nat → Int) : Bool → List Int → Int
  | lo, E :: F :: r => (if lo = true then g (F - E).natAbs else - g (F - E).natAbs) + Phi g (!lo) (F :: r)
  | _, _ => 0
/-- turning places, each strictly between the two before it; lo: from the first one it goes up -/
inductive Ns : Bool → Int → Int → List Int → Prop
  | nil {lo : Bool} {c a : Int} : Ns lo c a []
  | cons {lo : Bool} {c a b : Int} {r : List Int} : (if lo = true then a < b ∧ b < c else c < b ∧ b < a) → Ns (!lo) a b r → Ns lo c a (b :: r)
def inS (lo : Bool) (c a x : Int) : Prop := if lo = true then a < x ∧ x < c else c < x ∧ x < a
theorem Ns.up {x : Int} : ∀ {r : List Int} {lo : Bool} {c a : Int}, Ns lo c a r → inS lo c a x → ∃ r', upS lo (a :: r) x = a :: r' ∧ Ns lo c a r' := by
  intro r
  induction r with
  | nil =>
    intro lo c a _ hx
    refine ⟨[x], ?_, .cons hx .nil⟩
    show (if leB lo x a then [x] else a :: [x]) = _
    rw [if_neg]
    cases lo <;> simp [leB, inS] at * <;> omega
  | cons b r ih =>
    intro lo c a h hx
    cases h with
    | cons hb h =>
      have n1 : ¬ leB lo x a := by cases lo <;> simp [leB, inS] at * <;> omega
      by_cases c2 : leB (!lo) x b
      · refine ⟨[x], ?_, .cons hx .nil⟩
        show (if leB lo x a then [x] else a :: upS (!lo) (b :: r) x) = _
        rw [if_neg n1]
        show a :: (if leB (!lo) x b then [x] else _) = _
        rw [if_pos c2]
      · obtain ⟨r', e, n⟩ := ih h (show inS (!lo) a b x by cases lo <;> simp [leB, inS] at * <;> omega)
        refine ⟨b :: r', ?_, .cons hb n⟩
        show (if leB lo x a then [x] else a :: upS (!lo) (b :: r) x) = _
        rw [if_neg n1, e]
theorem up_upd {x : Int} : ∀ {r : List Int} {lo : Bool} {c a : Int}, Ns lo c a r → updL lo (a :: r) x = upS lo (a :: r) x := by
  intro r
  induction r with
  | nil =>
    intro lo c a _
    show _ = (if leB lo x a then [x] else a :: [x])
    by_cases h : leB lo x a
    · rw [if_pos h, updL_yes h]
    · rw [if_neg h, updL_no h]; rfl
  | cons b r ih =>
    intro lo c a h
    cases h with
    | cons hb h =>
      show _ = (if leB lo x a then [x] else a :: upS (!lo) (b :: r) x)
      by_cases h1 : leB lo x a
      · rw [if_pos h1, updL_yes h1]
      · rw [if_neg h1, ← ih h, updL_no h1]
        by_cases c2 : leB (!lo) x b
        · rw [updL_yes c2]
          have : btw x a b = false := by
            unfold btw
            cases lo <;> simp [leB] at * <;> omega
          have r0 : runL x (a :: b :: r) = 0 := by
            show (if btw x a b = true then _ else 0) = 0
            rw [this]; simp
          rw [r0]; rfl
        · rw [updL_no c2]
          have : btw x a b = true := by
            unfold btw
            cases lo <;> simp [leB] at * <;> omega
          have r1 : runL x (a :: b :: r) = runL x (b :: r) + 1 := by
            show (if btw x a b = true then _ else 0) = _
            rw [if_pos this]
          rw [r1]; rfl
def rsB (s : Int) (y : Int) : Int := max 0 (y - s)
/-- what drives (at BM) and what follows (at BZ) at a turning place, a swing of at most H to come -/
def CoS (lo : Bool) (BM BZ fH s : Int) : Prop := if lo = true then BZ ≤ BM ∧ BM - s ≤ BZ ∧ (BZ = BM ∨ BM + fH - s ≤ BZ) else BZ ≤ BM ∧ BM - s ≤ BZ ∧ (BZ = BM - s ∨ BZ ≤ BM - fH)
section
variable {f : Nat → Int} {s : Int}
theorem f_le (fm : ∀ h, f h ≤ f (h + 1)) : ∀ {a b : Nat}, a ≤ b → f a ≤ f b := by
  intro a b h
  induction b with
  | zero => have : a = 0 := by omega
            rw [this]; exact Int.le_refl _
  | succ b ih =>
    by_cases e : a = b + 1
    · rw [e]; exact Int.le_refl _
    · exact Int.le_trans (ih (by omega)) (fm b)
/-- inner swings lie within the first one -/
theorem Phi_in (g0 : f 0 = 0) (fm : ∀ h, f h ≤ f (h + 1)) : ∀ {r : List Int} {lo : Bool} {c a : Int}, Ns lo c a r → (if lo = true then 0 ≤ Phi f lo (a :: r) ∧ Phi f lo (a :: r) ≤ f (c - a).natAbs else Phi f lo (a :: r) ≤ 0 ∧ - f (c - a).natAbs ≤ Phi f lo (a :: r)) := by
  intro r
  induction r with
  | nil =>
    intro lo c a _
    have := f_le fm (Nat.zero_le (c - a).natAbs)
    have z : Phi f lo [a] = 0 := by cases lo <;> rfl
    rw [z]
    cases lo <;> simp <;> omega
  | cons b r ih =>
    intro lo c a h
    cases h with
    | cons hb h =>
      have i := ih h
      have e : (b - a).natAbs = (a - b).natAbs := by omega
      have le : f (b - a).natAbs ≤ f (c - a).natAbs := f_le fm (by cases lo <;> simp at hb <;> omega)
      have le0 := f_le fm (Nat.zero_le (b - a).natAbs)
      show (if lo = true then 0 ≤ (if lo = true then f (b - a).natAbs else - f (b - a).natAbs) + Phi f (!lo) (b :: r) ∧ _ else _)
      have u : Phi f lo (a :: b :: r) = (if lo = true then f (b - a).natAbs else - f (b - a).natAbs) + Phi f (!lo) (b :: r) := rfl
      cases lo <;> simp at i hb ⊢ <;> rw [u] <;> simp <;> rw [e] at * <;> omega
theorem step_in (f0 : f 0 = 0) (fm : ∀ h, f h ≤ f (h + 1)) (s0 : 0 ≤ s) {x : Int} : ∀ {r : List Int} {lo : Bool} {c a BM BZ : Int}, Ns lo c a r → inS lo c a x → CoS lo BM BZ (f (c - a).natAbs) s →
    rodSt s (BZ + Phi (fun h => rsB s (f h)) lo (a :: r)) (BM + Phi f lo (upS lo (a :: r) x)) = BZ + Phi (fun h => rsB s (f h)) lo (upS lo (a :: r) x) := by
  have g0 : (fun h => rsB s (f h)) 0 = 0 := by show rsB s (f 0) = 0; unfold rsB; rw [f0]; omega
  have gm : ∀ h, (fun h => rsB s (f h)) h ≤ (fun h => rsB s (f h)) (h + 1) := fun h => by show rsB s (f h) ≤ rsB s (f (h + 1)); unfold rsB; have := fm h; omega
  intro r
  induction r with
  | nil =>
    intro lo c a BM BZ _ hx co
    have n1 : ¬ leB lo x a := by cases lo <;> simp [leB, inS] at * <;> omega
    have e1 : upS lo [a] x = [a, x] := by show (if leB lo x a then [x] else a :: [x]) = _; rw [if_neg n1]
    rw [e1]
    have le : f (x - a).natAbs ≤ f (c - a).natAbs := f_le fm (by cases lo <;> simp [inS] at hx <;> omega)
    have le0 := f_le fm (Nat.zero_le (x - a).natAbs)
    rw [f0] at le0
    have u1 : Phi f lo [a, x] = (if lo = true then f (x - a).natAbs else - f (x - a).natAbs) + 0 := by cases lo <;> rfl
    have u2 : Phi (fun h => rsB s (f h)) lo [a, x] = (if lo = true then rsB s (f (x - a).natAbs) else - rsB s (f (x - a).natAbs)) + 0 := by cases lo <;> rfl
    have u3 : Phi (fun h => rsB s (f h)) lo [a] = 0 := by cases lo <;> rfl
    rw [u1, u2, u3]
    unfold rodSt rsB
    unfold CoS at co
    cases lo <;> simp at co ⊢ <;> omega
  | cons b r ih =>
    intro lo c a BM BZ h hx co
    have n1 : ¬ leB lo x a := by cases lo <;> simp [leB, inS] at * <;> omega
    have e1 : upS lo (a :: b :: r) x = a :: upS (!lo) (b :: r) x := by show (if leB lo x a then [x] else _) = _; rw [if_neg n1]
    rw [e1]
    cases h with
    | cons hb h =>
      have leb : f (b - a).natAbs ≤ f (c - a).natAbs := f_le fm (by cases lo <;> simp at hb <;> omega)
      have leb0 := f_le fm (Nat.zero_le (b - a).natAbs)
      rw [f0] at leb0
      have eb : (b - a).natAbs = (a - b).natAbs := by omega
      by_cases c2 : leB (!lo) x b
      · have e2 : upS (!lo) (b :: r) x = [x] := by show (if leB (!lo) x b then [x] else _) = _; rw [if_pos c2]
        rw [e2]
        have le : f (x - a).natAbs ≤ f (c - a).natAbs := f_le fm (by cases lo <;> simp [inS] at hx <;> omega)
        have lx : f (b - a).natAbs ≤ f (x - a).natAbs := f_le fm (by cases lo <;> simp [leB, inS] at * <;> omega)
        have pin := Phi_in g0 gm h
        have u1 : Phi f lo [a, x] = (if lo = true then f (x - a).natAbs else - f (x - a).natAbs) + 0 := by cases lo <;> rfl
        have u2 : Phi (fun h => rsB s (f h)) lo [a, x] = (if lo = true then rsB s (f (x - a).natAbs) else - rsB s (f (x - a).natAbs)) + 0 := by cases lo <;> rfl
        have u3 : Phi (fun h => rsB s (f h)) lo (a :: b :: r) = (if lo = true then rsB s (f (b - a).natAbs) else - rsB s (f (b - a).natAbs)) + Phi (fun h => rsB s (f h)) (!lo) (b :: r) := rfl
        rw [u1, u2, u3]
        generalize Phi (fun h => rsB s (f h)) (!lo) (b :: r) = Z at *
        rw [← eb] at pin
        generalize f (x - a).natAbs = fx at *
        generalize f (b - a).natAbs = fb at *
        generalize f (c - a).natAbs = fc at *
        unfold rodSt rsB at *
        unfold CoS at co
        cases lo <;> simp at co pin ⊢ <;> omega
      · have hx2 : inS (!lo) a b x := by cases lo <;> simp [leB, inS] at * <;> omega
        have z := ih (BM := BM + (if lo = true then f (b - a).natAbs else - f (b - a).natAbs)) (BZ := BZ + (if lo = true then rsB s (f (b - a).natAbs) else - rsB s (f (b - a).natAbs))) h hx2 (by
          rw [← eb]
          generalize f (b - a).natAbs = fb at *
          generalize f (c - a).natAbs = fc at *
          unfold CoS rsB at *
          cases lo <;> simp at co ⊢ <;> omega)
        obtain ⟨r', er, _⟩ := h.up hx2
        rw [er] at z ⊢
        have u1 : Phi f lo (a :: b :: r') = (if lo = true then f (b - a).natAbs else - f (b - a).natAbs) + Phi f (!lo) (b :: r') := rfl
        have u2 : Phi (fun h => rsB s (f h)) lo (a :: b :: r') = (if lo = true then rsB s (f (b - a).natAbs) else - rsB s (f (b - a).natAbs)) + Phi (fun h => rsB s (f h)) (!lo) (b :: r') := rfl
        have u3 : Phi (fun h => rsB s (f h)) lo (a :: b :: r) = (if lo = true then rsB s (f (b - a).natAbs) else - rsB s (f (b - a).natAbs)) + Phi (fun h => rsB s (f h)) (!lo) (b :: r) := rfl
        rw [u1, u2, u3, ← Int.add_assoc, ← Int.add_assoc, ← Int.add_assoc]
        exact z
end
/-! ### memories of rows -/
def Nst (ms : List Int) : Prop := ∃ a r c, ms = a :: r ∧ a < c ∧ Ns true c a r
theorem Ns.wide {c c' a : Int} {r : List Int} (h : Ns true c a r) (k : c ≤ c') : Ns true c' a r := by
  cases h with
  | nil => exact .nil
  | cons hb h => exact .cons (by simp at hb ⊢; omega) h
theorem aft_up {a c x : Int} {r : List Int} (h : Ns true c a r) : aft (a :: r) x = upS true (a :: r) x := by rw [aft_updL, up_upd h]
theorem Nst.aft {ms : List Int} (h : Nst ms) (x : Int) : Nst (aft ms x) := by
  obtain ⟨a, r, c, rfl, hc, h⟩ := h
  rw [aft_up h]
  by_cases hx : x ≤ a
  · refine ⟨x, [], x + 1, ?_, by omega, .nil⟩
    show (if leB true x a then [x] else _) = _
    rw [if_pos (by simp [leB]; exact hx)]
  · obtain ⟨r', e, n⟩ := (h.wide (c' := max c (x + 1)) (by omega)).up (x := x) (by show a < x ∧ x < max c (x + 1); omega)
    exact ⟨a, r', _, e, by omega, n⟩
theorem memF_snoc (xs : List Int) (x : Int) : memF (xs ++ [x]) = aft (memF xs) x := by unfold memF; rw [List.foldl_append]; rfl
theorem memF_nst : ∀ (n : Nat) (xs : List Int), xs.length = n → Nst (memF xs) := by
  intro n
  induction n with
  | zero =>
    intro xs h
    have : xs = [] := List.length_eq_zero_iff.mp h
    rw [this]
    exact ⟨0, [], 1, rfl, by omega, .nil⟩
  | succ n ih =>
    intro xs h
    have hne : xs ≠ [] := fun e => by rw [e] at h; simp at h
    rw [← List.dropLast_concat_getLast hne, memF_snoc]
    exact (ih _ (by rw [List.length_dropLast]; omega)).aft _
theorem snoc_ind {P : List Int → Prop} (h0 : P []) (hs : ∀ xs x, P xs → P (xs ++ [x])) : ∀ xs, P xs := by
  have : ∀ n (xs : List Int), xs.length = n → P xs := by
    intro n
    induction n with
    | zero => intro xs h; rw [List.length_eq_zero_iff.mp h]; exact h0
    | succ n ih =>
      intro xs h
      have hne : xs ≠ [] := fun e => by rw [e] at h; simp at h
      rw [← List.dropLast_concat_getLast hne]
      exact hs _ _ (ih _ (by rw [List.length_dropLast]; omega))
  exact fun xs => this _ xs rfl
/-- where the end is by the curve f (and the pull p below 0), from the turning places -/
def ZM (f : Nat → Int) (p : Int) (ms : List Int) : Int := p * ms.headD 0 + Phi f true ms
theorem step_mem {f : Nat → Int} {p s : Int} (f0 : f 0 = 0) (fm : ∀ h, f h ≤ f (h + 1)) (p0 : 0 ≤ p) (s0 : 0 ≤ s) {ms : List Int} (h : Nst ms) (x : Int) : rodSt s (ZM (fun h => rsB s (f h)) p ms) (ZM f p (aft ms x)) = ZM (fun h => rsB s (f h)) p (aft ms x) := by
  obtain ⟨a, r, c, rfl, hc, h⟩ := h
  rw [aft_up h]
  have g0 : (fun h => rsB s (f h)) 0 = 0 := by show rsB s (f 0) = 0; unfold rsB; rw [f0]; omega
  have gm : ∀ h, (fun h => rsB s (f h)) h ≤ (fun h => rsB s (f h)) (h + 1) := fun h => by show rsB s (f h) ≤ rsB s (f (h + 1)); unfold rsB; have := fm h; omega
  by_cases hx : x ≤ a
  · have e : upS true (a :: r) x = [x] := by
      show (if leB true x a then [x] else _) = _
      rw [if_pos (by simp [leB]; exact hx)]
    rw [e]
    have pin := Phi_in g0 gm h
    simp at pin
    have le : p * x ≤ p * a := Int.mul_le_mul_of_nonneg_left hx p0
    show rodSt s (p * a + Phi _ true (a :: r)) (p * x + 0) = p * x + 0
    unfold rodSt
    omega
  · have hw := h.wide (c' := max c (x + 1)) (by omega)
    have hin : inS true (max c (x + 1)) a x := by show a < x ∧ x < max c (x + 1); omega
    obtain ⟨r', e, n⟩ := hw.up hin
    have z := step_in (s := s) f0 fm s0 (BM := p * a) (BZ := p * a) hw hin (by unfold CoS; simp; omega)
    rw [e] at z ⊢
    exact z
/-- a row of places, each told from the memory -/
def preM (g : List Int → Int) (xs : List Int) : List Int := (List.range xs.length).map fun k => g (xs.take (k + 1))
theorem preM_snoc (g : List Int → Int) (xs : List Int) (x : Int) : preM g (xs ++ [x]) = preM g xs ++ [g (xs ++ [x])] := by
  unfold preM
  rw [List.length_append]
  show (List.range (xs.length + 1)).map _ = _
  rw [List.range_succ, List.map_append]
  congr 1
  · refine List.map_congr_left fun k hk => ?_
    rw [List.take_append_of_le_length (by have := List.mem_range.mp hk; omega)]
  · show [g ((xs ++ [x]).take (xs.length + 1))] = _
    rw [List.take_of_length_le (by simp)]
theorem rodE_snoc (s e : Int) (xs : List Int) (x : Int) : rodE s e (xs ++ [x]) = rodSt s (rodE s e xs) x := by unfold rodE; rw [List.foldl_append]; rfl
theorem rodE_app (s e : Int) (xs ys : List Int) : rodE s e (xs ++ ys) = rodE s (rodE s e xs) ys := by unfold rodE; rw [List.foldl_append]
theorem play_mem {f : Nat → Int} {p s : Int} (f0 : f 0 = 0) (fm : ∀ h, f h ≤ f (h + 1)) (p0 : 0 ≤ p) (s0 : 0 ≤ s) : ∀ xs : List Int, rodE s 0 (preM (fun ys => ZM f p (memF ys)) xs) = ZM (fun h => rsB s (f h)) p (memF xs) := by
  refine snoc_ind ?_ fun xs x ih => ?_
  · show (0 : Int) = p * 0 + 0
    omega
  · rw [preM_snoc, rodE_snoc, ih, memF_snoc]
    exact step_mem f0 fm p0 s0 (memF_nst _ xs rfl) x
theorem Phi_id : ∀ {r : List Int} {lo : Bool} {c a : Int}, Ns lo c a r → a + Phi (fun h => (h : Int)) lo (a :: r) = (a :: r).getLastD 0 := by
  intro r
  induction r with
  | nil =>
    intro lo c a _
    have : Phi (fun h => (h : Int)) lo [a] = 0 := by cases lo <;> rfl
    rw [this]; simp
  | cons b r ih =>
    intro lo c a h
    cases h with
    | cons hb h =>
      have u : Phi (fun h => (h : Int)) lo (a :: b :: r) = (if lo = true then (((b - a).natAbs : Nat) : Int) else - (((b - a).natAbs : Nat) : Int)) + Phi (fun h => (h : Int)) (!lo) (b :: r) := rfl
      have i := ih h
      have e : (a :: b :: r).getLastD 0 = (b :: r).getLastD 0 := by simp [List.getLastD]
      rw [u, e, ← i]
      cases lo <;> simp at hb ⊢ <;> omega
theorem aft_last (ms : List Int) (x : Int) : (aft ms x).getLastD 0 = x := by
  unfold aft
  split <;> simp
theorem ZM_id (xs : List Int) : ZM (fun h => (h : Int)) 1 (memF xs) = xs.getLastD 0 := by
  obtain ⟨a, r, c, e, hc, h⟩ := memF_nst _ xs rfl
  have z := Phi_id h
  have el : (memF xs).getLastD 0 = xs.getLastD 0 := by
    by_cases hne : xs = []
    · rw [hne]; rfl
    · have e1 := List.dropLast_concat_getLast hne
      rw [← e1, memF_snoc, aft_last]; simp
  rw [e] at el ⊢
  show 1 * a + _ = _
  rw [← el, ← z]
  omega
theorem preM_id (xs : List Int) : preM (fun ys => ZM (fun h => (h : Int)) 1 (memF ys)) xs = xs := by
  revert xs
  refine snoc_ind rfl fun xs x ih => ?_
  rw [preM_snoc, ih, ZM_id]
  simp
/-- a rod, by the memory -/
theorem rod_mem {s : Int} (s0 : 0 ≤ s) (xs : List Int) : rodE s 0 xs = ZM (fun h => max 0 ((h : Int) - s)) 1 (memF xs) := by
  have z := play_mem (f := fun h => (h : Int)) (p := 1) rfl (fun h => by omega) (by omega) s0 xs
  rw [preM_id] at z
  exact z
theorem Phi_lin (f g : Nat → Int) (k : Int) : ∀ (ms : List Int) (lo : Bool), Phi (fun h => f h + k * g h) lo ms = Phi f lo ms + k * Phi g lo ms := by
  intro ms
  induction ms with
  | nil => intro lo; have e : ∀ f : Nat → Int, Phi f lo [] = 0 := fun f => by cases lo <;> rfl
           rw [e, e, e]; omega
  | cons a ms ih =>
    intro lo
    cases ms with
    | nil => have e : ∀ f : Nat → Int, Phi f lo [a] = 0 := fun f => by cases lo <;> rfl
             rw [e, e, e]; omega
    | cons b ms =>
      have u : ∀ f : Nat → Int, Phi f lo (a :: b :: ms) = (if lo = true then f (b - a).natAbs else - f (b - a).natAbs) + Phi f (!lo) (b :: ms) := fun f => rfl
      rw [u, u, u, ih]
      cases lo
      · simp only [Bool.false_eq_true, if_false, Int.mul_add, Int.mul_neg]; omega
      · simp only [if_true, Int.mul_add]; omega
theorem Phi_cong {f g : Nat → Int} (h : ∀ n, f n = g n) (ms : List Int) (lo : Bool) : Phi f lo ms = Phi g lo ms := by
  have : f = g := funext h
  rw [this]
theorem ZM_cong {f g : Nat → Int} {p q : Int} (h : ∀ n, f n = g n) (hp : p = q) (ms : List Int) : ZM f p ms = ZM g q ms := by
  have : f = g := funext h
  rw [this, hp]
/-- the end of a sum of rods -/
def FA (al : List (Int × Int)) (xs : List Int) : Int := (al.map fun a => a.2 * rodE a.1 0 xs).sum
theorem FA_play {f : Nat → Int} {p : Int} (f0 : f 0 = 0) (fm : ∀ h, f h ≤ f (h + 1)) (p0 : 0 ≤ p) (xs : List Int) : ∀ {al : List (Int × Int)}, Pos0 al → FA al (preM (fun ys => ZM f p (memF ys)) xs) = ZM (fun h => hgtA al (f h)) (pullA al * p) (memF xs)
  | [], _ => by
    have e : ∀ (ms : List Int) (lo : Bool), Phi (fun _ => (0 : Int)) lo ms = 0 := by
      intro ms
      induction ms with
      | nil => intro lo; cases lo <;> rfl
      | cons a ms ih =>
        intro lo
        cases ms with
        | nil => cases lo <;> rfl
        | cons b ms =>
          show (if lo = true then (0 : Int) else -0) + Phi (fun _ => (0 : Int)) (!lo) (b :: ms) = 0
          rw [ih]; cases lo <;> rfl
    show (0 : Int) = (0 * p) * (memF xs).headD 0 + Phi (fun _ => (0 : Int)) true (memF xs)
    rw [e]
    simp
  | a :: al, h0 => by
    have ih := FA_play f0 fm p0 xs (al := al) fun k hk => h0 k (List.mem_cons_of_mem _ hk)
    have s0 : 0 ≤ a.1 := h0 a.1 List.mem_cons_self
    show a.2 * rodE a.1 0 _ + FA al _ = _
    rw [play_mem f0 fm p0 s0, ih]
    have e : ZM (fun h => hgtA (a :: al) (f h)) (pullA (a :: al) * p) (memF xs) = (pullA (a :: al) * p) * (memF xs).headD 0 + (Phi (fun h => hgtA al (f h)) true (memF xs) + a.2 * Phi (fun h => rsB a.1 (f h)) true (memF xs)) := by
      unfold ZM
      rw [← Phi_lin]
      congr 1
      refine Phi_cong (fun n => ?_) _ _
      show a.2 * max 0 (f n - a.1) + hgtA al (f n) = hgtA al (f n) + a.2 * max 0 (f n - a.1)
      omega
    rw [e]
    unfold ZM
    have pe : pullA (a :: al) = a.2 + pullA al := rfl
    rw [pe]
    simp only [Int.mul_add, Int.add_mul, Int.mul_assoc]
    omega
theorem FA_mem {al : List (Int × Int)} (h0 : Pos0 al) (xs : List Int) : FA al xs = ZM (fun h => hgtA al (h : Int)) (pullA al) (memF xs) := by
  have z := FA_play (f := fun h => (h : Int)) (p := 1) rfl (fun h => by omega) (by omega) xs h0
  rw [preM_id, Int.mul_one] at z
  exact z
/-! ### steps between places -/
theorem rod_run_up {s e u : Int} (s0 : 0 ≤ s) (h1 : e ≤ u) (h2 : u - s ≤ e) : ∀ n : Nat, rodE s e ((List.range n).map fun (k : Nat) => u + 1 + (k : Int)) = rodSt s e (u + n)
  | 0 => by
    show e = rodSt s e (u + 0)
    unfold rodSt; omega
  | n + 1 => by
    rw [List.range_succ, List.map_append, rodE_app, rod_run_up s0 h1 h2 n]
    show rodSt s (rodSt s e (u + n)) (u + 1 + n) = _
    unfold rodSt
    omega
theorem rod_run_dn {s e u : Int} (s0 : 0 ≤ s) (h1 : e ≤ u) (h2 : u - s ≤ e) : ∀ n : Nat, rodE s e ((List.range n).map fun (k : Nat) => u - 1 - (k : Int)) = rodSt s e (u - n)
  | 0 => by
    show e = rodSt s e (u - 0)
    unfold rodSt; omega
  | n + 1 => by
    rw [List.range_succ, List.map_append, rodE_app, rod_run_dn s0 h1 h2 n]
    show rodSt s (rodSt s e (u - n)) (u - 1 - n) = _
    unfold rodSt
    omega
theorem rod_steps {s e u v : Int} (s0 : 0 ≤ s) (h1 : e ≤ u) (h2 : u - s ≤ e) : rodE s e (stepsI u v) = rodSt s e v := by
  unfold stepsI
  by_cases c : u < v
  · rw [if_pos c, rod_run_up s0 h1 h2]
    congr 1; omega
  · rw [if_neg c, rod_run_dn s0 h1 h2]
    congr 1; omega
theorem rodE_lim {s : Int} (s0 : 0 ≤ s) : ∀ xs : List Int, rodE s 0 xs ≤ xs.getLastD 0 ∧ xs.getLastD 0 - s ≤ rodE s 0 xs := by
  refine snoc_ind ?_ fun xs x _ => ?_
  · show (0 : Int) ≤ 0 ∧ (0 : Int) - s ≤ 0
    omega
  · rw [rodE_snoc]
    have : (xs ++ [x]).getLastD 0 = x := by simp
    rw [this]
    unfold rodSt; omega
/-- the path of what is driven: where it stood, then step by step -/
def midW (g : List Int → Int) : Nat → List Int → List Int
  | 0, _ => []
  | k + 1, xs => midW g k xs ++ (g (xs.take k) :: stepsI (g (xs.take k)) (g (xs.take (k + 1))))
theorem midW_pre (g : List Int → Int) (ys : List Int) : ∀ {k : Nat} {xs : List Int}, k ≤ xs.length → midW g k (xs ++ ys) = midW g k xs
  | 0, xs, _ => rfl
  | k + 1, xs, h => by
    show midW g k (xs ++ ys) ++ _ = midW g k xs ++ _
    rw [midW_pre g ys (by omega), List.take_append_of_le_length (by omega), List.take_append_of_le_length h]
abbrev midP (g : List Int → Int) (xs : List Int) : List Int := midW g xs.length xs
theorem midP_snoc (g : List Int → Int) (xs : List Int) (x : Int) : midP g (xs ++ [x]) = midP g xs ++ (g xs :: stepsI (g xs) (g (xs ++ [x]))) := by
  show midW g (xs ++ [x]).length (xs ++ [x]) = _
  have e : (xs ++ [x]).length = xs.length + 1 := by simp
  rw [e]
  show midW g xs.length (xs ++ [x]) ++ _ = _
  rw [midW_pre g [x] (Nat.le_refl _), List.take_append_of_le_length (Nat.le_refl _), List.take_length, List.take_of_length_le (by simp : (xs ++ [x]).length ≤ xs.length + 1)]
theorem rod_mid {g : List Int → Int} {s : Int} (g0 : g [] = 0) (s0 : 0 ≤ s) : ∀ xs : List Int, rodE s 0 (midP g xs) = rodE s 0 (preM g xs) ∧ rodE s 0 (preM g xs) ≤ g xs ∧ g xs - s ≤ rodE s 0 (preM g xs) := by
  refine snoc_ind ?_ fun xs x ih => ?_
  · rw [g0]
    refine ⟨rfl, ?_⟩
    show (0 : Int) ≤ 0 ∧ 0 - s ≤ (0 : Int)
    omega
  · obtain ⟨i1, i2, i3⟩ := ih
    rw [midP_snoc, preM_snoc, rodE_app, rodE_snoc, i1]
    have e1 : rodE s (rodE s 0 (preM g xs)) (g xs :: stepsI (g xs) (g (xs ++ [x]))) = rodSt s (rodE s 0 (preM g xs)) (g (xs ++ [x])) := by
      show rodE s (rodSt s (rodE s 0 (preM g xs)) (g xs)) (stepsI _ _) = _
      have e2 : rodSt s (rodE s 0 (preM g xs)) (g xs) = rodE s 0 (preM g xs) := by unfold rodSt; omega
      rw [e2]
      exact rod_steps s0 i2 i3
    refine ⟨e1, ?_⟩
    unfold rodSt; omega
theorem FA_mid {g : List Int → Int} (g0 : g [] = 0) (xs : List Int) : ∀ {al : List (Int × Int)}, Pos0 al → FA al (midP g xs) = FA al (preM g xs)
  | [], _ => rfl
  | a :: al, h0 => by
    show a.2 * _ + FA al _ = a.2 * _ + FA al _
    rw [(rod_mid g0 (h0 a.1 List.mem_cons_self) xs).1, FA_mid g0 xs fun k hk => h0 k (List.mem_cons_of_mem _ hk)]
/-- the unit steps of a row -/
def unitP : Int → List Int → List Int
  | _, [] => []
  | u, x :: xs => stepsI u x ++ unitP x xs
theorem rod_unit {s : Int} (s0 : 0 ≤ s) : ∀ (xs : List Int) (u e : Int), e ≤ u → u - s ≤ e → rodE s e (unitP u xs) = rodE s e xs
  | [], _, _, _, _ => rfl
  | x :: xs, u, e, h1, h2 => by
    show rodE s e (stepsI u x ++ unitP x xs) = rodE s (rodSt s e x) xs
    rw [rodE_app, rod_steps s0 h1 h2]
    exact rod_unit s0 xs x _ (by unfold rodSt; omega) (by unfold rodSt; omega)
theorem FA_unit (xs : List Int) : ∀ {al : List (Int × Int)}, Pos0 al → FA al (unitP 0 xs) = FA al xs
  | [], _ => rfl
  | a :: al, h0 => by
    have s0 := h0 a.1 List.mem_cons_self
    show a.2 * _ + FA al _ = a.2 * _ + FA al _
    rw [rod_unit s0 xs 0 0 (by omega) (by omega), FA_unit xs fun k hk => h0 k (List.mem_cons_of_mem _ hk)]
end Pf

namespace Pf
open PySem L2 Z PyProof.Rows
/-! ### trees on rows -/
def pullT : Tr → Int
  | .rod _ => 1
  | .mul a n => pullT a * n
  | .neg a => 0 - pullT a
  | .add a b => pullT a + pullT b
  | .sub a b => pullT a - pullT b
  | .chn a b => pullT b * pullT a
def endT : Tr → List Int → Int
  | .rod s, xs => rodE s 0 xs
  | .mul a n, xs => endT a xs * n
  | .neg a, xs => 0 - endT a xs
  | .add a b, xs => endT a xs + endT b xs
  | .sub a b, xs => endT a xs - endT b xs
  | .chn a b, xs => endT b (midP (endT a) xs)
def stW : Tr → List Int → W
  | .rod s, xs => .int (rodE s 0 xs)
  | .mul a _, xs => stW a xs
  | .neg a, xs => stW a xs
  | .add a b, xs => .tup [stW a xs, stW b xs]
  | .sub a b, xs => .tup [stW a xs, stW b xs]
  | .chn a b, xs => .tup [stW a xs, .int (endT a xs), stW b (midP (endT a) xs)]
def trW : Tr → W
  | .rod s => .tup [.str "rod", .int s]
  | .mul a n => .tup [.str "*", trW a, .int n]
  | .neg a => .tup [.str "neg", trW a]
  | .add a b => .tup [.str "+", trW a, trW b]
  | .sub a b => .tup [.str "-", trW a, trW b]
  | .chn a b => .tup [.str ">>", trW a, trW b]
def upT (a : Tr) : Prop := ∀ h, valT a h ≤ valT a (h + 1)
/-- slacks are 0 or more, what drives goes forward -/
def goodT : Tr → Prop
  | .rod s => 0 ≤ s
  | .mul a _ => goodT a
  | .neg a => goodT a
  | .add a b => goodT a ∧ goodT b
  | .sub a b => goodT a ∧ goodT b
  | .chn a b => goodT a ∧ goodT b ∧ upT a
theorem good_pos : ∀ {t : Tr}, goodT t → posT t
  | .rod _, h => h
  | .mul a _, h => good_pos (t := a) h
  | .neg a, h => good_pos (t := a) h
  | .add a b, h => ⟨good_pos h.1, good_pos h.2⟩
  | .sub a b, h => ⟨good_pos h.1, good_pos h.2⟩
  | .chn a b, h => ⟨good_pos h.1, good_pos h.2.1⟩
theorem tot_pos : ∀ {t : Tr}, posT t → 0 ≤ totT t
  | .rod _, h => h
  | .mul a _, h => tot_pos (t := a) h
  | .neg a, h => tot_pos (t := a) h
  | .add a b, h => Int.add_nonneg (tot_pos h.1) (tot_pos h.2)
  | .sub a b, h => Int.add_nonneg (tot_pos h.1) (tot_pos h.2)
  | .chn a b, h => Int.add_nonneg (tot_pos h.1) (tot_pos h.2)
theorem up_le {a : Tr} {N : Nat} (h : ∀ h, h < N → valT a h ≤ valT a (h + 1)) : ∀ {k M : Nat}, M + k = N → valT a M ≤ valT a N
  | 0, M, e => by subst e; exact Int.le_refl _
  | k + 1, M, e => Int.le_trans (h M (by omega)) (up_le h (k := k) (M := M + 1) (by omega))
theorem up_pos {a : Tr} (hp : posT a) (u : upT a) (h : Nat) : 0 ≤ valT a h := by
  have := up_le (a := a) (N := h) (fun j _ => u j) (k := h) (M := 0) (by omega)
  rw [valT_0 hp] at this
  exact this
theorem end_nil : ∀ {t : Tr}, goodT t → endT t [] = 0
  | .rod _, _ => rfl
  | .mul a n, h => by show endT a [] * n = 0; rw [end_nil (t := a) h]; omega
  | .neg a, h => by show 0 - endT a [] = 0; rw [end_nil (t := a) h]; rfl
  | .add a b, h => by show endT a [] + endT b [] = 0; rw [end_nil h.1, end_nil h.2]; rfl
  | .sub a b, h => by show endT a [] - endT b [] = 0; rw [end_nil h.1, end_nil h.2]; rfl
  | .chn a b, h => by show endT b [] = 0; exact end_nil h.2.1
/-- behind all slacks together the curve goes on evenly -/
theorem lin_tot : ∀ {t : Tr}, goodT t → ∀ h : Nat, totT t ≤ h → valT t (h + 1) - valT t h = pullT t
  | .rod s, g, h, hh => by
    have hh' : s ≤ h := hh
    show max 0 (((h + 1 : Nat) : Int) - s) - max 0 ((h : Int) - s) = 1
    omega
  | .mul a n, g, h, hh => by
    show valT a (h + 1) * n - valT a h * n = pullT a * n
    rw [← Int.sub_mul, lin_tot (t := a) g h hh]
  | .neg a, g, h, hh => by
    have := lin_tot (t := a) g h hh
    show (0 - valT a (h + 1)) - (0 - valT a h) = 0 - pullT a
    omega
  | .add a b, g, h, hh => by
    have pa := tot_pos (good_pos g.1)
    have pb := tot_pos (good_pos g.2)
    have hh' : totT a + totT b ≤ h := hh
    have h1 := lin_tot g.1 h (by omega)
    have h2 := lin_tot g.2 h (by omega)
    show (valT a (h + 1) + valT b (h + 1)) - (valT a h + valT b h) = pullT a + pullT b
    omega
  | .sub a b, g, h, hh => by
    have pa := tot_pos (good_pos g.1)
    have pb := tot_pos (good_pos g.2)
    have hh' : totT a + totT b ≤ h := hh
    have h1 := lin_tot g.1 h (by omega)
    have h2 := lin_tot g.2 h (by omega)
    show (valT a (h + 1) - valT b (h + 1)) - (valT a h - valT b h) = pullT a - pullT b
    omega
  | .chn a b, g, h, hh => by
    have ppa := good_pos g.1
    have pa := tot_pos ppa
    have pb := tot_pos (good_pos g.2.1)
    have hh' : totT a + totT b ≤ h := hh
    have h1 := lin_tot g.1 h (by omega)
    have up := g.2.2
    have p0 : 0 ≤ pullT a := by have := up h; omega
    have v0 := up_pos ppa up h
    have v1 := up_pos ppa up (h + 1)
    show valT b (valT a (h + 1)).toNat - valT b (valT a h).toNat = pullT b * pullT a
    by_cases c : pullT a = 0
    · have : valT a (h + 1) = valT a h := by omega
      rw [this, c]; omega
    · -- the height of what drives is beyond all slacks of the driven one
      have grow : ∀ k : Nat, (k : Int) ≤ valT a ((totT a).toNat + k) := by
        intro k
        induction k with
        | zero => exact up_pos ppa up _
        | succ k ih =>
          have := lin_tot g.1 ((totT a).toNat + k) (by omega)
          have e : (totT a).toNat + (k + 1) = (totT a).toNat + k + 1 := by omega
          rw [e]
          omega
      have big : totT b ≤ valT a h := by
        have := grow (h - (totT a).toNat)
        have e : (totT a).toNat + (h - (totT a).toNat) = h := by omega
        rw [e] at this
        omega
      have run : ∀ (n m : Nat), totT b ≤ m → valT b (m + n) - valT b m = pullT b * n := by
        intro n
        induction n with
        | zero => intro m _; show valT b m - valT b m = pullT b * 0; omega
        | succ n ih =>
          intro m hm
          have h1 := ih m hm
          have h2 := lin_tot g.2.1 (m + n) (by omega)
          have e : pullT b * ((n + 1 : Nat) : Int) = pullT b * n + pullT b := by
            rw [Int.natCast_add, Int.mul_add]; simp
          rw [e]
          show valT b (m + n + 1) - _ = _
          omega
      have e1 : (valT a (h + 1)).toNat = (valT a h).toNat + (pullT a).toNat := by omega
      rw [e1, run _ _ (by omega)]
      have e2 : (((pullT a).toNat : Nat) : Int) = pullT a := by omega
      rw [e2]
theorem lin_run {t : Tr} (g : goodT t) {N : Nat} (hN : totT t ≤ N) : ∀ n : Nat, valT t (N + n) = valT t N + n * pullT t
  | 0 => by show valT t N = valT t N + 0 * _; omega
  | n + 1 => by
    have h1 := lin_run g hN n
    have h2 := lin_tot g (N + n) (by omega)
    have e : (((n + 1 : Nat) : Int)) * pullT t = n * pullT t + pullT t := by rw [Int.natCast_add, Int.add_mul]; simp
    show valT t (N + n + 1) = _
    rw [e]
    omega
/-- the arms of a tree -/
def topT (t : Tr) : Nat := (totT t).toNat + 1
def armT (t : Tr) : List (Int × Int) := arcA (valT t) (topT t)
theorem armT_nrm (t : Tr) : Nrm (armT t) := arcA_nrm _ _
theorem armT_pos (t : Tr) : Pos0 (armT t) := fun k hk => (arcA_keys hk).1
theorem armT_key {t : Tr} (k : Int) (hk : k ∈ (armT t).map (·.1)) : k < topT t := (arcA_keys hk).2
theorem armT_slope {t : Tr} (g : goodT t) (m : Nat) : slopeA (armT t) (topT t + m) = pullT t := by
  rw [slope_far (fun k hk => armT_key k hk)]
  have z := arc_slope (e := valT t) (n := topT t) (m := topT t) (Nat.le_refl _)
  rw [if_neg (by unfold topT; omega)] at z
  have hp := tot_pos (good_pos g)
  have l := lin_tot g (totT t).toNat (by omega)
  show slopeA (arcA (valT t) (topT t)) (topT t) = _
  rw [z]
  exact l
theorem armT_fA {t : Tr} (g : goodT t) (n : Nat) : fA (armT t) n = valT t n := by
  have v0 := valT_0 (good_pos g)
  by_cases h : n ≤ topT t
  · exact arc_fA v0 h
  · obtain ⟨m, rfl⟩ : ∃ m, n = topT t + m := ⟨n - topT t, by omega⟩
    rw [fA_far (fun k hk => by have := armT_key k hk; omega) m]
    have e1 : fA (armT t) (topT t) = valT t (topT t) := arc_fA v0 (Nat.le_refl _)
    rw [e1, armT_slope g 1, lin_run g (by have := tot_pos (good_pos g); unfold topT; omega)]
theorem armT_hgt {t : Tr} (g : goodT t) (n : Nat) : hgtA (armT t) (n : Int) = valT t n := by
  rw [hgtA_fA (armT_nrm t).nd (armT_pos t), armT_fA g]
theorem slope_sum : ∀ {al : List (Int × Int)} {N : Nat}, (al.map (·.1)).Nodup → Pos0 al → (∀ k ∈ al.map (·.1), k < (N : Int)) → slopeA al N = pullA al
  | [], N, _, _, _ => (fA_nil N).2
  | a :: al, N, nd, p0, hk => by
    rw [List.map_cons, List.nodup_cons] at nd
    rw [slopeA_cons nd.1 (p0 a.1 List.mem_cons_self), if_pos (hk a.1 List.mem_cons_self), slope_sum nd.2 (fun k h => p0 k (List.mem_cons_of_mem _ h)) fun k h => hk k (List.mem_cons_of_mem _ h)]
    rfl
theorem armT_pull {t : Tr} (g : goodT t) : pullA (armT t) = pullT t := by
  rw [← slope_sum (armT_nrm t).nd (armT_pos t) (fun k hk => armT_key k hk)]
  exact armT_slope g 0
/-- the end of a tree, by the memory; by its arms -/
theorem endT_mem : ∀ {t : Tr}, goodT t → ∀ xs : List Int, endT t xs = ZM (valT t) (pullT t) (memF xs)
  | .rod s, g, xs => rod_mem g xs
  | .mul a n, g, xs => by
    show endT a xs * n = _
    rw [endT_mem (t := a) g]
    have e := Phi_lin (fun _ => 0) (valT a) n (memF xs) true
    have z : ∀ ms : List Int, Phi (fun _ => (0 : Int)) true ms = 0 := fun ms => by
      have := Phi_lin (fun _ => 0) (fun _ => 0) 1 ms true
      simp at this
      omega
    unfold ZM
    have e2 : Phi (valT (.mul a n)) true (memF xs) = n * Phi (valT a) true (memF xs) := by
      rw [← Phi_cong (f := fun h => 0 + n * valT a h) (fun h => by show 0 + n * valT a h = valT a h * n; rw [Int.mul_comm]; omega), e, z]; omega
    rw [e2]
    show _ = pullT a * n * _ + _
    rw [Int.add_mul, Int.mul_right_comm, Int.mul_comm n]
  | .neg a, g, xs => by
    show 0 - endT a xs = _
    rw [endT_mem (t := a) g]
    have e := Phi_lin (fun _ => 0) (valT a) (-1) (memF xs) true
    have z : ∀ ms : List Int, Phi (fun _ => (0 : Int)) true ms = 0 := fun ms => by
      have := Phi_lin (fun _ => 0) (fun _ => 0) 1 ms true
      simp at this
      omega
    unfold ZM
    have e2 : Phi (valT (.neg a)) true (memF xs) = - Phi (valT a) true (memF xs) := by
      rw [← Phi_cong (f := fun h => 0 + -1 * valT a h) (fun h => by show 0 + -1 * valT a h = 0 - valT a h; omega), e, z]; omega
    rw [e2]
    show _ = (0 - pullT a) * _ + _
    rw [Int.sub_mul]; omega
  | .add a b, g, xs => by
    show endT a xs + endT b xs = _
    rw [endT_mem g.1, endT_mem g.2]
    have e := Phi_lin (valT a) (valT b) 1 (memF xs) true
    unfold ZM
    rw [← Phi_cong (f := fun h => valT a h + 1 * valT b h) (g := valT (.add a b)) (fun h => by show valT a h + 1 * valT b h = valT a h + valT b h; omega), e]
    show _ = (pullT a + pullT b) * _ + _
    rw [Int.add_mul]; omega
  | .sub a b, g, xs => by
    show endT a xs - endT b xs = _
    rw [endT_mem g.1, endT_mem g.2]
    have e := Phi_lin (valT a) (valT b) (-1) (memF xs) true
    unfold ZM
    rw [← Phi_cong (f := fun h => valT a h + -1 * valT b h) (g := valT (.sub a b)) (fun h => by show valT a h + -1 * valT b h = valT a h - valT b h; omega), e]
    show _ = (pullT a - pullT b) * _ + _
    rw [Int.sub_mul]; omega
  | .chn a b, g, xs => by
    show endT b (midP (endT a) xs) = _
    have ppa := good_pos g.1
    have hb : ∀ ys, endT b ys = FA (armT b) ys := fun ys => by
      rw [endT_mem g.2.1, FA_mem (armT_pos b)]
      exact ZM_cong (fun n => (armT_hgt g.2.1 n).symm) (armT_pull g.2.1).symm _
    have p0 : 0 ≤ pullT a := by
      have hp := tot_pos ppa
      have := lin_tot g.1 (totT a).toNat (by omega)
      have := g.2.2 (totT a).toNat
      omega
    rw [hb, FA_mid (end_nil g.1) xs (armT_pos b)]
    have e1 : preM (endT a) xs = preM (fun ys => ZM (valT a) (pullT a) (memF ys)) xs := by
      unfold preM
      exact List.map_congr_left fun k _ => endT_mem g.1 _
    rw [e1, FA_play (valT_0 ppa) g.2.2 p0 xs (armT_pos b)]
    refine ZM_cong (fun n => ?_) (by rw [armT_pull g.2.1]; rfl) _
    show hgtA (armT b) (valT a n) = valT b (valT a n).toNat
    rw [← armT_hgt g.2.1]
    have : (((valT a n).toNat : Nat) : Int) = valT a n := by have := up_pos ppa g.2.2 n; omega
    rw [this]
theorem endT_FA {t : Tr} (g : goodT t) (xs : List Int) : endT t xs = FA (armT t) xs := by
  rw [endT_mem g, FA_mem (armT_pos t)]
  exact ZM_cong (fun n => (armT_hgt g n).symm) (armT_pull g).symm _
theorem endT_unit {t : Tr} (g : goodT t) (xs : List Int) : endT t (unitP 0 xs) = endT t xs := by
  rw [endT_FA g, endT_FA g, FA_unit xs (armT_pos t)]
/-- what a rig with these arms does on a row -/
theorem armsEs_FA : ∀ (al : List (Int × Int)) (ps init : List Int), init.length = ps.length → armsEs ps init al = (List.range ps.length).map fun k => init.getD k 0 + FA al (ps.take (k + 1)) := by
  have rodEs_eq : ∀ (s : Int) (ps : List Int) (e : Int), rodEs s e ps = (List.range ps.length).map fun k => rodE s e (ps.take (k + 1)) := by
    intro s ps
    induction ps with
    | nil => intro e; rfl
    | cons p ps ih =>
      intro e
      show rodSt s e p :: rodEs s (rodSt s e p) ps = (List.range (ps.length + 1)).map _
      rw [ih, List.range_succ_eq_map, List.map_cons, List.map_map]
      rfl
  have addE_eq : ∀ (c : Int) (es fs : List Int), es.length = fs.length → addE c es fs = (List.range es.length).map fun k => es.getD k 0 + c * fs.getD k 0 := by
    intro c es
    induction es with
    | nil => intro fs h; cases fs <;> first | rfl | (simp at h)
    | cons e es ih =>
      intro fs h
      cases fs with
      | nil => simp at h
      | cons f fs =>
        show (e + c * f) :: addE c es fs = (List.range (es.length + 1)).map _
        rw [ih fs (by simpa using h), List.range_succ_eq_map, List.map_cons, List.map_map]
        rfl
  intro al
  induction al with
  | nil =>
    intro ps init h
    show init = _
    apply List.ext_getElem?
    intro i
    rw [List.getElem?_map]
    by_cases hi : i < ps.length
    · rw [List.getElem?_range hi]
      show _ = some (init.getD i 0 + 0)
      rw [List.getD_eq_getElem?_getD, List.getElem?_eq_getElem (by omega)]
      simp
    · rw [List.getElem?_eq_none (by omega), List.getElem?_eq_none (by rw [List.length_range]; omega)]; rfl
  | cons a al ih =>
    intro ps init h
    show armsEs ps (addE a.2 init (rodEs a.1 0 ps)) al = _
    have hl : (rodEs a.1 0 ps).length = ps.length := rodEs_len _ _ _
    rw [ih ps _ (by rw [addE_len _ _ _ (by rw [hl]; exact h)]; exact h)]
    refine List.map_congr_left fun k hk => ?_
    have hk' := List.mem_range.mp hk
    rw [addE_eq _ _ _ (by rw [hl]; exact h), rodEs_eq]
    have e1 : (List.map (fun k => init.getD k 0 + a.2 * (List.map (fun k => rodE a.1 0 (List.take (k + 1) ps)) (List.range ps.length)).getD k 0) (List.range init.length)).getD k 0 = init.getD k 0 + a.2 * rodE a.1 0 (ps.take (k + 1)) := by
      rw [List.getD_eq_getElem?_getD, List.getElem?_map, List.getElem?_range (by omega)]
      have e2 : (List.map (fun k => rodE a.1 0 (List.take (k + 1) ps)) (List.range ps.length)).getD k 0 = rodE a.1 0 (List.take (k + 1) ps) := by
        rw [List.getD_eq_getElem?_getD, List.getElem?_map, List.getElem?_range hk']; rfl
      show init.getD k 0 + a.2 * (List.map _ (List.range ps.length)).getD k 0 = _
      rw [e2]
    rw [e1]
    show _ = init.getD k 0 + (a.2 * rodE a.1 0 _ + FA al _)
    omega
theorem armsEs_tree {t : Tr} (g : goodT t) (row : List Int) : armsEs row (row.map fun _ => 0) (armT t) = (List.range row.length).map fun k => endT t (row.take (k + 1)) := by
  rw [armsEs_FA _ _ _ (by simp)]
  refine List.map_congr_left fun k hk => ?_
  rw [endT_FA g]
  have : (row.map fun _ => (0 : Int)).getD k 0 = 0 := by
    rw [List.getD_eq_getElem?_getD, List.getElem?_map]
    cases row[k]? <;> rfl
  rw [this]; omega
end Pf

namespace Pf
open PySem L2 Z PyProof.Rows
/-! ### trees and their arms: limits, sums, chains -/
theorem armT_ext {a b : Tr} (ga : goodT a) (gb : goodT b) (h : ∀ n, valT a n = valT b n) : armT a = armT b :=
  fA_ext (armT_nrm a) (armT_nrm b) (armT_pos a) (armT_pos b) fun n => by rw [armT_fA ga, armT_fA gb, h n]
theorem sum_armT {a : List (Int × Int)} {b t : Tr} {r : List (Int × Int)} {n : Int} (na : Pos0 a) (gb : goodT b) (gt : goodT t) (hr : Nrm r) (hc : ∀ k, cf r k = cf a k + n * cf (armT b) k) (hv : ∀ m, valT t m = fA a m + n * valT b m) : r = armT t := by
  refine fA_ext hr (armT_nrm t) (fun k hk => ?_) (armT_pos t) fun m => by rw [armT_fA gt, hv m, fA_lin hc m, armT_fA gb]
  by_cases ha : k ∈ a.map (·.1)
  · exact na k ha
  · by_cases hb : k ∈ (armT b).map (·.1)
    · exact armT_pos b k hb
    · have e := hc k
      rw [cf_out ha, cf_out hb] at e
      obtain ⟨p, hp, rfl⟩ := List.mem_map.mp hk
      have z := getI_of_nd hr.nd hp
      have : cf r p.1 = p.2 := by unfold cf; rw [z]; rfl
      have n0 := hr.2 p hp
      rw [this] at e
      exact absurd (by omega) n0
theorem slope_fwd : ∀ {al : List (Int × Int)} {p : Int}, Nrm al → Pos0 al → (∀ n, 0 ≤ p + slopeA al n) → fwdB p al = true
  | [], _, _, _, _ => rfl
  | a :: al, p, na, pa, h => by
    have hn := na.1
    rw [List.map_cons, List.pairwise_cons] at hn
    have nd : a.1 ∉ al.map (·.1) := fun m => by have := hn.1 _ m; omega
    have a0 := pa a.1 List.mem_cons_self
    obtain ⟨j, hj⟩ := Int.eq_ofNat_of_zero_le a0
    have z : ∀ n : Nat, n ≤ j + 1 → slopeA al n = 0 := fun n hl => slope_0 fun k hk => by have := hn.1 k hk; omega
    have h1 := h (j + 1)
    rw [slopeA_cons nd a0, if_pos (by omega), z _ (Nat.le_refl _)] at h1
    show (decide (0 ≤ p + a.2) && fwdB (p + a.2) al) = true
    rw [decide_eq_true (by omega), Bool.true_and]
    refine slope_fwd ⟨hn.2, fun x hx => na.2 x (List.mem_cons_of_mem _ hx)⟩ (fun k hk => pa k (List.mem_cons_of_mem _ hk)) fun n => ?_
    by_cases c : n ≤ j + 1
    · rw [z n c]; omega
    · have := h n
      rw [slopeA_cons nd a0, if_pos (by omega)] at this
      omega
theorem armT_step {t : Tr} (g : goodT t) (n : Nat) : slopeA (armT t) (n + 1) = valT t (n + 1) - valT t n := by
  have e : fA (armT t) (n + 1) = fA (armT t) n + slopeA (armT t) (n + 1) := rfl
  rw [armT_fA g, armT_fA g] at e
  omega
theorem armT_fwd {t : Tr} (g : goodT t) : fwdB 0 (armT t) = true ↔ upT t := by
  refine ⟨fun h n => ?_, fun u => slope_fwd (armT_nrm t) (armT_pos t) fun n => ?_⟩
  · have := fwd_slope (armT_nrm t) (armT_pos t) (Int.le_refl 0) h (n + 1)
    rw [armT_step g] at this
    omega
  · cases n with
    | zero => show (0 : Int) ≤ 0 + 0; omega
    | succ n => rw [armT_step g]; have := u n; omega
theorem chain_armT {a b : Tr} (ga : goodT a) (gb : goodT b) (u : upT a) : chainA (armT a) (armT b) = armT (.chn a b) := by
  refine fA_ext (arcA_nrm _ _) (armT_nrm _) (fun k hk => (arcA_keys hk).1) (armT_pos _) fun n => ?_
  rw [chain_fA (armT_nrm a) (armT_nrm b) (armT_pos a) (armT_pos b) ((armT_fwd ga).mpr u), armT_fA (t := .chn a b) ⟨ga, gb, u⟩, armT_fA ga]
  have p := up_pos (good_pos ga) u n
  obtain ⟨m, hm⟩ := Int.eq_ofNat_of_zero_le p
  show hgtA (armT b) (valT a n) = valT b (valT a n).toNat
  rw [hm, armT_hgt gb]; rfl
/-! limits -/
/-- how far the end goes at most at one step -/
def lipT : Tr → Nat
  | .rod _ => 1
  | .mul a n => lipT a * n.natAbs
  | .neg a => lipT a
  | .add a b => lipT a + lipT b
  | .sub a b => lipT a + lipT b
  | .chn a b => lipT a * lipT b
theorem lip_run {t : Tr} (h1 : ∀ h, (valT t (h + 1) - valT t h).natAbs ≤ lipT t) (m : Nat) : ∀ n : Nat, (valT t (m + n) - valT t m).natAbs ≤ n * lipT t
  | 0 => by rw [Nat.add_zero, Int.sub_self]; exact Nat.zero_le _
  | n + 1 => by
    have a := lip_run h1 m n
    have b := h1 (m + n)
    have e : valT t (m + (n + 1)) - valT t m = (valT t (m + n + 1) - valT t (m + n)) + (valT t (m + n) - valT t m) := by rw [Nat.add_assoc]; omega
    rw [e]
    have := Int.natAbs_add_le (valT t (m + n + 1) - valT t (m + n)) (valT t (m + n) - valT t m)
    rw [Nat.add_mul]
    omega
theorem lip_val : ∀ {t : Tr}, goodT t → ∀ h, (valT t (h + 1) - valT t h).natAbs ≤ lipT t
  | .rod s, g, h => by
    show (max 0 (((h + 1 : Nat) : Int) - s) - max 0 ((h : Int) - s)).natAbs ≤ 1
    omega
  | .mul a n, g, h => by
    show (valT a (h + 1) * n - valT a h * n).natAbs ≤ lipT a * n.natAbs
    rw [← Int.sub_mul, Int.natAbs_mul]
    exact Nat.mul_le_mul_right _ (lip_val (t := a) g h)
  | .neg a, g, h => by
    have := lip_val (t := a) g h
    show ((0 - valT a (h + 1)) - (0 - valT a h)).natAbs ≤ lipT a
    omega
  | .add a b, g, h => by
    have h1 := lip_val g.1 h
    have h2 := lip_val g.2 h
    show ((valT a (h + 1) + valT b (h + 1)) - (valT a h + valT b h)).natAbs ≤ lipT a + lipT b
    omega
  | .sub a b, g, h => by
    have h1 := lip_val g.1 h
    have h2 := lip_val g.2 h
    show ((valT a (h + 1) - valT b (h + 1)) - (valT a h - valT b h)).natAbs ≤ lipT a + lipT b
    omega
  | .chn a b, g, h => by
    have h1 := lip_val g.1 h
    have p := up_pos (good_pos g.1) g.2.2 h
    have u := g.2.2 h
    obtain ⟨n, hn⟩ : ∃ n : Nat, (valT a (h + 1)).toNat = (valT a h).toNat + n := ⟨(valT a (h + 1)).toNat - (valT a h).toNat, by omega⟩
    show (valT b (valT a (h + 1)).toNat - valT b (valT a h).toNat).natAbs ≤ lipT a * lipT b
    rw [hn]
    refine Nat.le_trans (lip_run (lip_val g.2.1) _ n) (Nat.mul_le_mul_right _ ?_)
    omega
/-- how many arms there are at most -/
def cntT : Tr → Nat
  | .rod _ => 1
  | .mul a _ => cntT a
  | .neg a => cntT a
  | .add a b => cntT a + cntT b
  | .sub a b => cntT a + cntT b
  | .chn a b => cntT a + (if lipT a ≤ 1 then 1 else 2) * cntT b
def bendT (t : Tr) (k : Nat) : Int := valT t (k + 1) - valT t k - pullE (valT t) k
theorem bend_0 (t : Tr) (g : goodT t) : bendT t 0 = valT t 1 := by
  have := valT_0 (good_pos g)
  show valT t 1 - valT t 0 - 0 = valT t 1
  omega
theorem bend_S (t : Tr) (k : Nat) : bendT t (k + 1) = valT t (k + 2) - valT t (k + 1) - (valT t (k + 1) - valT t k) := by
  unfold bendT pullE
  rw [if_neg (by omega)]; rfl
theorem min_nat {P : Nat → Prop} : ∀ {n : Nat}, P n → ∃ m, P m ∧ ∀ j, P j → m ≤ j := by
  intro n
  induction n using Nat.strongRecOn with
  | ind n ih =>
    intro h
    by_cases c : ∃ j, j < n ∧ P j
    · obtain ⟨j, hj, pj⟩ := c
      exact ih j hj pj
    · exact ⟨n, h, fun j pj => Nat.le_of_not_lt fun l => c ⟨j, l, pj⟩⟩
theorem even_run {b : Tr} {x : Nat} : ∀ (n : Nat), (∀ j, x < j → j < x + n → bendT b j = 0) → ∀ i, i < n → valT b (x + i + 1) - valT b (x + i) = valT b (x + 1) - valT b x
  | n, h, 0, hi => rfl
  | n, h, i + 1, hi => by
    have a := even_run n h i (by omega)
    have c := h (x + i + 1) (by omega) (by omega)
    rw [bend_S] at c
    have e : x + (i + 1) = x + i + 1 := rfl
    rw [e]
    have e2 : x + i + 1 + 1 = x + i + 2 := rfl
    rw [e2]
    omega
theorem even_go {b : Tr} {x : Nat} (n : Nat) (h : ∀ j, x < j → j < x + n → bendT b j = 0) : ∀ i, i ≤ n → valT b (x + i) - valT b x = (i : Int) * (valT b (x + 1) - valT b x)
  | 0, _ => by rw [Nat.add_zero]; omega
  | i + 1, hi => by
    have a := even_go n h i (by omega)
    have c := even_run n h i (by omega)
    have e : x + (i + 1) = x + i + 1 := rfl
    rw [e, show ((i + 1 : Nat) : Int) = (i : Int) + 1 by omega, Int.add_mul]
    omega
theorem pts : ∀ {t : Tr}, goodT t → ∃ l : List Nat, l.length ≤ cntT t ∧ ∀ k : Nat, bendT t k ≠ 0 → k ∈ l
  | .rod s, g => ⟨[s.toNat], Nat.le_refl _, fun k h => by
    have g' : 0 ≤ s := g
    rw [List.mem_singleton]
    cases k with
    | zero => rw [bend_0 _ g] at h; have h' : max 0 (((1 : Nat) : Int) - s) ≠ 0 := h; omega
    | succ k =>
      rw [bend_S] at h
      have h' : max 0 (((k + 2 : Nat) : Int) - s) - max 0 (((k + 1 : Nat) : Int) - s) - (max 0 (((k + 1 : Nat) : Int) - s) - max 0 ((k : Int) - s)) ≠ 0 := h
      omega⟩
  | .mul a n, g => by
    obtain ⟨l, hl, hm⟩ := pts (t := a) g
    refine ⟨l, hl, fun k h => hm k fun z => h ?_⟩
    cases k with
    | zero => rw [bend_0 a g] at z; rw [bend_0 (.mul a n) g]; show valT a 1 * n = 0; rw [z, Int.zero_mul]
    | succ k =>
      rw [bend_S] at z ⊢
      show valT a (k + 2) * n - valT a (k + 1) * n - (valT a (k + 1) * n - valT a k * n) = 0
      rw [← Int.sub_mul, ← Int.sub_mul, ← Int.sub_mul, z, Int.zero_mul]
  | .neg a, g => by
    obtain ⟨l, hl, hm⟩ := pts (t := a) g
    refine ⟨l, hl, fun k h => hm k fun z => h ?_⟩
    cases k with
    | zero => rw [bend_0 a g] at z; rw [bend_0 (.neg a) g]; show 0 - valT a 1 = 0; omega
    | succ k =>
      rw [bend_S] at z ⊢
      show (0 - valT a (k + 2)) - (0 - valT a (k + 1)) - ((0 - valT a (k + 1)) - (0 - valT a k)) = 0
      omega
  | .add a b, g => by
    obtain ⟨l, hl, hm⟩ := pts g.1
    obtain ⟨l', hl', hm'⟩ := pts g.2
    refine ⟨l ++ l', by rw [List.length_append]; exact Nat.add_le_add hl hl', fun k h => List.mem_append.mpr ?_⟩
    by_cases z : bendT a k = 0
    · refine .inr (hm' k fun z' => h ?_)
      cases k with
      | zero => rw [bend_0 a g.1] at z; rw [bend_0 b g.2] at z'; rw [bend_0 (.add a b) g]; show valT a 1 + valT b 1 = 0; omega
      | succ k =>
        rw [bend_S] at z z' ⊢
        show (valT a (k + 2) + valT b (k + 2)) - (valT a (k + 1) + valT b (k + 1)) - ((valT a (k + 1) + valT b (k + 1)) - (valT a k + valT b k)) = 0
        omega
    · exact .inl (hm k z)
  | .sub a b, g => by
    obtain ⟨l, hl, hm⟩ := pts g.1
    obtain ⟨l', hl', hm'⟩ := pts g.2
    refine ⟨l ++ l', by rw [List.length_append]; exact Nat.add_le_add hl hl', fun k h => List.mem_append.mpr ?_⟩
    by_cases z : bendT a k = 0
    · refine .inr (hm' k fun z' => h ?_)
      cases k with
      | zero => rw [bend_0 a g.1] at z; rw [bend_0 b g.2] at z'; rw [bend_0 (.sub a b) g]; show valT a 1 - valT b 1 = 0; omega
      | succ k =>
        rw [bend_S] at z z' ⊢
        show (valT a (k + 2) - valT b (k + 2)) - (valT a (k + 1) - valT b (k + 1)) - ((valT a (k + 1) - valT b (k + 1)) - (valT a k - valT b k)) = 0
        omega
    · exact .inl (hm k z)
  | .chn a b, g => by
    obtain ⟨l, hl, hm⟩ := pts g.1
    obtain ⟨l', hl', hm'⟩ := pts g.2.1
    have v0 := valT_0 (good_pos g.1)
    have b0 := valT_0 (good_pos g.2.1)
    have pos := fun h => up_pos (good_pos g.1) g.2.2 h
    have le : ∀ {i j : Nat}, i ≤ j → valT a i ≤ valT a j := fun {i j} hij => up_le (a := a) (N := j) (fun q _ => g.2.2 q) (k := j - i) (M := i) (by omega)
    -- where a bend of b is passed
    have one : ∀ j : Nat, ∃ q : List Nat, q.length ≤ (if lipT a ≤ 1 then 1 else 2) ∧ ∀ k : Nat, valT a k < j → (j : Int) < valT a (k + 2) → k + 1 ∈ q := by
      intro j
      by_cases ex : ∃ k : Nat, valT a k < j ∧ (j : Int) < valT a (k + 2)
      · obtain ⟨k, hk⟩ := ex
        obtain ⟨m, hm, mi⟩ := min_nat (P := fun k : Nat => valT a k < j ∧ (j : Int) < valT a (k + 2)) hk
        by_cases c : lipT a ≤ 1
        · refine ⟨[m + 1], by rw [if_pos c]; exact Nat.le_refl _, fun k h1 h2 => ?_⟩
          have h3 := mi k ⟨h1, h2⟩
          have s1 := lip_val g.1 m
          have s2 := lip_val g.1 (m + 1)
          have e2 : m + 1 + 1 = m + 2 := rfl
          rw [e2] at s2
          by_cases d : k = m
          · subst d; exact List.mem_cons_self
          · have := le (i := m + 1) (j := k) (by omega)
            omega
        · refine ⟨[m + 1, m + 2], by rw [if_neg c]; exact Nat.le_refl _, fun k h1 h2 => ?_⟩
          have h3 := mi k ⟨h1, h2⟩
          by_cases d : k < m + 2
          · have : k = m ∨ k = m + 1 := by omega
            rcases this with rfl | rfl <;> simp
          · have := le (i := m + 2) (j := k) (by omega)
            omega
      · exact ⟨[], Nat.zero_le _, fun k h1 h2 => absurd ⟨k, h1, h2⟩ ex⟩
    have many : ∀ l' : List Nat, ∃ q : List Nat, q.length ≤ (if lipT a ≤ 1 then 1 else 2) * l'.length ∧ ∀ k : Nat, ∀ j ∈ l', valT a k < (j : Int) → (j : Int) < valT a (k + 2) → k + 1 ∈ q := by
      intro l'
      induction l' with
      | nil => exact ⟨[], Nat.zero_le _, fun k j hj => by cases hj⟩
      | cons j l' ih =>
        obtain ⟨q, h1, h2⟩ := ih
        obtain ⟨p, h3, h4⟩ := one j
        refine ⟨p ++ q, by rw [List.length_append, List.length_cons, Nat.mul_add, Nat.mul_one]; omega, fun k i hi c1 c2 => List.mem_append.mpr ?_⟩
        rcases List.mem_cons.mp hi with rfl | hi
        · exact .inl (h4 k c1 c2)
        · exact .inr (h2 k i hi c1 c2)
    obtain ⟨q, hq, hqm⟩ := many l'
    refine ⟨l ++ q, ?_, fun k h => List.mem_append.mpr ?_⟩
    · rw [List.length_append]
      exact Nat.add_le_add hl (Nat.le_trans hq (Nat.mul_le_mul_left _ hl'))
    · by_cases z : bendT a k = 0
      · refine .inr ?_
        cases k with
        | zero =>
          rw [bend_0 a g.1] at z
          refine absurd ?_ h
          rw [bend_0 (.chn a b) g]
          show valT b (valT a 1).toNat = 0
          rw [z]; exact b0
        | succ k =>
          rw [bend_S] at z
          have p0 := pos k
          have u1 := g.2.2 k
          obtain ⟨x, hx⟩ := Int.eq_ofNat_of_zero_le p0
          obtain ⟨d, hd⟩ : ∃ d : Nat, valT a (k + 1) = ((x + d : Nat) : Int) := ⟨(valT a (k + 1) - x).toNat, by omega⟩
          have hd2 : valT a (k + 2) = ((x + (d + d) : Nat) : Int) := by omega
          by_cases ex : ∃ j : Nat, x < j ∧ j < x + (d + d) ∧ bendT b j ≠ 0
          · obtain ⟨j, j1, j2, j3⟩ := ex
            exact hqm k j (hm' j j3) (by omega) (by omega)
          · have ev : ∀ j, x < j → j < x + (d + d) → bendT b j = 0 := fun j j1 j2 => Classical.byContradiction fun j3 => ex ⟨j, j1, j2, j3⟩
            refine absurd ?_ h
            rw [bend_S]
            show valT b (valT a (k + 2)).toNat - valT b (valT a (k + 1)).toNat - (valT b (valT a (k + 1)).toNat - valT b (valT a k).toNat) = 0
            rw [hx, hd, hd2, Int.toNat_natCast, Int.toNat_natCast, Int.toNat_natCast]
            have e1 := even_go (d + d) ev d (by omega)
            have e2 := even_go (d + d) ev (d + d) (Nat.le_refl _)
            rw [show ((d + d : Nat) : Int) = (d : Int) + d by omega, Int.add_mul] at e2
            omega
      · exact .inl (hm k z)
theorem sub_len {α : Type} [BEq α] [LawfulBEq α] : ∀ {l l' : List α}, l.Nodup → (∀ x ∈ l, x ∈ l') → l.length ≤ l'.length
  | [], _, _, _ => Nat.zero_le _
  | x :: l, l', nd, h => by
    rw [List.nodup_cons] at nd
    have hx := h x List.mem_cons_self
    have := sub_len (l := l) (l' := l'.erase x) nd.2 fun y hy => (List.mem_erase_of_ne (fun e => nd.1 (by rw [← e]; exact hy))).mpr (h y (List.mem_cons_of_mem _ hy))
    rw [List.length_erase_of_mem hx] at this
    have : 0 < l'.length := List.length_pos_of_mem hx
    rw [List.length_cons]
    omega
theorem armT_cf {t : Tr} (k : Nat) (h : (k : Int) ∈ (armT t).map (·.1)) : cf (armT t) (k : Int) = bendT t k := by
  have := armT_key _ h
  show cf (arcA (valT t) (topT t)) (k : Int) = _
  rw [arcA_cf, if_pos (by omega)]; rfl
theorem armT_in {t : Tr} {p : Int × Int} (h : p ∈ armT t) : ∃ k : Nat, p.1 = k ∧ p.2 = bendT t k ∧ p.2 ≠ 0 := by
  have hm : p.1 ∈ (armT t).map (·.1) := List.mem_map.mpr ⟨p, h, rfl⟩
  obtain ⟨k, hk⟩ := Int.eq_ofNat_of_zero_le (armT_pos t _ hm)
  refine ⟨k, hk, ?_, (armT_nrm t).2 p h⟩
  rw [← armT_cf k (hk ▸ hm), ← hk]
  unfold cf
  rw [getI_of_nd (armT_nrm t).nd h]; rfl
theorem armT_len {t : Tr} (g : goodT t) : (armT t).length ≤ cntT t := by
  obtain ⟨l, hl, hm⟩ := pts g
  have := sub_len (l := (armT t).map (·.1)) (l' := l.map fun k : Nat => (k : Int)) (armT_nrm t).nd fun x hx => by
    obtain ⟨p, hp, rfl⟩ := List.mem_map.mp hx
    obtain ⟨k, e, e2, n0⟩ := armT_in hp
    exact List.mem_map.mpr ⟨k, hm k (e2 ▸ n0), e.symm⟩
  rw [List.length_map, List.length_map] at this
  omega
/-- within the limits of a rig -/
def okT (t : Tr) : Prop := goodT t ∧ cntT t ≤ 60 ∧ totT t ≤ 900 ∧ lipT t ≤ 400000
theorem okT_arms {t : Tr} (h : okT t) : okA (armT t) := by
  obtain ⟨g, hc, ht, hl⟩ := h
  refine ⟨Nat.le_trans (armT_len g) hc, fun p hp => ?_⟩
  obtain ⟨k, e, e2, n0⟩ := armT_in hp
  have hk := armT_key p.1 (List.mem_map.mpr ⟨p, hp, rfl⟩)
  have tp := tot_pos (good_pos g)
  unfold topT at hk
  have b : (bendT t k).natAbs ≤ 2 * lipT t := by
    cases k with
    | zero =>
      rw [bend_0 t g]
      have := lip_val g 0
      rw [valT_0 (good_pos g)] at this
      have this : (valT t 1 - 0).natAbs ≤ lipT t := this
      omega
    | succ k =>
      rw [bend_S]
      have h1 := lip_val g k
      have h2 := lip_val g (k + 1)
      have e : k + 1 + 1 = k + 2 := rfl
      rw [e] at h2
      omega
  rw [e2]
  omega
end Pf

namespace Pf
open PySem L2 Z PyProof.Rows
/-! ### how far trees go -/
def rngT : Tr → Nat
  | .rod _ => 1
  | .mul a n => rngT a * (n.natAbs + 1)
  | .neg a => rngT a
  | .add a b => rngT a + rngT b
  | .sub a b => rngT a + rngT b
  | .chn a b => rngT a * rngT b
theorem rng_pos : ∀ t, 1 ≤ rngT t
  | .rod _ => Nat.le_refl _
  | .mul a n => Nat.mul_pos (rng_pos a) (Nat.succ_pos _)
  | .neg a => rng_pos a
  | .add a b => Nat.le_trans (rng_pos a) (Nat.le_add_right _ _)
  | .sub a b => Nat.le_trans (rng_pos a) (Nat.le_add_right _ _)
  | .chn a b => Nat.mul_pos (rng_pos a) (rng_pos b)
abbrev inB (B : Nat) (xs : List Int) : Prop := ∀ x ∈ xs, x.natAbs ≤ B
theorem steps_in {u v : Int} {B : Nat} (hu : u.natAbs ≤ B) (hv : v.natAbs ≤ B) : inB B (stepsI u v) := by
  intro x hx
  unfold stepsI at hx
  by_cases c : u < v
  · rw [if_pos c] at hx
    obtain ⟨k, hk, rfl⟩ := List.mem_map.mp hx
    rw [List.mem_range] at hk
    omega
  · rw [if_neg c] at hx
    obtain ⟨k, hk, rfl⟩ := List.mem_map.mp hx
    rw [List.mem_range] at hk
    omega
theorem inB_app {B : Nat} {xs ys : List Int} (h : inB B xs) (h' : inB B ys) : inB B (xs ++ ys) := fun x hx => (List.mem_append.mp hx).elim (h x) (h' x)
theorem inB_l {B : Nat} {xs ys : List Int} (h : inB B (xs ++ ys)) : inB B xs := fun x hx => h x (List.mem_append.mpr (.inl hx))
theorem mid_in {g : List Int → Int} {B B' : Nat} (hg : ∀ ys, inB B ys → (g ys).natAbs ≤ B') : ∀ xs, inB B xs → inB B' (midP g xs) := by
  refine snoc_ind (P := fun xs => inB B xs → inB B' (midP g xs)) ?_ ?_
  · intro _ x hx
    cases hx
  · intro xs x ih h
    rw [midP_snoc]
    have h1 := inB_l h
    refine inB_app (ih h1) fun y hy => ?_
    rcases List.mem_cons.mp hy with rfl | hy
    · exact hg _ h1
    · exact steps_in (hg _ h1) (hg _ h) y hy
theorem rod_in {s : Int} (s0 : 0 ≤ s) {B : Nat} : ∀ (xs : List Int) (e : Int), e.natAbs ≤ B → inB B xs → (rodE s e xs).natAbs ≤ B
  | [], e, h, _ => h
  | x :: xs, e, h, hx => by
    have h1 := hx x List.mem_cons_self
    refine rod_in s0 xs (rodSt s e x) ?_ fun y hy => hx y (List.mem_cons_of_mem _ hy)
    unfold rodSt
    omega
theorem end_in : ∀ {t : Tr}, goodT t → ∀ {B : Nat} {xs : List Int}, inB B xs → (endT t xs).natAbs ≤ rngT t * B
  | .rod s, g, B, xs, h => by
    rw [show rngT (.rod s) = 1 from rfl, Nat.one_mul]
    exact rod_in g xs 0 (Nat.zero_le _) h
  | .mul a n, g, B, xs, h => by
    have := end_in (t := a) g h
    show (endT a xs * n).natAbs ≤ rngT a * (n.natAbs + 1) * B
    rw [Int.natAbs_mul, Nat.mul_right_comm]
    exact Nat.mul_le_mul this (Nat.le_succ _)
  | .neg a, g, B, xs, h => by
    have := end_in (t := a) g h
    show (0 - endT a xs).natAbs ≤ rngT a * B
    omega
  | .add a b, g, B, xs, h => by
    have h1 := end_in g.1 h
    have h2 := end_in g.2 h
    show (endT a xs + endT b xs).natAbs ≤ (rngT a + rngT b) * B
    rw [Nat.add_mul]; omega
  | .sub a b, g, B, xs, h => by
    have h1 := end_in g.1 h
    have h2 := end_in g.2 h
    show (endT a xs - endT b xs).natAbs ≤ (rngT a + rngT b) * B
    rw [Nat.add_mul]; omega
  | .chn a b, g, B, xs, h => by
    have := end_in g.2.1 (mid_in (fun ys hy => end_in g.1 hy) xs h)
    show (endT b (midP (endT a) xs)).natAbs ≤ rngT a * rngT b * B
    rw [Nat.mul_comm (rngT a) (rngT b), Nat.mul_assoc]; exact this
/-- a tree of the laws: small slacks and numbers -/
def limT : Tr → Prop
  | .rod s => 0 ≤ s ∧ s ≤ 6
  | .mul a n => limT a ∧ -3 ≤ n ∧ n ≤ 3
  | .neg a => limT a
  | .add a b => limT a ∧ limT b
  | .sub a b => limT a ∧ limT b
  | .chn a b => limT a ∧ limT b
def capT : Nat → Nat
  | 0 => 1
  | n + 1 => max (4 * capT n) (capT n * capT n)
/-! by depth -/
theorem cap_pos : ∀ n, 1 ≤ capT n
  | 0 => Nat.le_refl _
  | n + 1 => Nat.le_trans (Nat.le_trans (cap_pos n) (by omega : capT n ≤ 4 * capT n)) (Nat.le_max_left _ _)
theorem cap_up (n : Nat) : capT n ≤ capT (n + 1) := Nat.le_trans (by omega : capT n ≤ 4 * capT n) (Nat.le_max_left _ _)
theorem rng_cap : ∀ {t : Tr} {n : Nat}, limT t → depT t ≤ n → rngT t ≤ capT n
  | .rod _, n, _, _ => cap_pos n
  | .mul a m, n + 1, h, d => by
    have := rng_cap (t := a) (n := n) h.1 (by have : depT a + 1 ≤ n + 1 := d; omega)
    have h2 := h.2
    refine Nat.le_trans (Nat.mul_le_mul this (by omega : m.natAbs + 1 ≤ 4)) (Nat.le_trans (by omega : capT n * 4 ≤ 4 * capT n) (Nat.le_max_left _ _))
  | .neg a, n + 1, h, d => Nat.le_trans (rng_cap (t := a) (n := n) h (by have : depT a + 1 ≤ n + 1 := d; omega)) (cap_up n)
  | .add a b, n + 1, h, d => by
    have d' : max (depT a) (depT b) + 1 ≤ n + 1 := d
    have h1 := rng_cap (t := a) (n := n) h.1 (by omega)
    have h2 := rng_cap (t := b) (n := n) h.2 (by omega)
    exact Nat.le_trans (Nat.add_le_add h1 h2) (Nat.le_trans (by omega) (Nat.le_max_left _ _))
  | .sub a b, n + 1, h, d => by
    have d' : max (depT a) (depT b) + 1 ≤ n + 1 := d
    have h1 := rng_cap (t := a) (n := n) h.1 (by omega)
    have h2 := rng_cap (t := b) (n := n) h.2 (by omega)
    exact Nat.le_trans (Nat.add_le_add h1 h2) (Nat.le_trans (by omega) (Nat.le_max_left _ _))
  | .chn a b, n + 1, h, d => by
    have d' : max (depT a) (depT b) + 1 ≤ n + 1 := d
    have h1 := rng_cap (t := a) (n := n) h.1 (by omega)
    have h2 := rng_cap (t := b) (n := n) h.2 (by omega)
    exact Nat.le_trans (Nat.mul_le_mul h1 h2) (Nat.le_max_right _ _)
theorem lip_rng : ∀ t, lipT t ≤ rngT t
  | .rod _ => Nat.le_refl _
  | .mul a n => Nat.mul_le_mul (lip_rng a) (Nat.le_succ _)
  | .neg a => lip_rng a
  | .add a b => Nat.add_le_add (lip_rng a) (lip_rng b)
  | .sub a b => Nat.add_le_add (lip_rng a) (lip_rng b)
  | .chn a b => Nat.mul_le_mul (lip_rng a) (lip_rng b)
def tcapT : Nat → Int
  | 0 => 6
  | n + 1 => 2 * tcapT n
theorem tcap_pos : ∀ n, 6 ≤ tcapT n
  | 0 => Int.le_refl _
  | n + 1 => by have := tcap_pos n; show 6 ≤ 2 * tcapT n; omega
theorem tot_cap : ∀ {t : Tr} {n : Nat}, limT t → depT t ≤ n → totT t ≤ tcapT n
  | .rod s, n, h, _ => Int.le_trans h.2 (tcap_pos n)
  | .mul a m, n + 1, h, d => by
    have := tot_cap (t := a) (n := n) h.1 (by have : depT a + 1 ≤ n + 1 := d; omega)
    have p := tcap_pos n
    show totT a ≤ 2 * tcapT n; omega
  | .neg a, n + 1, h, d => by
    have := tot_cap (t := a) (n := n) h (by have : depT a + 1 ≤ n + 1 := d; omega)
    have p := tcap_pos n
    show totT a ≤ 2 * tcapT n; omega
  | .add a b, n + 1, h, d => by
    have d' : max (depT a) (depT b) + 1 ≤ n + 1 := d
    have h1 := tot_cap (t := a) (n := n) h.1 (by omega)
    have h2 := tot_cap (t := b) (n := n) h.2 (by omega)
    show totT a + totT b ≤ 2 * tcapT n; omega
  | .sub a b, n + 1, h, d => by
    have d' : max (depT a) (depT b) + 1 ≤ n + 1 := d
    have h1 := tot_cap (t := a) (n := n) h.1 (by omega)
    have h2 := tot_cap (t := b) (n := n) h.2 (by omega)
    show totT a + totT b ≤ 2 * tcapT n; omega
  | .chn a b, n + 1, h, d => by
    have d' : max (depT a) (depT b) + 1 ≤ n + 1 := d
    have h1 := tot_cap (t := a) (n := n) h.1 (by omega)
    have h2 := tot_cap (t := b) (n := n) h.2 (by omega)
    show totT a + totT b ≤ 2 * tcapT n; omega
def ccapT : Nat → Nat
  | 0 => 1
  | 1 => 2
  | n + 2 => 3 * ccapT (n + 1)
theorem ccap_pos : ∀ n, 1 ≤ ccapT n
  | 0 => Nat.le_refl _
  | 1 => by decide
  | n + 2 => by have := ccap_pos (n + 1); show 1 ≤ 3 * ccapT (n + 1); omega
theorem ccap_up : ∀ n, 2 * ccapT n ≤ ccapT (n + 1)
  | 0 => by decide
  | n + 1 => by show 2 * ccapT (n + 1) ≤ 3 * ccapT (n + 1); omega
theorem cnt_cap : ∀ {t : Tr} {n : Nat}, depT t ≤ n → cntT t ≤ ccapT n
  | .rod s, n, _ => ccap_pos n
  | .mul a m, n + 1, d => by
    have := cnt_cap (t := a) (n := n) (by have : depT a + 1 ≤ n + 1 := d; omega)
    have := ccap_up n
    show cntT a ≤ _; omega
  | .neg a, n + 1, d => by
    have := cnt_cap (t := a) (n := n) (by have : depT a + 1 ≤ n + 1 := d; omega)
    have := ccap_up n
    show cntT a ≤ _; omega
  | .add a b, n + 1, d => by
    have d' : max (depT a) (depT b) + 1 ≤ n + 1 := d
    have h1 := cnt_cap (t := a) (n := n) (by omega)
    have h2 := cnt_cap (t := b) (n := n) (by omega)
    have := ccap_up n
    show cntT a + cntT b ≤ _; omega
  | .sub a b, n + 1, d => by
    have d' : max (depT a) (depT b) + 1 ≤ n + 1 := d
    have h1 := cnt_cap (t := a) (n := n) (by omega)
    have h2 := cnt_cap (t := b) (n := n) (by omega)
    have := ccap_up n
    show cntT a + cntT b ≤ _; omega
  | .chn a b, 1, d => by
    have d' : max (depT a) (depT b) + 1 ≤ 1 := d
    have h2 := cnt_cap (t := b) (n := 0) (by omega)
    have h1 := cnt_cap (t := a) (n := 0) (by omega)
    have hl : lipT a ≤ 1 := by
      cases a with
      | rod s => exact Nat.le_refl _
      | mul a m => have : max (depT a + 1) (depT b) + 1 ≤ 1 := d; omega
      | neg a => have : max (depT a + 1) (depT b) + 1 ≤ 1 := d; omega
      | add a c => have : max (max (depT a) (depT c) + 1) (depT b) + 1 ≤ 1 := d; omega
      | sub a c => have : max (max (depT a) (depT c) + 1) (depT b) + 1 ≤ 1 := d; omega
      | chn a c => have : max (max (depT a) (depT c) + 1) (depT b) + 1 ≤ 1 := d; omega
    show cntT a + (if lipT a ≤ 1 then 1 else 2) * cntT b ≤ 2
    rw [if_pos hl]
    have e : ccapT 0 = 1 := rfl
    omega
  | .chn a b, n + 2, d => by
    have d' : max (depT a) (depT b) + 1 ≤ n + 2 := d
    have h1 := cnt_cap (t := a) (n := n + 1) (by omega)
    have h2 := cnt_cap (t := b) (n := n + 1) (by omega)
    show cntT a + (if lipT a ≤ 1 then 1 else 2) * cntT b ≤ 3 * ccapT (n + 1)
    split <;> omega
/-- the law's own trees -/
def lawT (n : Nat) (t : Tr) : Prop := goodT t ∧ limT t ∧ depT t ≤ n
theorem lawT.ok {n : Nat} {t : Tr} (h : lawT n t) (hn : n ≤ 3) : okT t := by
  obtain ⟨g, l, d⟩ := h
  have d3 : depT t ≤ 3 := Nat.le_trans d hn
  have h1 := rng_cap l d3
  have h2 := tot_cap l d3
  have h3 := cnt_cap d3
  have h4 := lip_rng t
  have e1 : capT 3 = 256 := by decide
  have e2 : tcapT 3 = 48 := by decide
  have e3 : ccapT 3 = 18 := by decide
  exact ⟨g, by omega, by omega, by omega⟩
end Pf

namespace Pf
open PySem L2 Z PyProof.Rows
/-! ### rows step by step -/
theorem unitP_snoc : ∀ (xs : List Int) (u x : Int), unitP u (xs ++ [x]) = unitP u xs ++ stepsI (xs.getLastD u) x
  | [], u, x => by
    show stepsI u x ++ [] = [] ++ stepsI u x
    rw [List.append_nil]; rfl
  | y :: xs, u, x => by
    show stepsI u y ++ unitP y (xs ++ [x]) = (stepsI u y ++ unitP y xs) ++ stepsI ((y :: xs).getLastD u) x
    rw [unitP_snoc xs y x, List.append_assoc]
    congr 2
    cases xs <;> rfl
def farW (g : List Int → Int) : Nat → List Int → Int
  | 0, _ => 0
  | k + 1, xs => farW g k xs + ((g (xs.take (k + 1)) - g (xs.take k)).natAbs : Int)
theorem farW_pre (g : List Int → Int) (ys : List Int) : ∀ {k : Nat} {xs : List Int}, k ≤ xs.length → farW g k (xs ++ ys) = farW g k xs
  | 0, _, _ => rfl
  | k + 1, xs, h => by
    show farW g k (xs ++ ys) + _ = farW g k xs + _
    rw [farW_pre g ys (by omega), List.take_append_of_le_length h, List.take_append_of_le_length (by omega)]
/-- how far the end goes altogether -/
abbrev farP (g : List Int → Int) (xs : List Int) : Int := farW g xs.length xs
theorem farP_snoc (g : List Int → Int) (xs : List Int) (x : Int) : farP g (xs ++ [x]) = farP g xs + ((g (xs ++ [x]) - g xs).natAbs : Int) := by
  show farW g (xs ++ [x]).length _ = _
  rw [List.length_append, List.length_singleton]
  show farW g xs.length (xs ++ [x]) + ((g ((xs ++ [x]).take (xs.length + 1)) - g ((xs ++ [x]).take xs.length)).natAbs : Int) = _
  rw [farW_pre g [x] (Nat.le_refl _), List.take_append_of_le_length (Nat.le_refl _), List.take_length]
  rw [show xs.length + 1 = (xs ++ [x]).length by rw [List.length_append]; rfl, List.take_length]
/-- the ends of a tree on a row -/
def pathT (t : Tr) (row : List Int) : List Int := (List.range row.length).map fun k => endT t (row.take (k + 1))
def travT (t : Tr) (row : List Int) : Int := farP (endT t) (unitP 0 row)
theorem pathT_take {t : Tr} {row : List Int} {i : Nat} {x : Int} (h : row[i]? = some x) : pathT t (row.take (i + 1)) = pathT t (row.take i) ++ [endT t (row.take (i + 1))] := by
  have hi := (List.getElem?_eq_some_iff.mp h).1
  unfold pathT
  rw [List.length_take, List.length_take, show min (i + 1) row.length = min i row.length + 1 by omega, List.range_succ, List.map_append]
  congr 1
  · apply List.map_congr_left
    intro k hk
    rw [List.mem_range] at hk
    rw [List.take_take, List.take_take]
    congr 2
    omega
  · show [endT t ((row.take (i + 1)).take (min i row.length + 1))] = [_]
    rw [List.take_take]
    congr 3
    omega
theorem getLastD_in {B : Nat} {xs : List Int} (h : inB B xs) : (xs.getLastD 0).natAbs ≤ B := by
  cases e : xs.getLast? with
  | none =>
    rw [List.getLast?_eq_none_iff] at e
    subst e; exact Nat.zero_le _
  | some x =>
    have : xs.getLastD 0 = x := by rw [List.getLastD_eq_getLast?, e]; rfl
    rw [this]; exact h x (List.mem_of_getLast? e)
theorem unit_in {B : Nat} : ∀ {xs : List Int} {u : Int}, u.natAbs ≤ B → inB B xs → inB B (unitP u xs)
  | [], u, _, _ => fun x hx => by cases hx
  | y :: xs, u, hu, h => inB_app (steps_in hu (h y List.mem_cons_self)) (unit_in (h y List.mem_cons_self) fun z hz => h z (List.mem_cons_of_mem _ hz))
/-- going up from rest, the end is where the curve says -/
theorem end_up {t : Tr} (g : goodT t) (n : Nat) : endT t ((List.range n).map fun (k : Nat) => 1 + (k : Int)) = valT t n := by
  rw [endT_FA g, ← armT_hgt g]
  unfold FA hgtA
  congr 1
  apply List.map_congr_left
  intro a ha
  have s0 := armT_pos t a.1 (List.mem_map.mpr ⟨a, ha, rfl⟩)
  have z := rod_run_up s0 (e := 0) (u := 0) (Int.le_refl 0) (by omega) n
  have e : ((List.range n).map fun (k : Nat) => (1 : Int) + (k : Int)) = (List.range n).map fun (k : Nat) => 0 + 1 + (k : Int) := rfl
  rw [e, z]
  congr 1
  unfold rodSt
  omega
/-- the curve of a tree -/
theorem path_up {t : Tr} (g : goodT t) (n : Nat) : pathT t ((List.range n).map fun (k : Nat) => 1 + (k : Int)) = (List.range n).map fun k => valT t (k + 1) := by
  unfold pathT
  rw [List.length_map, List.length_range]
  apply List.map_congr_left
  intro k hk
  rw [List.mem_range] at hk
  rw [← List.map_take, List.take_range, show min (k + 1) n = k + 1 by omega]
  exact end_up g (k + 1)
end Pf

namespace Pf
open PySem L2 Z PyProof.Rows
/-! ### trees put together within the limits -/
structure bT (t : Tr) (c : Nat) (T : Int) (l : Nat) : Prop where
  g : goodT t
  hc : cntT t ≤ c
  ht : totT t ≤ T
  hl : lipT t ≤ l
section
variable {a b : Tr} {c c' l l' : Nat} {T T' : Int}
theorem bT.ok (h : bT a c T l) (h1 : c ≤ 60) (h2 : T ≤ 900) (h3 : l ≤ 400000) : okT a := ⟨h.g, Nat.le_trans h.hc h1, Int.le_trans h.ht h2, Nat.le_trans h.hl h3⟩
theorem bT.rod {s : Int} (h : 0 ≤ s) (h' : s ≤ T) : bT (.rod s) 1 T 1 := ⟨h, Nat.le_refl _, h', Nat.le_refl _⟩
theorem bT.add (h : bT a c T l) (h' : bT b c' T' l') : bT (.add a b) (c + c') (T + T') (l + l') := ⟨⟨h.g, h'.g⟩, Nat.add_le_add h.hc h'.hc, Int.add_le_add h.ht h'.ht, Nat.add_le_add h.hl h'.hl⟩
theorem bT.sub (h : bT a c T l) (h' : bT b c' T' l') : bT (.sub a b) (c + c') (T + T') (l + l') := ⟨⟨h.g, h'.g⟩, Nat.add_le_add h.hc h'.hc, Int.add_le_add h.ht h'.ht, Nat.add_le_add h.hl h'.hl⟩
theorem bT.neg (h : bT a c T l) : bT (.neg a) c T l := ⟨h.g, h.hc, h.ht, h.hl⟩
theorem bT.mul {n : Int} (h : bT a c T l) (hn : n.natAbs ≤ l') : bT (.mul a n) c T (l * l') := ⟨h.g, h.hc, h.ht, Nat.mul_le_mul h.hl hn⟩
theorem bT.chn (u : upT a) (h : bT a c T l) (h' : bT b c' T' l') : bT (.chn a b) (c + 2 * c') (T + T') (l * l') :=
  ⟨⟨h.g, h'.g, u⟩, Nat.add_le_add h.hc (Nat.mul_le_mul (by split <;> omega) h'.hc), Int.add_le_add h.ht h'.ht, Nat.mul_le_mul h.hl h'.hl⟩
end
theorem up_rod (s : Int) : upT (.rod s) := fun h => by
  show max 0 ((h : Int) - s) ≤ max 0 (((h + 1 : Nat) : Int) - s)
  omega
theorem up_chn {a b : Tr} (g : goodT a) (u : upT a) (v : upT b) : upT (.chn a b) := fun h => by
  have p := up_pos (good_pos g) u h
  have q := u h
  show valT b (valT a h).toNat ≤ valT b (valT a (h + 1)).toNat
  exact up_le (a := b) (N := (valT a (h + 1)).toNat) (fun j _ => v j) (k := (valT a (h + 1)).toNat - (valT a h).toNat) (M := (valT a h).toNat) (by omega)
theorem lawT.b {n : Nat} {t : Tr} (h : lawT n t) : bT t (ccapT n) (tcapT n) (capT n) := ⟨h.1, cnt_cap h.2.2, tot_cap h.2.1 h.2.2, Nat.le_trans (lip_rng t) (rng_cap h.2.1 h.2.2)⟩
theorem pull_lip {t : Tr} (g : goodT t) : (pullT t).natAbs ≤ lipT t := by
  have tp := tot_pos (good_pos g)
  have h1 := lin_tot g (totT t).toNat (by omega)
  have h2 := lip_val g (totT t).toNat
  rw [h1] at h2
  exact h2
theorem eqT {a b : Tr} {c c' l l' : Nat} {T T' : Int} (h : bT a c T l) (h' : bT b c' T' l') (hv : ∀ n, valT a n = valT b n) : armT a = armT b := armT_ext h.g h'.g hv
end Pf

namespace Pf
open PySem L2 Z PyProof.Rows
/-! ### trees whose rigs can be made -/
def okS : Tr → Prop
  | .rod s => 0 ≤ s ∧ s ≤ 99
  | .mul a n => okS a ∧ (-99 ≤ n ∧ n ≤ 99) ∧ okT (.mul a n)
  | .neg a => okS a
  | .add a b => okS a ∧ okS b ∧ okT (.add a b)
  | .sub a b => okS a ∧ okS b ∧ okT (.sub a b)
  | .chn a b => okS a ∧ okS b ∧ upT a ∧ okT (.chn a b)
theorem okS.ok : ∀ {t : Tr}, okS t → okT t
  | .rod s, h => ⟨h.1, by show 1 ≤ 60; decide, Int.le_trans h.2 (by decide), by show 1 ≤ 400000; decide⟩
  | .mul a n, h => h.2.2
  | .neg a, h => okS.ok (t := a) h
  | .add a b, h => h.2.2
  | .sub a b, h => h.2.2
  | .chn a b, h => h.2.2.2
theorem lawT.okS {n : Nat} (h3 : n ≤ 3) : ∀ {t : Tr}, lawT n t → okS t
  | .rod s, h => ⟨h.1, by have : 0 ≤ s ∧ s ≤ 6 := h.2.1; omega⟩
  | .mul a m, h => ⟨lawT.okS h3 (t := a) ⟨h.1, h.2.1.1, by have : depT a + 1 ≤ n := h.2.2; omega⟩, by have : -3 ≤ m ∧ m ≤ 3 := h.2.1.2; omega, h.ok h3⟩
  | .neg a, h => lawT.okS h3 (t := a) ⟨h.1, h.2.1, by have : depT a + 1 ≤ n := h.2.2; omega⟩
  | .add a b, h => ⟨lawT.okS h3 (t := a) ⟨h.1.1, h.2.1.1, by have : max (depT a) (depT b) + 1 ≤ n := h.2.2; omega⟩, lawT.okS h3 (t := b) ⟨h.1.2, h.2.1.2, by have : max (depT a) (depT b) + 1 ≤ n := h.2.2; omega⟩, h.ok h3⟩
  | .sub a b, h => ⟨lawT.okS h3 (t := a) ⟨h.1.1, h.2.1.1, by have : max (depT a) (depT b) + 1 ≤ n := h.2.2; omega⟩, lawT.okS h3 (t := b) ⟨h.1.2, h.2.1.2, by have : max (depT a) (depT b) + 1 ≤ n := h.2.2; omega⟩, h.ok h3⟩
  | .chn a b, h => ⟨lawT.okS h3 (t := a) ⟨h.1.1, h.2.1.1, by have : max (depT a) (depT b) + 1 ≤ n := h.2.2; omega⟩, lawT.okS h3 (t := b) ⟨h.1.2.1, h.2.1.2, by have : max (depT a) (depT b) + 1 ≤ n := h.2.2; omega⟩, h.1.2.2, h.ok h3⟩
/-! ### curves that are equal from the beginning are equal -/
theorem eq_fin {a b : Tr} (ga : goodT a) (gb : goodT b) {N : Nat} (hN : totT a ≤ N) (hN' : totT b ≤ N) (h : ∀ n, n ≤ N + 1 → valT a n = valT b n) (n : Nat) : valT a n = valT b n := by
  by_cases c : n ≤ N + 1
  · exact h n c
  · obtain ⟨m, rfl⟩ : ∃ m, n = N + m := ⟨n - N, by omega⟩
    have e1 := lin_run ga hN m
    have e2 := lin_run gb hN' m
    have p1 := lin_tot ga N hN
    have p2 := lin_tot gb N hN'
    have q1 := h N (by omega)
    have q2 := h (N + 1) (by omega)
    rw [e1, e2, q1]
    rw [q1, q2] at p1
    rw [← p1, p2]
theorem armT_iff {a b : Tr} (ga : goodT a) (gb : goodT b) {M : Nat} (hM : totT a + totT b + 3 ≤ M) : armT a = armT b ↔ (List.range (M + 1)).map (valT a) = (List.range (M + 1)).map (valT b) := by
  have pa := tot_pos (good_pos ga)
  have pb := tot_pos (good_pos gb)
  constructor
  · intro h
    refine List.map_congr_left fun n _ => ?_
    rw [← armT_fA ga, ← armT_fA gb, h]
  · intro h
    refine armT_ext ga gb (eq_fin ga gb (N := M - 1) (by omega) (by omega) fun n hn => ?_)
    have hh := congrArg (fun l => l[n]?) h
    simp only [List.getElem?_map] at hh
    rw [List.getElem?_range (by omega)] at hh
    exact Option.some.inj hh
theorem path_alike {a b : Tr} (ga : goodT a) (gb : goodT b) (h : armT a = armT b) (row : List Int) : pathT a row = pathT b row := by
  unfold pathT
  refine List.map_congr_left fun k _ => ?_
  rw [endT_FA ga, endT_FA gb, h]
theorem path_len {t : Tr} {row : List Int} : (pathT t row).length = row.length := by
  unfold pathT
  rw [List.length_map, List.length_range]
theorem armsEs_path {t : Tr} (g : goodT t) (row : List Int) : armsEs row (zEs row) (armT t) = pathT t row := armsEs_tree g row
theorem two_ways {α β : Type} {A B : Prop} {R : α → β → Prop} {p : β → Prop} (rest : ∀ a b, p b → R a b) (h : (∀ a b, p b → R a b) → A ∧ B) : A ∧ B := h rest
theorem ints_eq {xs ys : List Int} : xs.map W.int = ys.map W.int ↔ xs = ys := by
  constructor
  · intro h
    have := congrArg (List.map fun w : W => match w with | .int i => i | _ => 0) h
    rw [List.map_map, List.map_map] at this
    have e : ((fun w : W => match w with | .int i => i | _ => 0) ∘ W.int) = (id : Int → Int) := rfl
    rw [e, List.map_id, List.map_id] at this
    exact this
  · intro h; rw [h]
theorem memF_mem (row : List Int) : memF (memF row) = memF row := by
  have h := memF_row row
  obtain ⟨F, r, e, hF⟩ := memF_head row
  rw [e] at h ⊢
  by_cases c : F = 0
  · subst c
    rw [rowM_0] at h
    rw [← h]
    show (0 :: memF r).foldl aft [0] = memF r
    rw [h]
    exact h
  · rw [rowM_ne c] at h; exact h
theorem endT_memF {t : Tr} (g : goodT t) (row : List Int) : endT t (memF row) = endT t row := by
  rw [endT_mem g, endT_mem g row, memF_mem]
theorem memF_last {row : List Int} {i : Nat} {x : Int} (h : row[i]? = some x) : (memF (row.take (i + 1))).getLastD 0 = x := by
  rw [List.take_add_one, h]
  show (memF (row.take i ++ [x])).getLastD 0 = x
  rw [memF_snoc, aft_last]
theorem arcA_flt (e : Nat → Int) : ∀ n, arcA e n = ((List.range n).filter fun k => !decide (e (k + 1) - e k - pullE e k = 0)).map fun (k : Nat) => ((k : Int), e (k + 1) - e k - pullE e k)
  | 0 => rfl
  | n + 1 => by
    rw [List.range_succ, List.filter_append, List.map_append, ← arcA_flt e n]
    show (if _ then _ else _) = _
    by_cases h : e (n + 1) - e n = pullE e n
    · rw [if_pos h]
      have : decide (e (n + 1) - e n - pullE e n = 0) = true := decide_eq_true (by omega)
      rw [List.filter_cons, this]
      simp
    · rw [if_neg h]
      have : decide (e (n + 1) - e n - pullE e n = 0) = false := decide_eq_false (by omega)
      rw [List.filter_cons, this]
      simp
theorem armT_far {t : Tr} (g : goodT t) : ∀ m, arcA (valT t) (topT t + m) = armT t
  | 0 => rfl
  | m + 1 => by
    rw [← armT_far g m]
    have tp := tot_pos (good_pos g)
    have l1 := lin_tot g (topT t + m) (by unfold topT; omega)
    have l2 := lin_tot g (topT t + m - 1) (by unfold topT; omega)
    have e : topT t + m - 1 + 1 = topT t + m := by unfold topT; omega
    have p : pullE (valT t) (topT t + m) = pullT t := by
      unfold pullE
      rw [if_neg (by unfold topT; omega)]
      rw [e] at l2
      exact l2
    show (if valT t (topT t + m + 1) - valT t (topT t + m) = pullE (valT t) (topT t + m) then _ else _) = _
    rw [p, l1, if_pos rfl]
    rfl
theorem pull_list (e : Nat → Int) (N : Nat) : 0 :: (List.range N).map (fun k => e (k + 1) - e k) = (List.range (N + 1)).map (pullE e) := by
  rw [List.range_succ_eq_map, List.map_cons, List.map_map]
  congr 1
theorem bT.wk {a : Tr} {c c' l l' : Nat} {T T' : Int} (h : bT a c T l) (h1 : c ≤ c') (h2 : T ≤ T') (h3 : l ≤ l') : bT a c' T' l' := ⟨h.g, Nat.le_trans h.hc h1, Int.le_trans h.ht h2, Nat.le_trans h.hl h3⟩
/-! ### geared handles -/
abbrev gearT (m : Int) : Tr := .mul (.rod 0) m
theorem rod0_last (xs : List Int) : rodE 0 0 xs = xs.getLastD 0 := by
  have h := rodE_lim (Int.le_refl 0) xs
  omega
theorem gear_val (m : Int) (n : Nat) : valT (gearT m) n = (n : Int) * m := by
  show max 0 ((n : Int) - 0) * m = _
  rw [show max 0 ((n : Int) - 0) = (n : Int) by omega]
theorem up_gear {m : Int} (h : 0 ≤ m) : upT (gearT m) := fun n => by
  rw [gear_val, gear_val]
  exact Int.mul_le_mul_of_nonneg_right (by omega) h
theorem pre_gear (m : Int) (xs : List Int) : preM (endT (gearT m)) xs = xs.map (· * m) := by
  unfold preM
  apply List.ext_getElem?
  intro i
  rw [List.getElem?_map, List.getElem?_map]
  by_cases h : i < xs.length
  · obtain ⟨x, hx⟩ : ∃ x, xs[i]? = some x := ⟨_, List.getElem?_eq_getElem h⟩
    rw [List.getElem?_range h, hx]
    show some (rodE 0 0 (xs.take (i + 1)) * m) = some (x * m)
    rw [rod0_last, List.take_add_one, hx, List.getLastD_eq_getLast?]
    simp
  · rw [List.getElem?_eq_none (by rw [List.length_range]; omega), List.getElem?_eq_none (by omega)]; rfl
theorem end_gear {m : Int} {t : Tr} (g : goodT t) (xs : List Int) : endT (.chn (gearT m) t) xs = endT t (xs.map (· * m)) := by
  show endT t (midP (endT (gearT m)) xs) = _
  rw [endT_FA g, FA_mid (end_nil (t := gearT m) (Int.le_refl 0)) xs (armT_pos t), pre_gear, ← endT_FA g]
theorem path_gear {m : Int} {t : Tr} (g : goodT t) (row : List Int) : pathT (.chn (gearT m) t) row = pathT t (row.map (· * m)) := by
  unfold pathT
  rw [List.length_map]
  refine List.map_congr_left fun k _ => ?_
  rw [end_gear g, List.map_take]
/-! ### how long ends stay -/
abbrev stillA (al : List (Int × Int)) : W := match al with | [] => .non | x :: _ => .int x.1
theorem slope_low {al : List (Int × Int)} {n : Nat} (h : ∀ p ∈ al, (n : Int) ≤ p.1) : hgtA al (n : Int) = 0 := by
  unfold hgtA
  have : al.map (fun a => a.2 * max 0 ((n : Int) - a.1)) = al.map fun _ => 0 := List.map_congr_left fun a ha => by
    have := h a ha
    rw [show max 0 ((n : Int) - a.1) = 0 by omega, Int.mul_zero]
  rw [this]
  induction al with
  | nil => rfl
  | cons a al ih =>
    rw [List.map_cons, List.sum_cons, Int.zero_add]
    exact ih (fun p hp => h p (List.mem_cons_of_mem _ hp)) (List.map_congr_left fun a ha => by
      have := h a (List.mem_cons_of_mem _ ha)
      rw [show max 0 ((n : Int) - a.1) = 0 by omega, Int.mul_zero])
theorem val_low {t : Tr} (g : goodT t) {n : Nat} (h : ∀ p ∈ armT t, (n : Int) ≤ p.1) : valT t n = 0 := by
  rw [← armT_hgt g]; exact slope_low h
theorem still_nil {t : Tr} (g : goodT t) (h : armT t = []) (n : Nat) : valT t n = 0 := val_low g fun p hp => by rw [h] at hp; cases hp
theorem arm_first {t : Tr} {p : Int × Int} {r : List (Int × Int)} (h : armT t = p :: r) : (∀ q ∈ armT t, p.1 ≤ q.1) ∧ (∀ q ∈ r, p.1 + 1 ≤ q.1) ∧ p.2 ≠ 0 ∧ 0 ≤ p.1 := by
  have N := armT_nrm t
  have P := armT_pos t
  rw [h] at N P ⊢
  have pw := List.pairwise_cons.mp N.1
  refine ⟨fun q hq => ?_, fun q hq => ?_, N.2 p List.mem_cons_self, P p.1 (by simp)⟩
  · rcases List.mem_cons.mp hq with rfl | hq
    · exact Int.le_refl _
    · exact Int.le_of_lt (pw.1 q.1 (List.mem_map.mpr ⟨q, hq, rfl⟩))
  · have : p.1 < q.1 := pw.1 q.1 (List.mem_map.mpr ⟨q, hq, rfl⟩)
    omega
theorem still_low {t : Tr} {p : Int × Int} {r : List (Int × Int)} (g : goodT t) (h : armT t = p :: r) {n : Nat} (hn : (n : Int) ≤ p.1) : valT t n = 0 := val_low g fun q hq => Int.le_trans hn ((arm_first h).1 q hq)
theorem still_next {t : Tr} {p : Int × Int} {r : List (Int × Int)} (g : goodT t) (h : armT t = p :: r) : valT t (p.1.toNat + 1) ≠ 0 := by
  obtain ⟨_, h2, h3, h4⟩ := arm_first h
  rw [← armT_hgt g, h]
  have e : ((p.1.toNat + 1 : Nat) : Int) = p.1 + 1 := by omega
  have z : hgtA r ((p.1.toNat + 1 : Nat) : Int) = 0 := slope_low fun q hq => by have := h2 q hq; omega
  have s : hgtA (p :: r) ((p.1.toNat + 1 : Nat) : Int) = p.2 * max 0 (((p.1.toNat + 1 : Nat) : Int) - p.1) + hgtA r ((p.1.toNat + 1 : Nat) : Int) := by
    unfold hgtA
    rw [List.map_cons, List.sum_cons]
  rw [s, z, show max 0 (((p.1.toNat + 1 : Nat) : Int) - p.1) = 1 by omega]
  omega
theorem slow_val {t : Tr} {s : Int} (hs : 0 ≤ s) {n : Nat} (h : valT t n = 0) : valT (.chn t (.rod s)) n = 0 := by
  show max 0 (((valT t n).toNat : Int) - s) = 0
  rw [h]
  show max 0 (((0 : Nat) : Int) - s) = 0
  omega
theorem one_way {G R : Prop} (rest : R) (h : R → G) : G := h rest
theorem gear_rod {m s : Int} (hm : 0 ≤ m) (n : Nat) : valT (.chn (gearT m) (.rod (s * m))) n = valT (.mul (.rod s) m) n := by
  show max 0 (((valT (gearT m) n).toNat : Int) - s * m) = max 0 ((n : Int) - s) * m
  have hn : 0 ≤ (n : Int) * m := Int.mul_nonneg (by omega) hm
  rw [gear_val, Int.toNat_of_nonneg hn, ← Int.sub_mul]
  by_cases c : s ≤ n
  · have : 0 ≤ ((n : Int) - s) * m := Int.mul_nonneg (by omega) hm
    rw [show max 0 ((n : Int) - s) = (n : Int) - s by omega]
    omega
  · have : 0 ≤ (s - (n : Int)) * m := Int.mul_nonneg (by omega) hm
    have e : ((n : Int) - s) * m = -((s - (n : Int)) * m) := by rw [← Int.neg_mul]; congr 1; omega
    rw [show max 0 ((n : Int) - s) = 0 by omega, Int.zero_mul, e]
    omega
end Pf

namespace Pf
open PySem L2 Z PyProof.Rows
/-! ### forward rigs go with the handle -/
theorem ns_last : ∀ {r : List Int} {lo : Bool} {c a b : Int}, Ns lo c a (b :: r) → inS lo c a ((b :: r).getLastD 0) := by
  intro r
  induction r with
  | nil =>
    intro lo c a b h
    cases h with
    | cons hb _ => exact hb
  | cons d r ih =>
    intro lo c a b h
    cases h with
    | cons hb h =>
      have i := ih h
      have e : (b :: d :: r).getLastD 0 = (d :: r).getLastD 0 := rfl
      rw [e]
      cases lo <;> simp [inS] at * <;> omega
theorem phi_mono {f : Nat → Int} (f0 : f 0 = 0) (fm : ∀ h, f h ≤ f (h + 1)) {x : Int} : ∀ {r : List Int} {lo : Bool} {c a : Int}, Ns lo c a r → inS lo c a x →
    ((a :: r).getLastD 0 ≤ x → Phi f lo (a :: r) ≤ Phi f lo (upS lo (a :: r) x)) ∧ (x ≤ (a :: r).getLastD 0 → Phi f lo (upS lo (a :: r) x) ≤ Phi f lo (a :: r)) := by
  intro r
  induction r with
  | nil =>
    intro lo c a _ hx
    have n1 : ¬ leB lo x a := by cases lo <;> simp [leB, inS] at * <;> omega
    have e : upS lo [a] x = [a, x] := by
      show (if leB lo x a then [x] else a :: [x]) = _
      rw [if_neg n1]
    rw [e]
    have p := f_le fm (Nat.zero_le (x - a).natAbs)
    have z : Phi f lo [a] = 0 := by cases lo <;> rfl
    have u : Phi f lo [a, x] = (if lo = true then f (x - a).natAbs else - f (x - a).natAbs) + 0 := by cases lo <;> rfl
    have la : [a].getLastD 0 = a := rfl
    rw [z, u, la]
    cases lo <;> simp [inS] at * <;> omega
  | cons b r ih =>
    intro lo c a h hx
    have hl := ns_last h
    have n1 : ¬ leB lo x a := by cases lo <;> simp [leB, inS] at * <;> omega
    cases h with
    | cons hb h =>
      have e0 : upS lo (a :: b :: r) x = a :: upS (!lo) (b :: r) x := by
        show (if leB lo x a then [x] else _) = _
        rw [if_neg n1]
      have u : ∀ r', Phi f lo (a :: b :: r') = (if lo = true then f (b - a).natAbs else - f (b - a).natAbs) + Phi f (!lo) (b :: r') := fun r' => rfl
      have el : (a :: b :: r).getLastD 0 = (b :: r).getLastD 0 := rfl
      rw [el]
      by_cases c2 : leB (!lo) x b
      · have e1 : upS (!lo) (b :: r) x = [x] := by
          show (if leB (!lo) x b then [x] else _) = _
          rw [if_pos c2]
        rw [e0, e1, u]
        have v : Phi f lo [a, x] = (if lo = true then f (x - a).natAbs else - f (x - a).natAbs) + 0 := by cases lo <;> rfl
        rw [v]
        have le : f (b - a).natAbs ≤ f (x - a).natAbs := f_le fm (by cases lo <;> simp [leB] at * <;> omega)
        have pi := Phi_in f0 fm h
        refine ⟨fun q => ?_, fun q => ?_⟩
        · cases lo
          · -- down from a: x ≤ b, last ≤ x
            have hr : r = [] := by
              cases r with
              | nil => rfl
              | cons d r =>
                have := ns_last h
                have e : (b :: d :: r).getLastD 0 = (d :: r).getLastD 0 := rfl
                rw [e] at q
                simp [leB, inS] at *
                omega
            subst hr
            have : x = b := by
              have e : [b].getLastD 0 = b := rfl
              rw [e] at q
              simp [leB] at c2
              omega
            subst this
            have z : Phi f (!false) [x] = 0 := rfl
            rw [z]
            exact Int.le_refl _
          · simp at pi ⊢
            omega
        · cases lo
          · simp at pi ⊢
            omega
          · have hr : r = [] := by
              cases r with
              | nil => rfl
              | cons d r =>
                have := ns_last h
                have e : (b :: d :: r).getLastD 0 = (d :: r).getLastD 0 := rfl
                rw [e] at q
                simp [leB, inS] at *
                omega
            subst hr
            have : x = b := by
              have e : [b].getLastD 0 = b := rfl
              rw [e] at q
              simp [leB] at c2
              omega
            subst this
            have z : Phi f (!true) [x] = 0 := rfl
            rw [z]
            exact Int.le_refl _
      · have hi : inS (!lo) a b x := by cases lo <;> simp [leB, inS] at * <;> omega
        have i := ih h hi
        obtain ⟨r', e, n⟩ := h.up hi
        rw [e0, e, u, u]
        rw [e] at i
        exact ⟨fun q => Int.add_le_add_left (i.1 q) _, fun q => Int.add_le_add_left (i.2 q) _⟩
theorem zm_mono {f : Nat → Int} {p : Int} (f0 : f 0 = 0) (fm : ∀ h, f h ≤ f (h + 1)) (p0 : 0 ≤ p) {ms : List Int} (h : Nst ms) (x : Int) :
    (ms.getLastD 0 ≤ x → ZM f p ms ≤ ZM f p (aft ms x)) ∧ (x ≤ ms.getLastD 0 → ZM f p (aft ms x) ≤ ZM f p ms) := by
  obtain ⟨a, r, c, rfl, hc, h⟩ := h
  rw [aft_up h]
  by_cases hx : x ≤ a
  · have e : upS true (a :: r) x = [x] := by
      show (if leB true x a then [x] else _) = _
      rw [if_pos (by simp [leB]; exact hx)]
    rw [e]
    have pi := Phi_in f0 fm h
    simp at pi
    have z : ZM f p [x] = p * x := by show p * x + 0 = _; omega
    have z2 : ZM f p (a :: r) = p * a + Phi f true (a :: r) := rfl
    rw [z, z2]
    have le : p * x ≤ p * a := Int.mul_le_mul_of_nonneg_left hx p0
    refine ⟨fun q => ?_, fun q => by omega⟩
    cases r with
    | nil =>
      have : x = a := by have e : [a].getLastD 0 = a := rfl; rw [e] at q; omega
      subst this
      have z : Phi f true [x] = 0 := rfl
      rw [z]; omega
    | cons b r =>
      have l : a < (b :: r).getLastD 0 ∧ (b :: r).getLastD 0 < c := ns_last h
      have e : (a :: b :: r).getLastD 0 = (b :: r).getLastD 0 := rfl
      rw [e] at q
      omega
  · have hw := h.wide (c' := max c (x + 1)) (by omega)
    have hi : inS true (max c (x + 1)) a x := by show a < x ∧ x < max c (x + 1); omega
    have m := phi_mono f0 fm hw hi
    obtain ⟨r', e, n⟩ := hw.up hi
    rw [e] at m ⊢
    have z : ∀ r, ZM f p (a :: r) = p * a + Phi f true (a :: r) := fun r => rfl
    rw [z, z]
    exact ⟨fun q => Int.add_le_add_left (m.1 q) _, fun q => Int.add_le_add_left (m.2 q) _⟩
theorem pull_pos {t : Tr} (g : goodT t) (u : upT t) : 0 ≤ pullT t := by
  have h := lin_tot g (totT t).toNat (by omega)
  have := u (totT t).toNat
  omega
theorem memF_getLast (xs : List Int) : (memF xs).getLastD 0 = xs.getLastD 0 := by
  by_cases h : xs = []
  · subst h; rfl
  · rw [← List.dropLast_concat_getLast h, memF_snoc, aft_last, List.getLastD_eq_getLast?]
    simp
theorem end_with {t : Tr} (g : goodT t) (u : upT t) (xs : List Int) (x : Int) : (xs.getLastD 0 ≤ x → endT t xs ≤ endT t (xs ++ [x])) ∧ (x ≤ xs.getLastD 0 → endT t (xs ++ [x]) ≤ endT t xs) := by
  rw [endT_mem g, endT_mem g, memF_snoc, ← memF_getLast xs]
  exact zm_mono (valT_0 (good_pos g)) u (pull_pos g u) (memF_nst _ xs rfl) x
theorem end_goes {t : Tr} (g : goodT t) (u : upT t) (xs : List Int) (x : Int) : 0 ≤ (endT t (xs ++ [x]) - endT t xs) * (x - xs.getLastD 0) := by
  have h := end_with g u xs x
  by_cases c : xs.getLastD 0 ≤ x
  · exact Int.mul_nonneg (by have := h.1 c; omega) (by omega)
  · have h2 := h.2 (by omega)
    have : 0 ≤ (endT t xs - endT t (xs ++ [x])) * (xs.getLastD 0 - x) := Int.mul_nonneg (by omega) (by omega)
    have e : (endT t (xs ++ [x]) - endT t xs) * (x - xs.getLastD 0) = (endT t xs - endT t (xs ++ [x])) * (xs.getLastD 0 - x) := by
      rw [← Int.neg_sub (endT t xs), ← Int.neg_sub (xs.getLastD 0), Int.neg_mul_neg]
    rw [e]; exact this
/-! ### curves that rise -/
theorem rise_iff {t : Tr} (g : goodT t) {N : Nat} (hN : totT t < N) : (List.range N).filter (fun i => decide (valT t (i + 1) < valT t i)) = [] ↔ upT t := by
  have tp := tot_pos (good_pos g)
  constructor
  · intro h j
    have up : ∀ i, i < N → valT t i ≤ valT t (i + 1) := fun i hi => Int.not_lt.mp fun c => by
      have : i ∈ (List.range N).filter (fun i => decide (valT t (i + 1) < valT t i)) := List.mem_filter.mpr ⟨List.mem_range.mpr hi, decide_eq_true c⟩
      rw [h] at this
      cases this
    by_cases c : j < N
    · exact up j c
    · have h1 := lin_tot g (totT t).toNat (by omega)
      have h2 := lin_tot g j (by omega)
      have h3 := up (totT t).toNat (by omega)
      omega
  · intro u
    apply List.filter_eq_nil_iff.mpr
    intro i _ c
    have := of_decide_eq_true c
    have h' : valT t i ≤ valT t (i + 1) := u i
    omega
theorem fall_iff {t : Tr} (g : goodT t) {N : Nat} (hN : totT t < N) : (List.range N).filter (fun i => decide (valT t i < valT t (i + 1))) = [] ↔ upT (.neg t) := by
  rw [← rise_iff (t := .neg t) g hN]
  have : (fun i => decide (valT (.neg t) (i + 1) < valT (.neg t) i)) = fun i => decide (valT t i < valT t (i + 1)) := by
    funext i
    show decide (0 - valT t (i + 1) < 0 - valT t i) = _
    exact decide_eq_decide.mpr (by omega)
  rw [this]
theorem up_two {t : Tr} : upT (.mul t 2) ↔ upT t := by
  constructor
  · intro h n
    have : valT t n * 2 ≤ valT t (n + 1) * 2 := h n
    omega
  · intro h n
    have := h n
    show valT t n * 2 ≤ valT t (n + 1) * 2
    omega
theorem up_add {a b : Tr} (u : upT a) (v : upT b) : upT (.add a b) := fun n => by
  have := u n
  have := v n
  show valT a n + valT b n ≤ valT a (n + 1) + valT b (n + 1)
  omega
theorem steps_len (u v : Int) : (stepsI u v).length = (v - u).natAbs := by
  unfold stepsI
  split
  · rw [List.length_map, List.length_range]; omega
  · rw [List.length_map, List.length_range]; omega
theorem unit_len {B : Nat} : ∀ {xs : List Int} {u : Int}, u.natAbs ≤ B → inB B xs → (unitP u xs).length ≤ xs.length * (2 * B)
  | [], u, _, _ => Nat.zero_le _
  | x :: xs, u, hu, h => by
    have hx := h x List.mem_cons_self
    have i := unit_len (u := x) hx fun y hy => h y (List.mem_cons_of_mem _ hy)
    show (stepsI u x ++ unitP x xs).length ≤ (xs.length + 1) * (2 * B)
    rw [List.length_append, steps_len, Nat.add_mul, Nat.one_mul]
    omega
/-! the ends and the places step by step, rest ahead of them -/
theorem ends_list {t : Tr} (g : goodT t) (U : List Int) : 0 :: pathT t U = (List.range (U.length + 1)).map fun k => endT t (U.take k) := by
  rw [List.range_succ_eq_map, List.map_cons, List.map_map, List.take_zero, end_nil g]
  rfl
theorem last_list (U : List Int) : 0 :: U = (List.range (U.length + 1)).map fun k => (U.take k).getLastD 0 := by
  rw [List.range_succ_eq_map, List.map_cons, List.map_map]
  congr 1
  apply List.ext_getElem?
  intro i
  rw [List.getElem?_map]
  by_cases h : i < U.length
  · obtain ⟨x, hx⟩ : ∃ x, U[i]? = some x := ⟨_, List.getElem?_eq_getElem h⟩
    rw [List.getElem?_range h, hx]
    show some x = some ((U.take (i + 1)).getLastD 0)
    rw [List.take_add_one, hx, List.getLastD_eq_getLast?]
    simp
  · rw [List.getElem?_eq_none (by omega), List.getElem?_eq_none (by rw [List.length_range]; omega)]; rfl
theorem against_nil {t : Tr} (g : goodT t) (u : upT t) (U : List Int) : (List.range U.length).filter (fun k => decide ((endT t (U.take (k + 1)) - endT t (U.take k)) * ((U.take (k + 1)).getLastD 0 - (U.take k).getLastD 0) < 0)) = [] := by
  apply List.filter_eq_nil_iff.mpr
  intro i hi c
  have hi : i < U.length := List.mem_range.mp hi
  have := of_decide_eq_true c
  obtain ⟨x, hx⟩ : ∃ x, U[i]? = some x := ⟨_, List.getElem?_eq_getElem hi⟩
  have e : U.take (i + 1) = U.take i ++ [x] := by rw [List.take_add_one, hx]; rfl
  have l : (U.take i ++ [x]).getLastD 0 = x := by rw [List.getLastD_eq_getLast?]; simp
  rw [e, l] at this
  have := end_goes g u (U.take i) x
  omega
theorem bool_iff {a b : Bool} {p : Prop} (ha : a = true ↔ p) (hb : b = true ↔ p) : a = b := by
  have h := ha.trans hb.symm
  cases a <;> cases b <;> simp at h ⊢
end Pf

namespace Pf
open PySem L2 Z PyProof.Rows
/-! ### where two rigs are unlike -/
theorem cf_bend {t : Tr} (g : goodT t) (k : Nat) : cf (armT t) (k : Int) = bendT t k := by
  rw [← armT_far g (k + 1), arcA_cf, if_pos (by unfold topT; omega)]
  rfl
theorem bends_val {a b : Tr} (ga : goodT a) (gb : goodT b) {s : Nat} (h : ∀ k, k < s → bendT a k = bendT b k) : ∀ n, n ≤ s → valT a n = valT b n := by
  have key : ∀ n, n ≤ s → valT a n = valT b n ∧ pullE (valT a) n = pullE (valT b) n := by
    intro n
    induction n with
    | zero => intro _; exact ⟨by rw [valT_0 (good_pos ga), valT_0 (good_pos gb)], rfl⟩
    | succ n ih =>
      intro hn
      obtain ⟨i1, i2⟩ := ih (by omega)
      have e := h n (by omega)
      unfold bendT at e
      have v : valT a (n + 1) = valT b (n + 1) := by omega
      refine ⟨v, ?_⟩
      show (if n + 1 = 0 then 0 else valT a (n + 1) - valT a (n + 1 - 1)) = (if n + 1 = 0 then 0 else valT b (n + 1) - valT b (n + 1 - 1))
      rw [if_neg (by omega), if_neg (by omega), v, Nat.add_sub_cancel, i1]
  exact fun n hn => (key n hn).1
theorem bends_next {a b : Tr} (ga : goodT a) (gb : goodT b) {s : Nat} (h : ∀ k, k < s → bendT a k = bendT b k) (hs : bendT a s ≠ bendT b s) : valT a (s + 1) ≠ valT b (s + 1) := by
  intro v
  apply hs
  have e := bends_val ga gb h
  have e1 := e s (Nat.le_refl _)
  unfold bendT
  have p : pullE (valT a) s = pullE (valT b) s := by
    unfold pullE
    by_cases c : s = 0
    · rw [if_pos c, if_pos c]
    · rw [if_neg c, if_neg c, e1, e (s - 1) (by omega)]
  rw [v, e1, p]
/-- the end after one move from rest -/
abbrev oneT (t : Tr) (y : Int) : Int := endT t [y]
theorem one_mem (y : Int) : memF [y] = if y ≤ 0 then [y] else [0, y] := by
  show (if y ≤ 0 then [y] else [0].take (runL y [0] + 1) ++ [y]) = _
  by_cases h : y ≤ 0
  · rw [if_pos h, if_pos h]
  · rw [if_neg h, if_neg h]; rfl
theorem one_up {t : Tr} (g : goodT t) (n : Nat) : oneT t n = valT t n := by
  show endT t [(n : Int)] = _
  rw [endT_mem g, one_mem]
  by_cases h : (n : Int) ≤ 0
  · have : n = 0 := by omega
    subst this
    rw [if_pos h, valT_0 (good_pos g)]
    show pullT t * 0 + 0 = 0
    omega
  · rw [if_neg h]
    show pullT t * 0 + (valT t ((n : Int) - 0).natAbs + 0) = valT t n
    rw [Int.mul_zero, show ((n : Int) - 0).natAbs = n by omega]
    omega
theorem one_dn {t : Tr} (g : goodT t) {y : Int} (h : y ≤ 0) : oneT t y = pullT t * y := by
  show endT t [y] = _
  rw [endT_mem g, one_mem, if_pos h]
  show pullT t * y + 0 = _
  omega
/-- the nearest place where two rigs are unlike, none if there is none -/
def unl (a b : Tr) (o : Option Int) : Prop := (o = none ↔ armT a = armT b) ∧ ∀ x, o = some x → oneT a x ≠ oneT b x ∧ ∀ y, oneT a y ≠ oneT b y → x.natAbs < y.natAbs ∨ (x.natAbs = y.natAbs ∧ y ≤ x)
theorem unl_none {a b : Tr} (h : armT a = armT b) : unl a b none := ⟨⟨fun _ => h, fun _ => rfl⟩, fun x e => by cases e⟩
theorem arm_one {a b : Tr} (ga : goodT a) (gb : goodT b) (h : armT a = armT b) (y : Int) : oneT a y = oneT b y := by
  show endT a [y] = endT b [y]
  rw [endT_FA ga, endT_FA gb, h]
theorem unl_some {a b : Tr} (ga : goodT a) (gb : goodT b) {s : Nat} (hlt : ∀ k, k < s → bendT a k = bendT b k) (hs : bendT a s ≠ bendT b s) :
    (0 < s → pullT a ≠ pullT b → unl a b (some (-1))) ∧ ((0 < s → pullT a = pullT b) → unl a b (some ((s : Int) + 1))) := by
  have v := bends_val ga gb hlt
  have n := bends_next ga gb hlt hs
  have nn : oneT a ((s : Int) + 1) ≠ oneT b ((s : Int) + 1) := by
    have e : (s : Int) + 1 = ((s + 1 : Nat) : Int) := by omega
    rw [e, one_up ga, one_up gb]; exact n
  have ne : armT a ≠ armT b := fun h => nn (arm_one ga gb h _)
  have far : ∀ y : Int, oneT a y ≠ oneT b y → y < 0 ∨ (s : Int) + 1 ≤ y := fun y hy => by
    by_cases c : y < 0
    · exact .inl c
    · refine .inr (Int.not_lt.mp fun c2 => hy ?_)
      obtain ⟨m, rfl⟩ : ∃ m : Nat, y = m := ⟨y.toNat, by omega⟩
      rw [one_up ga, one_up gb]
      exact v m (by omega)
  refine ⟨fun s0 hp => ⟨⟨fun h => (by cases h), fun h => absurd h ne⟩, fun x e => ?_⟩, fun hp => ⟨⟨fun h => (by cases h), fun h => absurd h ne⟩, fun x e => ?_⟩⟩
  · cases e
    refine ⟨fun e => hp ?_, fun y hy => ?_⟩
    · rw [one_dn ga (by decide), one_dn gb (by decide)] at e; omega
    · rcases far y hy with c | c
      · by_cases c2 : y = -1
        · subst c2; exact .inr ⟨rfl, Int.le_refl _⟩
        · exact .inl (by omega)
      · exact .inl (by omega)
  · cases e
    refine ⟨nn, fun y hy => ?_⟩
    rcases far y hy with c | c
    · rcases Nat.eq_zero_or_pos s with z | z
      · subst z
        by_cases c2 : y = -1
        · subst c2; exact .inr ⟨rfl, by decide⟩
        · exact .inl (by omega)
      · exfalso
        apply hy
        rw [one_dn ga (by omega), one_dn gb (by omega), hp z]
    · by_cases c2 : y = (s : Int) + 1
      · subst c2; exact .inr ⟨rfl, Int.le_refl _⟩
      · exact .inl (by omega)
theorem cf_none {al : List (Int × Int)} {k : Int} (h : k ∉ al.map (·.1)) : cf al k = 0 := by
  unfold cf
  rw [getI_none.mpr h]; rfl
theorem unl_some_key {a b : Tr} (ga : goodT a) (gb : goodT b) (ne : armT a ≠ armT b) : ∃ p ∈ armT a ++ armT b, cf (armT a) p.1 ≠ cf (armT b) p.1 := by
  by_cases h : ∃ p ∈ armT a ++ armT b, cf (armT a) p.1 ≠ cf (armT b) p.1
  · exact h
  · exfalso
    apply ne
    have all : ∀ k : Int, cf (armT a) k = cf (armT b) k := fun k => by
      by_cases c1 : k ∈ (armT a).map (·.1)
      · obtain ⟨p, hp, rfl⟩ := List.mem_map.mp c1
        exact Classical.byContradiction fun c => h ⟨p, List.mem_append.mpr (.inl hp), c⟩
      · by_cases c2 : k ∈ (armT b).map (·.1)
        · obtain ⟨p, hp, rfl⟩ := List.mem_map.mp c2
          exact Classical.byContradiction fun c => h ⟨p, List.mem_append.mpr (.inr hp), c⟩
        · rw [cf_none c1, cf_none c2]
    refine armT_ext ga gb fun n => bends_val ga gb (s := n) (fun k _ => ?_) n (Nat.le_refl _)
    rw [← cf_bend ga, ← cf_bend gb]; exact all k
theorem unl_uniq {a b : Tr} {o o' : Option Int} (h : unl a b o) (h' : unl b a o') : o = o' := by
  cases o with
  | none =>
    have := h.1.mp rfl
    exact (h'.1.mpr this.symm).symm
  | some x =>
    cases o' with
    | none => have := h.1.mpr (h'.1.mp rfl).symm; cases this
    | some y =>
      obtain ⟨x1, x2⟩ := h.2 x rfl
      obtain ⟨y1, y2⟩ := h'.2 y rfl
      have p := x2 y fun e => y1 e.symm
      have q := y2 x fun e => x1 e.symm
      congr 1
      omega
theorem unl_far {a b : Tr} (ga : goodT a) (gb : goodT b) {N : Nat} (hN : totT a ≤ N) (hN' : totT b ≤ N) {x : Int} (h : unl a b (some x)) : x.natAbs ≤ N + 1 := by
  apply Classical.byContradiction
  intro c
  have : armT a = armT b := armT_ext ga gb (eq_fin ga gb hN hN' fun n hn => Classical.byContradiction fun e => by
    have := (h.2 x rfl).2 (n : Int) (by rw [one_up ga, one_up gb]; exact e)
    omega)
  have := h.1.mpr this
  cases this
theorem unl_ne {a b : Tr} (ga : goodT a) (gb : goodT b) {x : Int} (h : unl a b (some x)) : 0 < x.natAbs := by
  apply Classical.byContradiction
  intro c
  have : x = 0 := by omega
  subst this
  exact (h.2 0 rfl).1 (by rw [one_dn ga (Int.le_refl 0), one_dn gb (Int.le_refl 0), Int.mul_zero, Int.mul_zero])
theorem unl_near {a b : Tr} {x y : Int} (h : unl a b (some x)) (hy : y.natAbs < x.natAbs) : oneT a y = oneT b y := Classical.byContradiction fun e => by
  have := (h.2 x rfl).2 y e
  omega
theorem phi_upto {f g : Nat → Int} {m : Int} (h : ∀ n : Nat, (n : Int) ≤ m → f n = g n) : ∀ (ms : List Int) (lo : Bool), (∀ x ∈ ms, 0 ≤ x ∧ x ≤ m) → Phi f lo ms = Phi g lo ms
  | [], lo, _ => by cases lo <;> rfl
  | [a], lo, _ => by cases lo <;> rfl
  | a :: b :: r, lo, hx => by
    have ha := hx a (by simp)
    have hb := hx b (by simp)
    have i := phi_upto h (b :: r) (!lo) fun x hx' => hx x (List.mem_cons_of_mem _ hx')
    have e : f (b - a).natAbs = g (b - a).natAbs := h _ (by omega)
    show (if lo = true then f (b - a).natAbs else - f (b - a).natAbs) + Phi f (!lo) (b :: r) = (if lo = true then g (b - a).natAbs else - g (b - a).natAbs) + Phi g (!lo) (b :: r)
    rw [e, i]
theorem memF_in {xs : List Int} {x : Int} (h : x ∈ memF xs) : x = 0 ∨ x ∈ xs := by
  have := (mean_mem xs).sub.subset h
  exact List.mem_cons.mp this
theorem end_upto {a b : Tr} (ga : goodT a) (gb : goodT b) {m : Int} (m0 : 0 ≤ m) (h : ∀ n : Nat, (n : Int) ≤ m → valT a n = valT b n) {xs : List Int} (hx : ∀ x ∈ xs, 0 ≤ x ∧ x ≤ m) : endT a xs = endT b xs := by
  rw [endT_mem ga, endT_mem gb]
  obtain ⟨F, r, e, hF⟩ := memF_head xs
  have F0 : F = 0 := by
    have : F ∈ memF xs := by rw [e]; exact List.mem_cons_self
    rcases memF_in this with h | h
    · exact h
    · have := hx F h; omega
  have p := phi_upto h (memF xs) true fun x hx' => by
    rcases memF_in hx' with z | z
    · subst z; exact ⟨Int.le_refl 0, m0⟩
    · exact hx x z
  unfold ZM
  rw [p, e, F0]
  show pullT a * 0 + _ = pullT b * 0 + _
  rw [Int.mul_zero, Int.mul_zero]
theorem path_upto {a b : Tr} (ga : goodT a) (gb : goodT b) {m : Int} (m0 : 0 ≤ m) (h : ∀ n : Nat, (n : Int) ≤ m → valT a n = valT b n) {xs : List Int} (hx : ∀ x ∈ xs, 0 ≤ x ∧ x ≤ m) : pathT a xs = pathT b xs := by
  unfold pathT
  exact List.map_congr_left fun k _ => end_upto ga gb m0 h fun x hx' => hx x (List.mem_of_mem_take hx')
theorem path_one (t : Tr) (y : Int) : pathT t [y] = [oneT t y] := rfl
theorem two_ways1 {β : Type} {A B : Prop} {R : β → Prop} {p : β → Prop} (rest : ∀ b, p b → R b) (h : (∀ b, p b → R b) → A ∧ B) : A ∧ B := h rest
theorem unl_same {a b : Tr} {o o' : Option Int} (h : unl a b o) (h' : unl a b o') : o = o' := by
  have sym : unl b a o' := ⟨h'.1.trans ⟨Eq.symm, Eq.symm⟩, fun x e => ⟨fun q => (h'.2 x e).1 q.symm, fun y hy => (h'.2 x e).2 y fun q => hy q.symm⟩⟩
  exact unl_uniq h sym
theorem rod_bend {s : Int} (k : Nat) (h : (k : Int) < s) : bendT (.rod s) k = 0 := by
  have v : ∀ n : Nat, (n : Int) ≤ s → valT (.rod s) n = 0 := fun n hn => by show max 0 ((n : Int) - s) = 0; omega
  unfold bendT pullE
  split
  · rw [v (k + 1) (by omega), v k (by omega)]; rfl
  · rw [v (k + 1) (by omega), v k (by omega), v (k - 1) (by omega)]; rfl
theorem rod_bend0 {s : Nat} : bendT (.rod (s : Int)) s = 1 := by
  have v : ∀ n : Nat, n ≤ s → valT (.rod (s : Int)) n = 0 := fun n hn => by show max 0 ((n : Int) - s) = 0; omega
  have v1 : valT (.rod (s : Int)) (s + 1) = 1 := by show max 0 (((s + 1 : Nat) : Int) - s) = 1; omega
  unfold bendT pullE
  split
  · rw [v1, v s (Nat.le_refl _)]; rfl
  · rw [v1, v s (Nat.le_refl _), v (s - 1) (by omega)]; rfl
theorem nil_bend (t : Tr) (k : Nat) : bendT (.mul t 0) k = 0 := by
  have v : ∀ n, valT (.mul t 0) n = 0 := fun n => Int.mul_zero _
  unfold bendT pullE
  split
  · rw [v, v]; rfl
  · rw [v, v, v]; rfl
theorem unl_57 : unl (.rod 5) (.rod 7) (some 6) := by
  refine (unl_some (s := 5) (a := .rod 5) (b := .rod 7) (by decide : (0 : Int) ≤ 5) (by decide : (0 : Int) ≤ 7) (fun k hk => ?_) ?_).2 fun _ => rfl
  · rw [rod_bend k (by omega), rod_bend k (by omega)]
  · rw [show bendT (.rod 5) 5 = 1 from rod_bend0 (s := 5), rod_bend 5 (by decide)]; decide
theorem unl_09 : unl (.mul (.rod 5) 0) (.rod 9) (some (-1)) := by
  refine (unl_some (s := 9) (a := .mul (.rod 5) 0) (b := .rod 9) (by decide : (0 : Int) ≤ 5) (by decide : (0 : Int) ≤ 9) (fun k hk => ?_) ?_).1 (by decide) (by decide)
  · rw [nil_bend, rod_bend k (by omega)]
  · rw [nil_bend, show bendT (.rod 9) 9 = 1 from rod_bend0 (s := 9)]; decide
/-- what stands behind the places up to p and j sides of the next -/
def dueP (a b : Tr) (p : Int) (j : Nat) (o : Option Int) : Prop :=
  (o = none ∧ (1 ≤ j → oneT a p = oneT b p) ∧ (2 ≤ j → oneT a (-p) = oneT b (-p))) ∨ ∃ x, o = some x ∧ oneT a x ≠ oneT b x ∧ (x = p ∨ (x = -p ∧ oneT a p = oneT b p))
theorem due_unl {a b : Tr} (ga : goodT a) (gb : goodT b) {p x : Int} {j : Nat} (p0 : 0 ≤ p) (hn : ∀ y : Int, (y.natAbs : Int) < p → oneT a y = oneT b y) (h : dueP a b p j (some x)) : unl a b (some x) := by
  rcases h with ⟨h, _⟩ | ⟨z, e, hd, hx⟩
  · cases h
  · cases e
    refine ⟨⟨fun h => (by cases h), fun h => absurd (arm_one ga gb h _) hd⟩, fun w e => ?_⟩
    cases e
    refine ⟨hd, fun y hy => ?_⟩
    have : p ≤ (y.natAbs : Int) := Int.not_lt.mp fun c => hy (hn y c)
    rcases hx with rfl | ⟨rfl, he⟩
    · by_cases c : y.natAbs = x.natAbs
      · exact .inr ⟨c.symm, by omega⟩
      · exact .inl (by omega)
    · by_cases c : y.natAbs = (-p).natAbs
      · refine .inr ⟨c.symm, ?_⟩
        by_cases c2 : y = p
        · subst c2; exact absurd he hy
        · omega
      · exact .inl (by omega)
theorem due_none {a b : Tr} {p : Int} (h : dueP a b p 2 none) : oneT a p = oneT b p ∧ oneT a (-p) = oneT b (-p) := by
  rcases h with ⟨_, h1, h2⟩ | ⟨z, e, _⟩
  · exact ⟨h1 (by decide), h2 (by decide)⟩
  · cases e
theorem due_all {a b : Tr} (ga : goodT a) (gb : goodT b) {N : Nat} (hN : totT a ≤ N) (hN' : totT b ≤ N) (h : ∀ y : Int, (y.natAbs : Int) ≤ (N : Int) + 1 → oneT a y = oneT b y) : armT a = armT b :=
  armT_ext ga gb (eq_fin ga gb hN hN' fun n hn => by
    have := h (n : Int) (by omega)
    rw [one_up ga, one_up gb] at this
    exact this)
theorem due_step {a b : Tr} {p y : Int} {j : Nat} {o : Option Int} (hD : dueP a b p j o) (hj : (j = 0 ∧ y = p) ∨ (j = 1 ∧ y = -p)) :
    (o = none → (oneT a y ≠ oneT b y → dueP a b p (j + 1) (some y)) ∧ (oneT a y = oneT b y → dueP a b p (j + 1) none)) ∧ ∀ x, o = some x → dueP a b p (j + 1) (some x) := by
  refine ⟨fun e => ?_, fun x e => ?_⟩
  · subst e
    rcases hD with ⟨_, c1, c2⟩ | ⟨z, e, _⟩
    · rcases hj with ⟨rfl, rfl⟩ | ⟨rfl, rfl⟩
      · exact ⟨fun ne => .inr ⟨_, rfl, ne, .inl rfl⟩, fun eq => .inl ⟨rfl, fun _ => eq, fun h => absurd h (by decide)⟩⟩
      · exact ⟨fun ne => .inr ⟨_, rfl, ne, .inr ⟨rfl, c1 (by decide)⟩⟩, fun eq => .inl ⟨rfl, fun _ => c1 (by decide), fun _ => eq⟩⟩
    · cases e
  · subst e
    rcases hD with ⟨e, _⟩ | h
    · cases e
    · exact .inr h
/-! ### plain sums of rods -/
theorem bend_lip {t : Tr} (g : goodT t) (k : Nat) : (bendT t k).natAbs ≤ 2 * lipT t := by
  have h1 := lip_val g k
  unfold bendT pullE
  split
  · omega
  · have h2 := lip_val g (k - 1)
    rw [show k - 1 + 1 = k by omega] at h2
    omega
theorem arm_lip {t : Tr} (g : goodT t) {p : Int × Int} (h : p ∈ armT t) : p.2.natAbs ≤ 2 * lipT t := by
  obtain ⟨k, _, e, _⟩ := armT_in h
  rw [e]; exact bend_lip g k
theorem arm_slack {t : Tr} (g : goodT t) {p : Int × Int} (h : p ∈ armT t) : 0 ≤ p.1 ∧ p.1 ≤ totT t := by
  have h1 := armT_pos t p.1 (List.mem_map.mpr ⟨p, h, rfl⟩)
  have h2 := armT_key p.1 (List.mem_map.mpr ⟨p, h, rfl⟩)
  have := tot_pos (good_pos g)
  unfold topT at h2
  omega
theorem hgt_take {al : List (Int × Int)} {i : Nat} {p : Int × Int} (h : al[i]? = some p) (x : Int) : hgtA (al.take (i + 1)) x = hgtA (al.take i) x + p.2 * max 0 (x - p.1) := by
  unfold hgtA
  rw [List.take_add_one, h, List.map_append, List.sum_append]
  show _ + (p.2 * max 0 (x - p.1) + 0) = _
  rw [Int.add_zero]
/-- the next sum: a part with the rest, and fifty of it so many times -/
abbrev nextT (u : Tr) (p : Int × Int) : Tr := .add (.add u (.mul (.rod p.1) (p.2 % 50))) (.mul (.mul (.rod p.1) 50) (p.2 / 50))
theorem next_val {u : Tr} {p : Int × Int} {al : List (Int × Int)} {i : Nat} (h : al[i]? = some p) (hu : ∀ n : Nat, valT u n = hgtA (al.take i) n) (n : Nat) : valT (nextT u p) n = hgtA (al.take (i + 1)) n := by
  rw [hgt_take h]
  show valT u n + max 0 ((n : Int) - p.1) * (p.2 % 50) + max 0 ((n : Int) - p.1) * 50 * (p.2 / 50) = _
  rw [hu n, Int.add_assoc, Int.mul_assoc, ← Int.mul_add, show p.2 % 50 + 50 * (p.2 / 50) = p.2 by omega, Int.mul_comm p.2]
theorem pullE_sum (t : Tr) : ∀ n : Nat, ((List.range n).map (bendT t)).sum = pullE (valT t) n
  | 0 => rfl
  | n + 1 => by
    rw [List.range_succ, List.map_append, List.sum_append, pullE_sum t n]
    show _ + (bendT t n + 0) = pullE (valT t) (n + 1)
    unfold bendT
    have : pullE (valT t) (n + 1) = valT t (n + 1) - valT t n := by
      unfold pullE
      rw [if_neg (by omega), Nat.add_sub_cancel]
    omega
theorem cf_sum {t : Tr} (g : goodT t) {N : Nat} (h : totT t + 1 ≤ N) : ((List.range N).map fun k : Nat => cf (armT t) (k : Int)).sum = pullT t := by
  have tp := tot_pos (good_pos g)
  rw [show ((List.range N).map fun k : Nat => cf (armT t) (k : Int)) = (List.range N).map (bendT t) from List.map_congr_left fun k _ => cf_bend g k, pullE_sum]
  unfold pullE
  rw [if_neg (by omega)]
  have := lin_tot g (N - 1) (by omega)
  rw [show N - 1 + 1 = N by omega] at this
  exact this
end Pf

namespace Pf
open PySem L2 Z PyProof.Rows
/-! ### ways between memories -/
def kptN (ps : List Int) (p : Int) : Nat := if p ≤ ps.getD 0 0 then 0 else runL p ps + 1
theorem aft_kpt (ps : List Int) (p : Int) : aft ps p = ps.take (kptN ps p) ++ [p] := by
  unfold aft kptN
  by_cases h : p ≤ ps.getD 0 0
  · rw [if_pos h, if_pos h]; rfl
  · rw [if_neg h, if_neg h]
theorem nest {w : List Int} (ok : okMem w) {i k : Nat} (h : i + 2 ≤ k) (hk : k < w.length) : btw (w.getD k 0) (w.getD i 0) (w.getD (i + 1) 0) = true := by
  have n := okMem_nb ok (n := w.length) (i := i + 2) (c := w.getD i 0) (by omega) (by omega) (by omega) (fun q => by omega) (fun _ => by rw [Nat.add_sub_cancel])
  have hm : w.getD k 0 ∈ w.drop (i + 2) := by
    rw [List.mem_iff_getElem?]
    refine ⟨k - (i + 2), ?_⟩
    rw [List.getElem?_drop, show i + 2 + (k - (i + 2)) = k by omega]
    exact getD_some hk
  have := n.mem _ hm
  rw [show i + 2 - 1 = i + 1 by omega] at this
  unfold btw
  rw [decide_eq_true (by omega), decide_eq_true (by omega)]; rfl
theorem above {w : List Int} (ok : okMem w) {k : Nat} (h : 1 ≤ k) (hk : k < w.length) : w.getD 0 0 < w.getD k 0 := by
  obtain ⟨a, r, rfl, _, hr⟩ := okMem_head ok
  have : (a :: r).getD k 0 ∈ r := by
    obtain ⟨j, rfl⟩ : ∃ j, k = j + 1 := ⟨k - 1, by omega⟩
    exact getD_mem (xs := r) (i := j) (by simpa using hk)
  exact hr _ this
theorem run_ge {p : Int} : ∀ {n : Nat} {ps : List Int}, n < ps.length → (∀ j, j < n → btw p (ps.getD j 0) (ps.getD (j + 1) 0) = true) → n ≤ runL p ps
  | 0, _, _, _ => Nat.zero_le _
  | n + 1, [], h, _ => by simp at h
  | n + 1, [a], h, _ => by simp at h
  | n + 1, a :: b :: r, h, hb => by
    have h0 : btw p a b = true := hb 0 (by omega)
    unfold runL
    rw [if_pos h0]
    exact Nat.succ_le_succ (run_ge (n := n) (ps := b :: r) (by simpa using h) fun j hj => hb (j + 1) (by omega))
theorem run_eq {p : Int} : ∀ {n : Nat} {ps : List Int}, n < ps.length → (∀ j, j < n → btw p (ps.getD j 0) (ps.getD (j + 1) 0) = true) → (n + 1 = ps.length ∨ btw p (ps.getD n 0) (ps.getD (n + 1) 0) = false) → runL p ps = n
  | 0, [], h, _, _ => by simp at h
  | 0, [a], _, _, _ => rfl
  | 0, a :: b :: r, _, _, hx => by
    rcases hx with hx | hx
    · simp at hx
    · unfold runL
      rw [if_neg (by rw [show btw p a b = false from hx]; exact Bool.false_ne_true)]
  | n + 1, [], h, _, _ => by simp at h
  | n + 1, [a], h, _, _ => by simp at h
  | n + 1, a :: b :: r, h, hb, hx => by
    have h0 : btw p a b = true := hb 0 (by omega)
    unfold runL
    rw [if_pos h0, run_eq (n := n) (ps := b :: r) (by simpa using h) (fun j hj => hb (j + 1) (by omega)) (by
      rcases hx with hx | hx
      · exact .inl (by simpa using hx)
      · exact .inr hx)]
theorem btw_r (a b : Int) : btw b a b = false := by
  unfold btw
  by_cases h : a < b
  · rw [decide_eq_false (p := b < max a b) (by omega), Bool.and_false]
  · rw [decide_eq_false (p := min a b < b) (by omega), Bool.false_and]
/-- a move to a place of the memory -/
theorem aft_own {h : List Int} (ok : okMem h) {j : Nat} (hj : j < h.length) : aft h (h.getD j 0) = h.take (j + 1) := by
  have tk : h.take (j + 1) = h.take j ++ [h.getD j 0] := by
    rw [List.take_add_one, getD_some hj]; rfl
  rw [aft_kpt, tk]
  congr 2
  unfold kptN
  by_cases c : j = 0
  · subst c; rw [if_pos (Int.le_refl _)]
  · rw [if_neg (by have := above ok (k := j) (by omega) hj; omega), run_eq (n := j - 1) (by omega) (fun i hi => nest ok (by omega) hj) (.inr (by rw [show j - 1 + 1 = j by omega]; exact btw_r _ _))]
    omega
/-- a move to the next place -/
theorem aft_next {w : List Int} (ok : okMem w) {k : Nat} (k1 : 1 ≤ k) (hk : k < w.length) : aft (w.take k) (w.getD k 0) = w.take (k + 1) := by
  have tk : w.take (k + 1) = w.take k ++ [w.getD k 0] := by
    rw [List.take_add_one, getD_some hk]; rfl
  have lt : (w.take k).length = k := by rw [List.length_take]; omega
  have r : runL (w.getD k 0) (w.take k) = k - 1 := run_eq (by omega) (fun i hi => by
    rw [getD_take (by omega), getD_take (by omega)]
    exact nest ok (by omega) hk) (.inl (by omega))
  rw [aft_kpt, tk]
  congr 1
  unfold kptN
  rw [getD_take (by omega), if_neg (by have := above ok k1 hk; omega), r, List.take_take]
  congr 1
  omega
theorem fold_next {w : List Int} (ok : okMem w) : ∀ {n k : Nat}, 1 ≤ k → k + n = w.length → (w.drop k).foldl aft (w.take k) = w
  | 0, k, k1, e => by
    rw [List.drop_eq_nil_of_le (by omega), List.take_of_length_le (by omega)]; rfl
  | n + 1, k, k1, e => by
    have hk : k < w.length := by omega
    have d : w.drop k = w.getD k 0 :: w.drop (k + 1) := by
      rw [List.drop_eq_getElem_cons hk, List.getD_eq_getElem?_getD, List.getElem?_eq_getElem hk]; rfl
    rw [d, List.foldl_cons, aft_next ok k1 hk]
    exact fold_next ok (n := n) (by omega) (by omega)
/-- with how many equal places two lists begin -/
def shrd : List Int → List Int → Nat
  | a :: x, b :: y => if a = b then shrd x y + 1 else 0
  | _, _ => 0
theorem shrd_le : ∀ (x y : List Int), shrd x y ≤ x.length ∧ shrd x y ≤ y.length
  | [], y => ⟨Nat.zero_le _, Nat.zero_le _⟩
  | a :: x, [] => ⟨Nat.zero_le _, Nat.zero_le _⟩
  | a :: x, b :: y => by
    have i := shrd_le x y
    unfold shrd
    split
    · exact ⟨Nat.succ_le_succ i.1, Nat.succ_le_succ i.2⟩
    · exact ⟨Nat.zero_le _, Nat.zero_le _⟩
theorem shrd_take : ∀ (x y : List Int), x.take (shrd x y) = y.take (shrd x y)
  | [], y => by show [].take 0 = y.take 0; rfl
  | a :: x, [] => rfl
  | a :: x, b :: y => by
    unfold shrd
    split
    · rename_i h
      rw [List.take_succ_cons, List.take_succ_cons, shrd_take x y, h]
    · rfl
theorem shrd_iff : ∀ {x y : List Int} {k : Nat}, k < x.length → k < y.length → (x.take (k + 1) = y.take (k + 1) ↔ k < shrd x y)
  | [], _, _, h, _ => by simp at h
  | a :: x, [], _, _, h => by simp at h
  | a :: x, b :: y, 0, _, _ => by
    unfold shrd
    rw [List.take_succ_cons, List.take_succ_cons]
    constructor
    · intro h
      have := (List.cons.inj h).1
      rw [if_pos this]; omega
    · intro h
      by_cases c : a = b
      · rw [c]; rfl
      · rw [if_neg c] at h; omega
  | a :: x, b :: y, k + 1, h1, h2 => by
    have i := shrd_iff (x := x) (y := y) (k := k) (by simpa using h1) (by simpa using h2)
    unfold shrd
    rw [List.take_succ_cons, List.take_succ_cons]
    constructor
    · intro h
      obtain ⟨e1, e2⟩ := List.cons.inj h
      rw [if_pos e1]
      have := i.mp e2
      omega
    · intro h
      by_cases c : a = b
      · rw [if_pos c] at h
        rw [c, i.mpr (by omega)]
      · rw [if_neg c] at h; omega
theorem shrd_step : ∀ {x y : List Int} {g : Nat}, g < x.length → g < y.length → shrd (x.drop g) (y.drop g) = if x.getD g 0 = y.getD g 0 then shrd (x.drop (g + 1)) (y.drop (g + 1)) + 1 else 0 := by
  intro x y g hx hy
  have d1 : x.drop g = x.getD g 0 :: x.drop (g + 1) := by
    rw [List.drop_eq_getElem_cons hx, List.getD_eq_getElem?_getD, List.getElem?_eq_getElem hx]; rfl
  have d2 : y.drop g = y.getD g 0 :: y.drop (g + 1) := by
    rw [List.drop_eq_getElem_cons hy, List.getD_eq_getElem?_getD, List.getElem?_eq_getElem hy]; rfl
  rw [d1, d2]
  rfl
theorem shrd_nil {x y : List Int} (h : x = [] ∨ y = []) : shrd x y = 0 := by
  rcases h with rfl | rfl
  · rfl
  · cases x <;> rfl
theorem shrd_next {h w : List Int} (h1 : shrd h w < h.length) (h2 : shrd h w < w.length) : h.getD (shrd h w) 0 ≠ w.getD (shrd h w) 0 := by
  intro e
  have := (shrd_iff h1 h2).mp (by
    rw [List.take_add_one, List.take_add_one, shrd_take h w, getD_some h1, getD_some h2, e])
  omega
theorem shrd_self : ∀ w : List Int, shrd w w = w.length
  | [] => rfl
  | a :: w => by
    show (if a = a then shrd w w + 1 else 0) = _
    rw [if_pos rfl, shrd_self w]; rfl
/-- the moves of the program -/
def keptM (h w : List Int) : Nat := if shrd h w < w.length then kptN h (w.getD (shrd h w) 0) else h.length
def fewL (h w : List Int) : List Int := if shrd h w < keptM h w then w.getD (shrd h w - 1) 0 :: w.drop (shrd h w) else w.drop (shrd h w)
theorem kpt_le {h : List Int} (ne : h ≠ []) (p : Int) : kptN h p ≤ h.length := by
  unfold kptN
  split
  · exact Nat.zero_le _
  · exact runL_lt p h ne
theorem few_pos {h w : List Int} (oh : okMem h) (ow : okMem w) (le : w.getD 0 0 ≤ h.getD 0 0) (hk : shrd h w < keptM h w) : 1 ≤ shrd h w ∧ shrd h w < h.length := by
  have k := kpt_le oh.1 (w.getD (shrd h w) 0)
  have lw := List.length_pos_iff.mpr ow.1
  unfold keptM at hk
  by_cases c : shrd h w < w.length
  · rw [if_pos c] at hk
    refine ⟨Nat.pos_of_ne_zero fun z => ?_, by omega⟩
    rw [z] at hk
    unfold kptN at hk
    rw [if_pos le] at hk
    omega
  · rw [if_neg c] at hk
    have := (shrd_le h w).2
    exact ⟨by omega, hk⟩
theorem kpt_ge {h w : List Int} (oh : okMem h) (ow : okMem w) (hs : shrd h w < w.length) : shrd h w ≤ kptN h (w.getD (shrd h w) 0) := by
  by_cases z : shrd h w = 0
  · rw [z]; exact Nat.zero_le _
  · have sh := (shrd_le h w).1
    have tk := shrd_take h w
    have eq : ∀ j, j < shrd h w → h.getD j 0 = w.getD j 0 := fun j hj => by
      rw [← getD_take (ps := h) hj, tk, getD_take hj]
    unfold kptN
    rw [eq 0 (by omega), if_neg (by have := above ow (k := shrd h w) (by omega) hs; omega)]
    have := run_ge (p := w.getD (shrd h w) 0) (n := shrd h w - 1) (ps := h) (by omega) fun j hj => by
      rw [eq j (by omega), eq (j + 1) (by omega)]
      exact nest ow (by omega) hs
    omega
theorem few_leads {h w : List Int} (oh : okMem h) (ow : okMem w) (le : w.getD 0 0 ≤ h.getD 0 0) : (fewL h w).foldl aft h = w := by
  have sl := shrd_le h w
  have tk := shrd_take h w
  have lw := List.length_pos_iff.mpr ow.1
  unfold fewL
  by_cases hk : shrd h w < keptM h w
  · rw [if_pos hk, List.foldl_cons]
    have p := few_pos oh ow le hk
    have e : w.getD (shrd h w - 1) 0 = h.getD (shrd h w - 1) 0 := by
      rw [← getD_take (ps := w) (n := shrd h w) (by omega), ← tk, getD_take (by omega)]
    rw [e, aft_own oh (by omega), show shrd h w - 1 + 1 = shrd h w by omega, tk]
    exact fold_next ow (n := w.length - shrd h w) p.1 (by omega)
  · rw [if_neg hk]
    unfold keptM at hk
    by_cases c : shrd h w < w.length
    · rw [if_pos c] at hk
      have ge := kpt_ge oh ow c
      have d : w.drop (shrd h w) = w.getD (shrd h w) 0 :: w.drop (shrd h w + 1) := by
        rw [List.drop_eq_getElem_cons c, List.getD_eq_getElem?_getD, List.getElem?_eq_getElem c]; rfl
      rw [d, List.foldl_cons, aft_kpt, show kptN h (w.getD (shrd h w) 0) = shrd h w by omega, tk]
      have t1 : w.take (shrd h w) ++ [w.getD (shrd h w) 0] = w.take (shrd h w + 1) := by
        rw [List.take_add_one, getD_some c]; rfl
      rw [t1]
      exact fold_next ow (n := w.length - (shrd h w + 1)) (by omega) (by omega)
    · rw [if_neg c] at hk
      rw [List.drop_eq_nil_of_le (by omega)]
      show h = w
      rw [show h = h.take (shrd h w) from (List.take_of_length_le (by omega)).symm, tk, List.take_of_length_le (by omega)]
theorem few_len {h w : List Int} (oh : okMem h) (ow : okMem w) (le : w.getD 0 0 ≤ h.getD 0 0) : (fewL h w).length ≤ w.length ∧ w.length - shrd h w ≤ (fewL h w).length ∧ (fewL h w).length ≤ w.length - shrd h w + (if shrd h w < h.length then 1 else 0) := by
  have sl := shrd_le h w
  unfold fewL
  by_cases hk : shrd h w < keptM h w
  · have p := few_pos oh ow le hk
    rw [if_pos hk, List.length_cons, List.length_drop, if_pos p.2]
    omega
  · rw [if_neg hk, List.length_drop]
    split <;> omega
theorem few_nil {h w : List Int} : fewL h w = [] ↔ h = w := by
  have sl := shrd_le h w
  constructor
  · intro e
    unfold fewL at e
    by_cases hk : shrd h w < keptM h w
    · rw [if_pos hk] at e; cases e
    · rw [if_neg hk] at e
      have c := List.drop_eq_nil_iff.mp e
      unfold keptM at hk
      rw [if_neg (by omega)] at hk
      rw [show h = h.take (shrd h w) from (List.take_of_length_le (by omega)).symm, shrd_take h w, List.take_of_length_le c]
  · intro e
    subst e
    unfold fewL keptM
    rw [shrd_self, if_neg (Nat.lt_irrefl _), if_neg (Nat.lt_irrefl _), List.drop_length]
theorem few_rest {w : List Int} (ow : okMem w) : fewL [0] w = rowM w := by
  obtain ⟨a, r, rfl, a0, hr⟩ := okMem_head ow
  by_cases c : a = 0
  · subst c
    have s : shrd [0] (0 :: r) = 1 := by
      show (if (0 : Int) = 0 then shrd [] r + 1 else 0) = 1
      rw [if_pos rfl, shrd_nil (.inl rfl)]
    unfold fewL
    have hk : ¬ (1 < keptM [0] (0 :: r)) := by
      unfold keptM
      split
      · have := kpt_le (h := [0]) (by simp) ((0 :: r).getD (shrd [0] (0 :: r)) 0)
        simp at this ⊢
        omega
      · simp
    rw [s, if_neg hk]; rfl
  · have s : shrd [0] (a :: r) = 0 := by
      show (if (0 : Int) = a then shrd [] r + 1 else 0) = 0
      rw [if_neg fun e => c e.symm]
    unfold fewL
    have hk : ¬ (0 < keptM [0] (a :: r)) := by
      unfold keptM
      rw [s, if_pos (by simp)]
      unfold kptN
      rw [if_pos (show (a :: r).getD 0 0 ≤ [0].getD 0 0 from a0)]
      omega
    rw [s, if_neg hk, rowM_ne c]; rfl
theorem few_mem {h w : List Int} (ow : okMem w) : ∀ x ∈ fewL h w, x ∈ w := by
  intro x hx
  have lw := List.length_pos_iff.mpr ow.1
  unfold fewL at hx
  split at hx
  · rcases List.mem_cons.mp hx with rfl | hx
    · have := (shrd_le h w).2
      exact getD_mem (by omega)
    · exact List.mem_of_mem_drop hx
  · exact List.mem_of_mem_drop hx
theorem okMem_pl {w : List Int} (ow : okMem w) : ∀ x ∈ w, isPl x = true := by
  intro x hx
  obtain ⟨i, hi, rfl⟩ := List.mem_iff_getElem.mp hx
  have f := ow.2.2 i hi
  unfold fitB at f
  rw [Bool.and_eq_true] at f
  rw [List.getD_eq_getElem?_getD, List.getElem?_eq_getElem hi] at f
  exact f.1
theorem count_lt : ∀ {n s : Nat}, s ≤ n → ((List.range n).filter fun k => decide (k < s)).length = s
  | 0, s, h => by
    have : s = 0 := by omega
    subst this; rfl
  | n + 1, s, h => by
    rw [List.range_succ, List.filter_append, List.length_append]
    by_cases c : s ≤ n
    · rw [count_lt c]
      have : decide (n < s) = false := decide_eq_false (by omega)
      rw [List.filter_cons, this]; simp
    · have e : s = n + 1 := by omega
      subst e
      have : (List.range n).filter (fun k => decide (k < n + 1)) = List.range n := List.filter_eq_self.mpr fun k hk => decide_eq_true (by have := List.mem_range.mp hk; omega)
      rw [this, List.length_range, List.filter_cons, decide_eq_true (Nat.lt_succ_self n)]
      simp
theorem same_len {h w : List Int} : ((List.range (min h.length w.length)).filter fun k => decide (h.take (k + 1) = w.take (k + 1))).length = shrd h w := by
  have sl := shrd_le h w
  have : (List.range (min h.length w.length)).filter (fun k => decide (h.take (k + 1) = w.take (k + 1))) = (List.range (min h.length w.length)).filter fun k => decide (k < shrd h w) := by
    refine List.filter_congr fun k hk => ?_
    have := List.mem_range.mp hk
    exact decide_eq_decide.mpr (shrd_iff (by omega) (by omega))
  rw [this, count_lt (by omega)]
end Pf

namespace Pf
open PySem L2 Z PyProof.Rows
/-! ### areas -/
abbrev upL (h : Nat) : List Int := (List.range h).map fun (k : Nat) => 1 + (k : Int)
abbrev dnL (h : Nat) : List Int := (List.range h).map fun (k : Nat) => (h : Int) - (k : Int)
/-- down from a height to 1, the height left out -/
abbrev dwL (h : Nat) : List Int := (List.range (h - 1)).map fun (k : Nat) => (h : Int) - 1 - (k : Int)
def downT (t : Tr) (h k : Nat) : Int := endT t ((h : Int) :: (dwL h).take (k + 1))
def areaT (t : Tr) (h : Nat) : Int := ((List.range (h - 1)).map fun k => downT t h k).sum - ((List.range (h - 1)).map fun k => valT t (k + 1)).sum
theorem dn_cons {h : Nat} (h1 : 1 ≤ h) : dnL h = (h : Int) :: dwL h := by
  obtain ⟨m, rfl⟩ : ∃ m, h = m + 1 := ⟨h - 1, by omega⟩
  unfold dnL dwL
  rw [List.range_succ_eq_map, List.map_cons, List.map_map, Nat.add_sub_cancel]
  congr 1
  refine List.map_congr_left fun k _ => ?_
  show ((m + 1 : Nat) : Int) - ((k + 1 : Nat) : Int) = _
  omega
theorem path_dn {t : Tr} {h : Nat} : (pathT t (dnL h)).drop 1 = (List.range (h - 1)).map (downT t h) := by
  cases h with
  | zero => rfl
  | succ m =>
    rw [dn_cons (by omega)]
    unfold pathT
    rw [List.length_cons, List.range_succ_eq_map, List.map_cons, List.drop_one, List.tail_cons, List.map_map]
    have l : (dwL (m + 1)).length = m + 1 - 1 := by unfold dwL; rw [List.length_map, List.length_range]
    rw [l]
    refine List.map_congr_left fun k _ => ?_
    rfl
theorem sum_add (f g : Nat → Int) : ∀ l : List Nat, (l.map fun k => f k + g k).sum = (l.map f).sum + (l.map g).sum
  | [] => rfl
  | a :: l => by
    rw [List.map_cons, List.map_cons, List.map_cons, List.sum_cons, List.sum_cons, List.sum_cons, sum_add f g l]; omega
theorem sum_two (f : Nat → Int) : ∀ l : List Nat, (l.map fun k => f k * 2).sum = 2 * (l.map f).sum
  | [] => rfl
  | a :: l => by
    rw [List.map_cons, List.map_cons, List.sum_cons, List.sum_cons, sum_two f l]; omega
theorem area_add (a b : Tr) (h : Nat) : areaT (.add a b) h = areaT a h + areaT b h := by
  unfold areaT
  rw [show ((List.range (h - 1)).map fun k => downT (.add a b) h k) = (List.range (h - 1)).map fun k => downT a h k + downT b h k from rfl, sum_add (fun k => downT a h k) (fun k => downT b h k),
    show ((List.range (h - 1)).map fun k => valT (.add a b) (k + 1)) = (List.range (h - 1)).map fun k => valT a (k + 1) + valT b (k + 1) from rfl, sum_add (fun k => valT a (k + 1)) (fun k => valT b (k + 1))]
  omega
theorem area_two (a : Tr) (h : Nat) : areaT (.mul a 2) h = 2 * areaT a h := by
  unfold areaT
  rw [show ((List.range (h - 1)).map fun k => downT (.mul a 2) h k) = (List.range (h - 1)).map fun k => downT a h k * 2 from rfl, sum_two (fun k => downT a h k),
    show ((List.range (h - 1)).map fun k => valT (.mul a 2) (k + 1)) = (List.range (h - 1)).map fun k => valT a (k + 1) * 2 from rfl, sum_two (fun k => valT a (k + 1))]
  omega
/-! rods -/
theorem rod_top {s : Int} (s0 : 0 ≤ s) (h : Nat) : rodSt s 0 (h : Int) = max 0 ((h : Int) - s) := by unfold rodSt; omega
theorem dw_take {h k : Nat} (hk : k < h - 1) : (dwL h).take (k + 1) = (List.range (k + 1)).map fun (j : Nat) => (h : Int) - 1 - (j : Int) := by
  unfold dwL
  rw [← List.map_take, List.take_range, show min (k + 1) (h - 1) = k + 1 by omega]
theorem rod_down {s : Int} (s0 : 0 ≤ s) {h k : Nat} (hk : k < h - 1) : downT (.rod s) h k = min (max 0 ((h : Int) - s)) ((h : Int) - 1 - k) := by
  show rodE s 0 ((h : Int) :: (dwL h).take (k + 1)) = _
  rw [rodE_cons, rod_top s0, dw_take hk, rod_run_dn s0 (by omega) (by omega) (k + 1)]
  unfold rodSt
  omega
/-- the sums in closed form, twice -/
theorem sum_min (f : Int) (f0 : 0 ≤ f) : ∀ m : Nat, 2 * ((List.range m).map fun (k : Nat) => min f ((k : Int) + 1)).sum = if (m : Int) ≤ f then (m : Int) * m + m else 2 * (f * m) - f * f + f
  | 0 => by
    rw [if_pos (by omega)]; rfl
  | m + 1 => by
    rw [List.range_succ, List.map_append, List.sum_append, Int.mul_add, sum_min f f0 m]
    show _ + 2 * (min f ((m : Int) + 1) + 0) = _
    have e1 : ((m + 1 : Nat) : Int) * ((m + 1 : Nat) : Int) = (m : Int) * m + m + m + 1 := by
      rw [show ((m + 1 : Nat) : Int) = (m : Int) + 1 by omega, Int.add_mul, Int.mul_add]; omega
    have e2 : f * ((m + 1 : Nat) : Int) = f * m + f := by
      rw [show ((m + 1 : Nat) : Int) = (m : Int) + 1 by omega, Int.mul_add]; omega
    by_cases c : ((m + 1 : Nat) : Int) ≤ f
    · rw [if_pos (by omega), if_pos c, e1, show min f ((m : Int) + 1) = (m : Int) + 1 by omega]; omega
    · rw [if_neg c, e2]
      by_cases c2 : (m : Int) ≤ f
      · have : f = m := by omega
        subst this
        rw [if_pos c2, show min (m : Int) ((m : Int) + 1) = m by omega]; omega
      · rw [if_neg c2, show min f ((m : Int) + 1) = f by omega]; omega
theorem sum_up (s : Int) (s0 : 0 ≤ s) : ∀ m : Nat, 2 * ((List.range m).map fun (k : Nat) => max 0 ((k : Int) + 1 - s)).sum = if (m : Int) ≤ s then 0 else ((m : Int) - s) * ((m : Int) - s) + ((m : Int) - s)
  | 0 => by
    rw [if_pos (by omega)]; rfl
  | m + 1 => by
    rw [List.range_succ, List.map_append, List.sum_append, Int.mul_add, sum_up s s0 m]
    show _ + 2 * (max 0 ((m : Int) + 1 - s) + 0) = _
    by_cases c : ((m + 1 : Nat) : Int) ≤ s
    · rw [if_pos (by omega), if_pos c, show max 0 ((m : Int) + 1 - s) = 0 by omega]; omega
    · rw [if_neg c, show max 0 ((m : Int) + 1 - s) = (m : Int) + 1 - s by omega]
      have e : (((m + 1 : Nat) : Int) - s) * (((m + 1 : Nat) : Int) - s) = ((m : Int) - s) * ((m : Int) - s) + ((m : Int) - s) + ((m : Int) - s) + 1 := by
        rw [show ((m + 1 : Nat) : Int) - s = ((m : Int) - s) + 1 by omega, Int.add_mul, Int.mul_add]; omega
      rw [e]
      by_cases c2 : (m : Int) ≤ s
      · have : (m : Int) - s = 0 := by omega
        rw [if_pos c2, this]; omega
      · rw [if_neg c2]; omega
theorem sum_rev (f : Int → Int) : ∀ m : Nat, ((List.range m).map fun (k : Nat) => f ((m : Int) - k)).sum = ((List.range m).map fun (k : Nat) => f ((k : Int) + 1)).sum
  | 0 => rfl
  | m + 1 => by
    rw [List.range_succ_eq_map, List.map_cons, List.map_map, List.sum_cons]
    have e : ((List.range m).map ((fun (k : Nat) => f (((m + 1 : Nat) : Int) - k)) ∘ Nat.succ)) = (List.range m).map fun (k : Nat) => f ((m : Int) - k) := List.map_congr_left fun k _ => by
      show f (((m + 1 : Nat) : Int) - ((k + 1 : Nat) : Int)) = f ((m : Int) - k)
      congr 1; omega
    rw [e, sum_rev f m, ← List.range_succ_eq_map, List.range_succ, List.map_append, List.sum_append]
    show f (((m + 1 : Nat) : Int) - ((0 : Nat) : Int)) + _ = _ + (f ((m : Int) + 1) + 0)
    rw [show ((m + 1 : Nat) : Int) - ((0 : Nat) : Int) = (m : Int) + 1 by omega]; omega
theorem area_rod {s : Int} (s0 : 0 ≤ s) (h : Nat) : areaT (.rod s) h = max 0 ((h : Int) - s) * max 0 ((h : Int) - 1) - max 0 ((h : Int) - s) * (max 0 ((h : Int) - s) - 1) := by
  cases h with
  | zero =>
    have : max 0 (((0 : Nat) : Int) - s) = 0 := by omega
    rw [this]
    show (0 : Int) - 0 = 0 * _ - 0 * _
    rw [Int.zero_mul, Int.zero_mul]
  | succ m =>
    generalize hf : max 0 (((m + 1 : Nat) : Int) - s) = f
    have f0 : 0 ≤ f := by omega
    unfold areaT
    rw [Nat.add_sub_cancel]
    have e1 : ((List.range m).map fun k => downT (.rod s) (m + 1) k) = (List.range m).map fun (k : Nat) => min f ((m : Int) - k) := List.map_congr_left fun k hk => by
      have := List.mem_range.mp hk
      rw [rod_down s0 (by omega), hf]
      congr 1; omega
    have e2 : ((List.range m).map fun k => valT (.rod s) (k + 1)) = (List.range m).map fun (k : Nat) => max 0 ((k : Int) + 1 - s) := List.map_congr_left fun k _ => by
      show max 0 (((k + 1 : Nat) : Int) - s) = _
      congr 1
    rw [e1, e2, sum_rev (fun y => min f y) m]
    have a := sum_min f f0 m
    have b := sum_up s s0 m
    rw [show max 0 (((m + 1 : Nat) : Int) - 1) = (m : Int) by omega, Int.mul_sub, Int.mul_one]
    generalize ((List.range m).map fun (k : Nat) => min f ((k : Int) + 1)).sum = A at a ⊢
    generalize ((List.range m).map fun (k : Nat) => max 0 ((k : Int) + 1 - s)).sum = B at b ⊢
    by_cases c : (m : Int) ≤ s
    · rw [if_pos c] at b
      by_cases c2 : (m : Int) < s
      · have z : f = 0 := by omega
        subst z
        rw [Int.zero_mul, Int.zero_mul] at *
        by_cases c3 : (m : Int) ≤ 0
        · have : (m : Int) = 0 := by omega
          rw [if_pos c3, this] at a; omega
        · rw [if_neg c3] at a; omega
      · have z : f = 1 := by omega
        subst z
        by_cases c3 : (m : Int) ≤ 1
        · rw [if_pos c3] at a
          have : (m : Int) = 0 ∨ (m : Int) = 1 := by omega
          rcases this with h | h <;> rw [h] at a ⊢ <;> omega
        · rw [if_neg c3] at a; omega
    · rw [if_neg c] at b
      have z : (m : Int) - s = f - 1 := by omega
      rw [z, Int.sub_mul, Int.mul_sub, Int.one_mul, Int.mul_one] at b
      by_cases c3 : (m : Int) ≤ f
      · have : (m : Int) = f ∨ (m : Int) = f - 1 := by omega
        rcases this with h | h
        · rw [if_pos c3, h] at a; rw [h]; omega
        · rw [if_pos c3, h, Int.sub_mul, Int.mul_sub, Int.one_mul, Int.mul_one] at a
          rw [h, Int.mul_sub, Int.mul_one]; omega
      · rw [if_neg c3] at a; omega
/-! the way up and down, step by step -/
abbrev rowA (h : Nat) : List Int := ((List.range h).map fun (k : Nat) => 1 + (k : Int)) ++ (List.range h).map fun (k : Nat) => (h : Int) - 1 - (k : Int)
theorem end_pass {t : Tr} (g : goodT t) (h : Nat) (ys : List Int) : endT t (((List.range h).map fun (k : Nat) => 1 + (k : Int)) ++ ys) = endT t ((h : Int) :: ys) := by
  rw [endT_FA g, endT_FA g]
  have key : ∀ al : List (Int × Int), Pos0 al → FA al (((List.range h).map fun (k : Nat) => 1 + (k : Int)) ++ ys) = FA al ((h : Int) :: ys) := by
    intro al
    induction al with
    | nil => intro _; rfl
    | cons a al ih =>
      intro p
      have s0 : 0 ≤ a.1 := p a.1 (by simp)
      have i := ih fun k hk => p k (by simp at hk ⊢; exact .inr hk)
      unfold FA at i ⊢
      rw [List.map_cons, List.map_cons, List.sum_cons, List.sum_cons, i]
      congr 2
      have e : ((List.range h).map fun (k : Nat) => 1 + (k : Int)) = (List.range h).map fun (k : Nat) => 0 + 1 + (k : Int) := rfl
      rw [rodE_app, e, rod_run_up s0 (Int.le_refl 0) (by omega) h, rodE_cons, Int.zero_add]
  exact key _ (armT_pos t)
theorem end_home {t : Tr} (g : goodT t) (xs : List Int) (h : ∀ x ∈ xs, 0 ≤ x) : endT t (xs ++ [0]) = 0 := by
  rw [endT_mem g, memF_snoc]
  obtain ⟨F, r, e, hF⟩ := memF_head xs
  have F0 : F = 0 := by
    have : F ∈ memF xs := by rw [e]; exact List.mem_cons_self
    rcases memF_in this with q | q
    · exact q
    · have := h F q; omega
  have a : aft (memF xs) 0 = [0] := by
    rw [e, F0]
    show (if (0 : Int) ≤ 0 then [0] else _) = _
    rw [if_pos (Int.le_refl 0)]
  rw [a]
  show pullT t * 0 + 0 = 0
  omega
theorem path_rowA {t : Tr} (g : goodT t) {h : Nat} (h1 : 1 ≤ h) : pathT t (rowA h) = ((List.range h).map fun k => valT t (k + 1)) ++ (((List.range (h - 1)).map (downT t h)) ++ [0]) := by
  have l : (rowA h).length = h + h := by unfold rowA; rw [List.length_append, List.length_map, List.length_map, List.length_range]
  unfold pathT
  rw [l]
  apply List.ext_getElem?
  intro i
  rw [List.getElem?_map]
  by_cases c : i < h + h
  · rw [List.getElem?_range c]
    show some (endT t ((rowA h).take (i + 1))) = _
    by_cases c1 : i < h
    · rw [List.getElem?_append_left (by rw [List.length_map, List.length_range]; exact c1), List.getElem?_map, List.getElem?_range c1]
      show some _ = some (valT t (i + 1))
      unfold rowA
      rw [List.take_append_of_le_length (by rw [List.length_map, List.length_range]; omega), ← List.map_take, List.take_range, show min (i + 1) h = i + 1 by omega, end_up g]
    · obtain ⟨j, rfl⟩ : ∃ j, i = h + j := ⟨i - h, by omega⟩
      rw [List.getElem?_append_right (by rw [List.length_map, List.length_range]; omega), List.length_map, List.length_range, Nat.add_sub_cancel_left]
      have tk : (rowA h).take (h + j + 1) = ((List.range h).map fun (k : Nat) => 1 + (k : Int)) ++ (List.range (j + 1)).map fun (k : Nat) => (h : Int) - 1 - (k : Int) := by
        unfold rowA
        rw [List.take_append, List.length_map, List.length_range, List.take_of_length_le (by rw [List.length_map, List.length_range]; omega), ← List.map_take, List.take_range, show min (h + j + 1 - h) h = j + 1 by omega]
      rw [tk, end_pass g]
      by_cases c2 : j < h - 1
      · rw [List.getElem?_append_left (by rw [List.length_map, List.length_range]; exact c2), List.getElem?_map, List.getElem?_range c2]
        show some _ = some (downT t h j)
        unfold downT
        rw [dw_take c2]
      · have e : j = h - 1 := by omega
        subst e
        rw [List.getElem?_append_right (by rw [List.length_map, List.length_range]; omega), List.length_map, List.length_range, Nat.sub_self]
        show some _ = some 0
        congr 1
        have e2 : (List.range (h - 1 + 1)).map (fun (k : Nat) => (h : Int) - 1 - (k : Int)) = dwL h ++ [0] := by
          unfold dwL
          rw [List.range_succ, List.map_append]
          congr 1
          show [(h : Int) - 1 - ((h - 1 : Nat) : Int)] = [0]
          congr 1; omega
        rw [e2, ← List.cons_append]
        refine end_home g _ fun x hx => ?_
        rcases List.mem_cons.mp hx with rfl | hx
        · omega
        · obtain ⟨k, hk, rfl⟩ := List.mem_map.mp hx
          have := List.mem_range.mp hk
          omega
  · rw [List.getElem?_eq_none (by rw [List.length_range]; omega), List.getElem?_eq_none (by rw [List.length_append, List.length_append, List.length_map, List.length_map, List.length_range, List.length_range, List.length_singleton]; omega)]
    rfl
theorem cut_last {α : Type _} (xs : List α) (x : α) : Z.cutD (xs ++ [x]) (some (-1)) none = [x] := by
  unfold Z.cutD
  have a : HT.sIx (xs ++ [x]).length 0 (some (-1)) = xs.length := by
    unfold HT.sIx
    simp
    omega
  rw [a]
  simp [HT.sIx]
end Pf

namespace Pf
open PySem L2 Z PyProof.Rows
/-! ### no way is shorter -/
theorem shrd_pre : ∀ {x w : List Int} {k : Nat} (ys : List Int), shrd x w < x.length → shrd x w < k → shrd (x.take k ++ ys) w = shrd x w
  | [], w, k, ys, h, _ => by simp at h
  | a :: x, [], k, ys, _, _ => by rw [shrd_nil (.inr rfl), shrd_nil (.inr rfl)]
  | a :: x, b :: w, 0, ys, _, hk => by omega
  | a :: x, b :: w, k + 1, ys, h, hk => by
    rw [List.take_succ_cons, List.cons_append]
    by_cases c : a = b
    · have e : shrd (a :: x) (b :: w) = shrd x w + 1 := by
        show (if a = b then shrd x w + 1 else 0) = _
        rw [if_pos c]
      rw [e] at h hk ⊢
      have i := shrd_pre (x := x) (w := w) (k := k) ys (by simpa using h) (by omega)
      show (if a = b then shrd (x.take k ++ ys) w + 1 else 0) = _
      rw [if_pos c, i]
    · have e : shrd (a :: x) (b :: w) = 0 := by
        show (if a = b then shrd x w + 1 else 0) = _
        rw [if_neg c]
      rw [e]
      show (if a = b then _ else 0) = 0
      rw [if_neg c]
theorem shrd_mono {x w ys : List Int} {k : Nat} (hk : k ≤ shrd x w) (m : Int) : shrd (x.take k ++ [m]) w ≤ k + 1 := by
  have := (shrd_le (x.take k ++ [m]) w).1
  rw [List.length_append, List.length_take, List.length_singleton] at this
  omega
theorem shrd_aft {x w : List Int} (ne : x ≠ []) (m : Int) : shrd (aft x m) w ≤ shrd x w + 1 := by
  rw [aft_kpt]
  have sl := shrd_le x w
  by_cases c : kptN x m ≤ shrd x w
  · exact Nat.le_trans (shrd_mono (ys := []) c m) (by omega)
  · have k := kpt_le ne m
    rw [shrd_pre [m] (by omega) (by omega)]; omega
theorem shrd_aft' {h w : List Int} (ne : h ≠ []) (hk : shrd h w < keptM h w) (m : Int) : shrd (aft h m) w ≤ shrd h w := by
  have sl := shrd_le h w
  by_cases c : kptN h m ≤ shrd h w
  · rw [aft_kpt]
    by_cases c2 : kptN h m < shrd h w
    · exact Nat.le_trans (shrd_mono (ys := []) c m) (by omega)
    · have e : kptN h m = shrd h w := by omega
      rw [e]
      by_cases c3 : shrd h w < w.length
      · unfold keptM at hk
        rw [if_pos c3] at hk
        have nm : m ≠ w.getD (shrd h w) 0 := fun q => by rw [← q] at hk; omega
        have lt : (h.take (shrd h w) ++ [m]).length = shrd h w + 1 := by rw [List.length_append, List.length_take, List.length_singleton]; omega
        refine Nat.not_lt.mp fun q => nm ?_
        have t := (shrd_iff (x := h.take (shrd h w) ++ [m]) (y := w) (k := shrd h w) (by omega) c3).mpr q
        rw [List.take_of_length_le (by omega), List.take_add_one, getD_some c3, ← shrd_take h w] at t
        have := List.append_cancel_left t
        exact (List.cons.inj this).1
      · have := (shrd_le (h.take (shrd h w) ++ [m]) w).2
        omega
  · rw [aft_kpt]
    have k := kpt_le ne m
    rw [shrd_pre [m] (by omega) (by omega)]; exact Nat.le_refl _
theorem way_ge : ∀ {ms h w : List Int}, h ≠ [] → ms.foldl aft h = w → w.length ≤ shrd h w + ms.length
  | [], h, w, _, e => by
    have : h = w := e
    subst this
    rw [shrd_self]; exact Nat.le_refl _
  | m :: ms, h, w, ne, e => by
    have i := way_ge (ms := ms) (h := aft h m) (w := w) (aft_len h m ne).2 e
    have s := shrd_aft ne m (w := w)
    rw [List.length_cons]; omega
theorem few_least {ms h w : List Int} (ne : h ≠ []) (e : ms.foldl aft h = w) : (fewL h w).length ≤ ms.length := by
  have g := way_ge ne e
  have sl := shrd_le h w
  unfold fewL
  by_cases hk : shrd h w < keptM h w
  · rw [if_pos hk, List.length_cons, List.length_drop]
    cases ms with
    | nil =>
      have : h = w := e
      subst this
      unfold keptM at hk
      rw [shrd_self, if_neg (Nat.lt_irrefl _)] at hk
      omega
    | cons m ms =>
      have i := way_ge (ms := ms) (h := aft h m) (w := w) (aft_len h m ne).2 e
      have s := shrd_aft' ne hk m
      rw [List.length_cons]; omega
  · rw [if_neg hk, List.length_drop]; omega
theorem few_tri {a b c : List Int} (oa : okMem a) (ob : okMem b) (oc : okMem c) (h1 : b.getD 0 0 ≤ a.getD 0 0) (h2 : c.getD 0 0 ≤ b.getD 0 0) : (fewL a c).length ≤ (fewL a b).length + (fewL b c).length := by
  rw [← List.length_append]
  refine few_least oa.1 ?_
  rw [List.foldl_append, few_leads oa ob h1, few_leads ob oc h2]
theorem few_one {h : List Int} (oh : okMem h) {p : Int} (oa : okMem (aft h p)) (le : (aft h p).getD 0 0 ≤ h.getD 0 0) (ne : h.getLastD 0 ≠ p) : fewL h (aft h p) = [p] := by
  have l := few_least (ms := [p]) oh.1 (show [p].foldl aft h = aft h p from rfl)
  have lead := few_leads oh oa le
  cases hf : fewL h (aft h p) with
  | nil =>
    exfalso
    have e := few_nil.mp hf
    apply ne
    rw [e]
    exact aft_last h p
  | cons x r =>
    rw [hf] at l lead
    have r0 : r = [] := by
      cases r with
      | nil => rfl
      | cons y r => simp at l
    subst r0
    have := congrArg (fun z => List.getLastD z 0) (show aft h x = aft h p from lead)
    simp only [aft_last] at this
    rw [this]
theorem few_home {h : List Int} (oh : okMem h) (h0 : h.getD 0 0 = 0) : fewL h [0] = [0] ∨ fewL h [0] = [] := by
  by_cases c : h = [0]
  · exact .inr (few_nil.mpr c)
  · left
    have l := few_least (ms := [0]) (w := [0]) oh.1 (by
      show aft h 0 = [0]
      unfold aft
      rw [if_pos (by omega)])
    have lead := few_leads (w := [0]) oh okMem_zero (by rw [h0]; exact Int.le_refl 0)
    cases hf : fewL h [0] with
    | nil => exact absurd (few_nil.mp hf) c
    | cons x r =>
      have r0 : r = [] := by
        rw [hf] at l
        cases r with
        | nil => rfl
        | cons y r => simp at l
      subst r0
      have m := few_mem (h := h) okMem_zero x (by rw [hf]; exact List.mem_cons_self)
      rw [List.mem_singleton.mp m]
/-- rows above 0 have the lowest place 0 -/
theorem memF_low {row : List Int} (h : ∀ x ∈ row, 0 ≤ x) : (memF row).getD 0 0 = 0 := by
  obtain ⟨F, r, e, hF⟩ := memF_head row
  have : F ∈ memF row := by rw [e]; exact List.mem_cons_self
  rw [e]
  show F = 0
  rcases memF_in this with q | q
  · exact q
  · have := h F q; omega
theorem aft_low {h : List Int} (ne : h ≠ []) (h0 : h.getD 0 0 = 0) {p : Int} (hp : 0 ≤ p) : (aft h p).getD 0 0 = 0 := by
  unfold aft
  by_cases c : p ≤ h.getD 0 0
  · rw [if_pos c]
    show p = 0
    omega
  · rw [if_neg c]
    cases h with
    | nil => exact absurd rfl ne
    | cons a r => exact h0
end Pf

namespace Pf
open PySem L2 Z PyProof.Rows
/-! ### memories by their meaning -/
theorem two_waysG {β : Type} {G : Prop} {R : β → Prop} {p : β → Prop} (rest : ∀ b, p b → R b) (h : (∀ b, p b → R b) → G) : G := h rest
theorem flt_end {p : Nat → Bool} {j : Nat} (hp : p j = true) : ∀ {n : Nat}, j < n → (∀ q, j < q → q < n → p q = false) → ((List.range n).filter p).getLast? = some j
  | 0, h, _ => by omega
  | n + 1, h, hq => by
    rw [List.range_succ, List.filter_append]
    by_cases c : j = n
    · subst c
      rw [List.filter_cons, if_pos hp, List.filter_nil, List.getLast?_append]; rfl
    · have e : p n = false := hq n (by omega) (by omega)
      rw [List.filter_cons, e, List.filter_nil]
      simp only [Bool.false_eq_true, if_false, List.append_nil]
      exact flt_end hp (by omega) fun q h1 h2 => hq q h1 (by omega)
theorem at_end {ws : List W} {w : W} (h : ws.getLast? = some w) : atI ws (-1) = some w := by
  have ne : ws ≠ [] := by rintro rfl; cases h
  rw [List.getLast?_eq_some_getLast ne] at h
  conv => lhs; rw [← List.dropLast_concat_getLast ne]
  rw [atI_last]
  exact h
def growF (lo : Int) (m : Nat) (r : List Int) : List (List Int) := (List.range m).map fun (k : Nat) => r ++ [lo + (k : Int)]
theorem growF_mem {lo : Int} {m : Nat} {r x : List Int} (h : x ∈ growF lo m r) : ∃ k, k < m ∧ x = r ++ [lo + (k : Int)] := by
  obtain ⟨k, hk, e⟩ := List.mem_map.mp h
  exact ⟨k, List.mem_range.mp hk, e.symm⟩
theorem growF_len {lo : Int} {m : Nat} : ∀ rs : List (List Int), (rs.flatMap (growF lo m)).length = rs.length * m
  | [] => by simp
  | r :: rs => by
    rw [List.flatMap_cons, List.length_append, growF_len rs, List.length_cons, Nat.succ_mul]
    simp [growF]
    omega
theorem rowM_len (ps : List Int) (h : ps ≠ []) : ((ps.length : Nat) : Int) - (if ps.getD 0 0 = 0 then 1 else 0) = ((rowM ps).length : Int) := by
  have h0 : 0 < ps.length := List.length_pos_iff.mpr h
  unfold rowM
  by_cases c : ps.getD 0 0 = 0
  · rw [if_pos c, if_pos c, List.length_drop]; omega
  · rw [if_neg c, if_neg c]; omega
end Pf

namespace Pf
open PySem L2 Z PyProof.Rows
def top (i : Nat) : Stmt := PySem.Challenge.pw_slackrods_k16_whole_no_shorter_row.main.body.getD i (.Pass ⟨0, 0, 0, 0⟩)
abbrev s_is_whole_number : Stmt := top 8
abbrev N_is_whole_number : List Str := ["value"]
abbrev P_is_whole_number : List Str := ["value"]
theorem sc_is_whole_number : FnScope N_is_whole_number P_is_whole_number (defScope s_is_whole_number) := ⟨rfl, rfl, rfl, by decide +kernel, rfl, by decide +kernel, by decide +kernel⟩
abbrev s_is_number : Stmt := top 9
abbrev N_is_number : List Str := ["value", "low", "high"]
abbrev P_is_number : List Str := ["value", "low", "high"]
theorem sc_is_number : FnScope N_is_number P_is_number (defScope s_is_number) := ⟨rfl, rfl, rfl, by decide +kernel, rfl, by decide +kernel, by decide +kernel⟩
abbrev s_is_place : Stmt := top 10
abbrev N_is_place : List Str := ["value"]
abbrev P_is_place : List Str := ["value"]
theorem sc_is_place : FnScope N_is_place P_is_place (defScope s_is_place) := ⟨rfl, rfl, rfl, by decide +kernel, rfl, by decide +kernel, by decide +kernel⟩
abbrev s_check_row : Stmt := top 12
abbrev N_check_row : List Str := ["row", "index", "place"]
abbrev P_check_row : List Str := ["row"]
theorem sc_check_row : FnScope N_check_row P_check_row (defScope s_check_row) := ⟨rfl, rfl, rfl, by decide +kernel, rfl, by decide +kernel, by decide +kernel⟩
abbrev s_check_place : Stmt := top 11
abbrev N_check_place : List Str := ["place"]
abbrev P_check_place : List Str := ["place"]
theorem sc_check_place : FnScope N_check_place P_check_place (defScope s_check_place) := ⟨rfl, rfl, rfl, by decide +kernel, rfl, by decide +kernel, by decide +kernel⟩
abbrev s__is_between : Stmt := top 14
abbrev N__is_between : List Str := ["place", "one", "other"]
abbrev P__is_between : List Str := ["place", "one", "other"]
theorem sc__is_between : FnScope N__is_between P__is_between (defScope s__is_between) := ⟨rfl, rfl, rfl, by decide +kernel, rfl, by decide +kernel, by decide +kernel⟩
abbrev s__fits : Stmt := top 15
abbrev N__fits : List Str := ["places", "index", "place"]
abbrev P__fits : List Str := ["places", "index"]
theorem sc__fits : FnScope N__fits P__fits (defScope s__fits) := ⟨rfl, rfl, rfl, by decide +kernel, rfl, by decide +kernel, by decide +kernel⟩
abbrev s__check_places : Stmt := top 16
abbrev N__check_places : List Str := ["places", "index"]
abbrev P__check_places : List Str := ["places"]
theorem sc__check_places : FnScope N__check_places P__check_places (defScope s__check_places) := ⟨rfl, rfl, rfl, by decide +kernel, rfl, by decide +kernel, by decide +kernel⟩
abbrev s_count_kept : Stmt := top 17
abbrev N_count_kept : List Str := ["places", "place", "kept"]
abbrev P_count_kept : List Str := ["places", "place"]
theorem sc_count_kept : FnScope N_count_kept P_count_kept (defScope s_count_kept) := ⟨rfl, rfl, rfl, by decide +kernel, rfl, by decide +kernel, by decide +kernel⟩
abbrev s_after_move : Stmt := top 18
abbrev N_after_move : List Str := ["places", "place"]
abbrev P_after_move : List Str := ["places", "place"]
theorem sc_after_move : FnScope N_after_move P_after_move (defScope s_after_move) := ⟨rfl, rfl, rfl, by decide +kernel, rfl, by decide +kernel, by decide +kernel⟩
abbrev s_Memory_places : Stmt := inClass (top 19) 1
abbrev N_Memory_places : List Str := ["self"]
abbrev P_Memory_places : List Str := ["self"]
theorem sc_Memory_places : FnScope N_Memory_places P_Memory_places (defScope s_Memory_places) := ⟨rfl, rfl, rfl, by decide +kernel, rfl, by decide +kernel, by decide +kernel⟩
abbrev s_Memory_place : Stmt := inClass (top 19) 2
abbrev N_Memory_place : List Str := ["self"]
abbrev P_Memory_place : List Str := ["self"]
theorem sc_Memory_place : FnScope N_Memory_place P_Memory_place (defScope s_Memory_place) := ⟨rfl, rfl, rfl, by decide +kernel, rfl, by decide +kernel, by decide +kernel⟩
abbrev s_Memory_row : Stmt := inClass (top 19) 3
abbrev N_Memory_row : List Str := ["self"]
abbrev P_Memory_row : List Str := ["self"]
theorem sc_Memory_row : FnScope N_Memory_row P_Memory_row (defScope s_Memory_row) := ⟨rfl, rfl, rfl, by decide +kernel, rfl, by decide +kernel, by decide +kernel⟩
abbrev s_Memory__call_ : Stmt := inClass (top 19) 4
abbrev N_Memory__call_ : List Str := ["self", "place"]
abbrev P_Memory__call_ : List Str := ["self", "place"]
theorem sc_Memory__call_ : FnScope N_Memory__call_ P_Memory__call_ (defScope s_Memory__call_) := ⟨rfl, rfl, rfl, by decide +kernel, rfl, by decide +kernel, by decide +kernel⟩
abbrev s_Memory__len_ : Stmt := inClass (top 19) 5
abbrev N_Memory__len_ : List Str := ["self"]
abbrev P_Memory__len_ : List Str := ["self"]
theorem sc_Memory__len_ : FnScope N_Memory__len_ P_Memory__len_ (defScope s_Memory__len_) := ⟨rfl, rfl, rfl, by decide +kernel, rfl, by decide +kernel, by decide +kernel⟩
abbrev s_Memory__eq_ : Stmt := inClass (top 19) 6
abbrev N_Memory__eq_ : List Str := ["self", "other"]
abbrev P_Memory__eq_ : List Str := ["self", "other"]
theorem sc_Memory__eq_ : FnScope N_Memory__eq_ P_Memory__eq_ (defScope s_Memory__eq_) := ⟨rfl, rfl, rfl, by decide +kernel, rfl, by decide +kernel, by decide +kernel⟩
abbrev s_memory_of : Stmt := top 20
abbrev N_memory_of : List Str := ["row", "places", "place"]
abbrev P_memory_of : List Str := ["row"]
theorem sc_memory_of : FnScope N_memory_of P_memory_of (defScope s_memory_of) := ⟨rfl, rfl, rfl, by decide +kernel, rfl, by decide +kernel, by decide +kernel⟩
abbrev s_Memory__init_ : Stmt := inClass (top 19) 0
abbrev N_Memory__init_ : List Str := ["self", "places"]
abbrev P_Memory__init_ : List Str := ["self", "places"]
theorem sc_Memory__init_ : FnScope N_Memory__init_ P_Memory__init_ (defScope s_Memory__init_) := ⟨rfl, rfl, rfl, by decide +kernel, rfl, by decide +kernel, by decide +kernel⟩
abbrev s__law_below : Stmt := top 23
abbrev N__law_below : List Str := ["_law_d", "_law_limit", "_law_result"]
abbrev P__law_below : List Str := ["_law_d", "_law_limit"]
theorem sc__law_below : FnScope N__law_below P__law_below (defScope s__law_below) := ⟨rfl, rfl, rfl, by decide +kernel, rfl, by decide +kernel, by decide +kernel⟩
abbrev s__law_random : Stmt := top 22
abbrev N__law_random : List Str := ["_law_script", "_law_salt", "_law_seed", "_law_cell"]
abbrev P__law_random : List Str := ["_law_script", "_law_salt"]
theorem sc__law_random : FnScope N__law_random P__law_random (defScope s__law_random) := ⟨rfl, rfl, rfl, by decide +kernel, rfl, by decide +kernel, by decide +kernel⟩
abbrev s__law_memory : Stmt := top 24
abbrev N__law_memory : List Str := ["_law_row", "_law_places", "_law_found", "_law_at", "_law_is_low", "_law_left", "_law_place", "_law_last", "_law_k"]
abbrev P__law_memory : List Str := ["_law_row"]
theorem sc__law_memory : FnScope N__law_memory P__law_memory (defScope s__law_memory) := ⟨rfl, rfl, rfl, by decide +kernel, rfl, by decide +kernel, by decide +kernel⟩
abbrev s_law : Stmt := top 25
abbrev N_law : List Str := ["_law_script", "_law_d", "_law_high", "_law_low", "_law_k", "_law_row", "_law_memory_here", "_law_rows", "_law_count", "_law_one", "_law_longer", "_law_goal", "_law_place"]
abbrev P_law : List Str := ["_law_script"]
theorem sc_law : FnScope N_law P_law (defScope s_law) := ⟨rfl, rfl, rfl, by decide +kernel, rfl, by decide +kernel, by decide +kernel⟩
structure Tx (mg : Str → Option Value) : Prop where
  b_len : mg "len" = none
  b_isinstance : mg "isinstance" = none
  b_min : mg "min" = none
  b_max : mg "max" = none
  b_abs : mg "abs" = none
  b_int : mg "int" = none
  b_bool : mg "bool" = none
  b_list : mg "list" = none
  b_tuple : mg "tuple" = none
  b_range : mg "range" = none
  b_enumerate : mg "enumerate" = none
  g_FARTHEST : Gk mg "FARTHEST" 1000000
  g_LONGEST_ROW : Gk mg "LONGEST_ROW" 1000


abbrev ckOkEq {K : PySem.W.Frag} {c : Z.Cl} {k : Bool} {f : Str} (h : CK K (c.at k) f) : OkEq K c k := ⟨h.nf⟩
abbrev ckOkIs {K : PySem.W.Frag} {c : Z.Cl} {k : Bool} {f : Str} (h : CK K (c.at k) f) : OkIs K c k := ⟨h.cl, h.ha, h.hn, h.htk, h.hm, h.ic, h.ty, h.st⟩
abbrev memOk (ps : List Int) : Prop := okMem ps
abbrev armsOk (al : List (Int × Int)) : Prop := okA al
abbrev preMem (K : PySem.W.Frag) : Pr → Prop := fun F => ∃ ps, F = D K (dT ps) ∧ okMem ps
abbrev preRig (K : PySem.W.Frag) : Pr → Prop := fun F => ∃ arms, F = DPl K (prI arms) ∧ okA arms
theorem preM_of {K : PySem.W.Frag} : ∀ ps, memOk ps → preMem K (D K (dT ps)) := fun ps h => ⟨ps, rfl, h⟩
theorem preR_of {K : PySem.W.Frag} : ∀ al, armsOk al → preRig K (DPl K (prI al)) := fun ps h => ⟨ps, rfl, h⟩
theorem cutW_to (xs : List W) (k : Nat) : cutD xs none (some (k : Int)) = xs.take k := cutD_to xs k
theorem atW {ns : List Int} {i : Int} {z : Int} (h : atI ns i = some z) : atI (ns.map W.int) i = some (.int z) := atI_map h
theorem len_map' {ns : List Int} : (ns.map W.int).length = ns.length := List.length_map ..
/-! ### checks -/
def isNum : W → Int → Int → Bool
  | .int i, lo, hi => decide (lo ≤ i) && decide (i ≤ hi)
  | _, _, _ => false
theorem isNum_pl (x : Int) : isNum (.int x) (-1000000) 1000000 = isPl x := rfl
def isWh : W → Bool
  | .int _ => true
  | _ => false
def x_is_whole_number : XS := .ret (.andV (.fn xIsi (.cons (.var 0) (.cons (.lit (.ty "int")) .nil))) (.notV (.fn xIsi (.cons (.var 0) (.cons (.lit (.ty "bool")) .nil)))))
abbrev F_is_whole_number : XF := ⟨W, 1, fun a => [a], fun a => a.tyn.isSome = true, fun a w => w = .bl (isWh a), by intros; rfl⟩
def x_is_number : XS := .ret (.andV (.call F_is_whole_number (.cons (.var 0) (.nil))) (.chain (fun i j => decide (i ≤ j)) (fun i j => decide (i ≤ j)) (.var 1) (.var 0) (.var 2)))
abbrev F_is_number : XF := ⟨W × Int × Int, 3, fun a => [a.1, .int a.2.1, .int a.2.2], fun a => a.1.tyn.isSome = true, fun a w => w = .bl (isNum a.1 a.2.1 a.2.2), by intros; rfl⟩
section
variable {P : Program} {w : World} {K : PySem.W.Frag} {mg : Str → Option Value} {base : Heap} {c : Z.Cl} {f p : Addr}
theorem ok_is_whole (tx : Tx mg) (d : Dn K mg "is_whole_number" s_is_whole_number P_is_whole_number) : Fx P w K mg base 1 "is_whole_number" (F_is_whole_number.sp K c) := by
  refine d.run (N := N_is_whole_number) (s := x_is_whole_number) sc_is_whole_number rfl ?_ fun f cdv A outer s H E hr => ⟨_, pss_one (ps_ret (pe_and (pe_callB call_isi (by rfl) tx.b_isinstance boot_isinstance (pa_cons (pv 0) (pa_cons (pe_bltn (v := .ty "int") (by rfl) tx.b_int boot_int rfl) pa_nil))) (pe_one (pe_not (pe_callB call_isi (by rfl) tx.b_isinstance boot_isinstance (pa_cons (pv 0) (pa_cons (pe_bltn (v := .ty "bool") (by rfl) tx.b_bool boot_bool rfl) pa_nil))))))),
 es_ret (ev_and (ev_fn (ea_cons (ev_var) (ea_cons ev_ty ea_nil)) en_isi0) (ev_not (ev_fn (ea_cons (ev_var) (ea_cons ev_ty ea_nil)) en_isi0)))⟩
  rintro v Q hp k
  have k := k _ rfl
  have hp : v.tyn.isSome = true := hp
  cases v with
  | int i => simp only [XS.whole, ↓runA, ↓runC, ↓d_seq0, ↓d_seq1, ↓reduceIte, runB, ite_and, Decidable.not_not, forall_eq, List.map_cons, List.map_nil, List.cons_append, List.nil_append, List.replicate_succ, List.replicate_zero, List.append_nil, List.set_cons_zero, List.set_cons_succ, List.getElem?_cons_zero, List.getElem?_cons_succ, Option.some.injEq, List.cons.injEq, exists_and_left, exists_eq_left', exists_eq_left, exists_false, exists_const, forall_eq', forall_eq, ints_inj, Prod.exists, reduceCtorEq, List.length_cons, List.length_nil, implies_true, forall_const, decide_eq_true_eq, decide_eq_false_iff_not, List.getElem?_nil, List.set_nil, if_true, if_false, ite_true, ite_false, eq_self, Prod.mk.injEq, Co.lst.injEq, Co.dct.injEq, Fr.mk.injEq, exists_eq, exists_eq', exists_eq_right, exists_and_right, Nat.zero_le, Nat.zero_add, Nat.reduceAdd, Nat.reduceLT, Nat.reduceLeDiff, Nat.reduceEqDiff, List.mem_cons, List.not_mem_nil, List.nodup_cons, List.nodup_nil, List.forall_mem_cons, forall_eq_or_imp, List.getD_cons_zero, List.getD_cons_succ, List.mem_singleton, ne_eq, List.append_assoc, x_is_whole_number]; exact k
  | arm al =>
    simp only [XS.whole, ↓runA, ↓runC, ↓d_seq0, ↓d_seq1, ↓reduceIte, runB, ite_and, Decidable.not_not, forall_eq, List.map_cons, List.map_nil, List.cons_append, List.nil_append, List.replicate_succ, List.replicate_zero, List.append_nil, List.set_cons_zero, List.set_cons_succ, List.getElem?_cons_zero, List.getElem?_cons_succ, Option.some.injEq, List.cons.injEq, exists_and_left, exists_eq_left', exists_eq_left, exists_false, exists_const, forall_eq', forall_eq, ints_inj, Prod.exists, reduceCtorEq, List.length_cons, List.length_nil, implies_true, forall_const, decide_eq_true_eq, decide_eq_false_iff_not, List.getElem?_nil, List.set_nil, if_true, if_false, ite_true, ite_false, eq_self, Prod.mk.injEq, Co.lst.injEq, Co.dct.injEq, Fr.mk.injEq, exists_eq, exists_eq', exists_eq_right, exists_and_right, Nat.zero_le, Nat.zero_add, Nat.reduceAdd, Nat.reduceLT, Nat.reduceLeDiff, Nat.reduceEqDiff, List.mem_cons, List.not_mem_nil, List.nodup_cons, List.nodup_nil, List.forall_mem_cons, forall_eq_or_imp, List.getD_cons_zero, List.getD_cons_succ, List.mem_singleton, ne_eq, List.append_assoc, x_is_whole_number]
    exact ⟨false, (show L2.kitB "tuple" "int" = some false by decide +kernel), by simp, fun _ => k⟩
  | non => simp only [XS.whole, ↓runA, ↓runC, ↓d_seq0, ↓d_seq1, ↓reduceIte, runB, ite_and, Decidable.not_not, forall_eq, List.map_cons, List.map_nil, List.cons_append, List.nil_append, List.replicate_succ, List.replicate_zero, List.append_nil, List.set_cons_zero, List.set_cons_succ, List.getElem?_cons_zero, List.getElem?_cons_succ, Option.some.injEq, List.cons.injEq, exists_and_left, exists_eq_left', exists_eq_left, exists_false, exists_const, forall_eq', forall_eq, ints_inj, Prod.exists, reduceCtorEq, List.length_cons, List.length_nil, implies_true, forall_const, decide_eq_true_eq, decide_eq_false_iff_not, List.getElem?_nil, List.set_nil, if_true, if_false, ite_true, ite_false, eq_self, Prod.mk.injEq, Co.lst.injEq, Co.dct.injEq, Fr.mk.injEq, exists_eq, exists_eq', exists_eq_right, exists_and_right, Nat.zero_le, Nat.zero_add, Nat.reduceAdd, Nat.reduceLT, Nat.reduceLeDiff, Nat.reduceEqDiff, List.mem_cons, List.not_mem_nil, List.nodup_cons, List.nodup_nil, List.forall_mem_cons, forall_eq_or_imp, List.getD_cons_zero, List.getD_cons_succ, List.mem_singleton, ne_eq, List.append_assoc, x_is_whole_number]; exact k
  | bl b => simp only [XS.whole, ↓runA, ↓runC, ↓d_seq0, ↓d_seq1, ↓reduceIte, runB, ite_and, Decidable.not_not, forall_eq, List.map_cons, List.map_nil, List.cons_append, List.nil_append, List.replicate_succ, List.replicate_zero, List.append_nil, List.set_cons_zero, List.set_cons_succ, List.getElem?_cons_zero, List.getElem?_cons_succ, Option.some.injEq, List.cons.injEq, exists_and_left, exists_eq_left', exists_eq_left, exists_false, exists_const, forall_eq', forall_eq, ints_inj, Prod.exists, reduceCtorEq, List.length_cons, List.length_nil, implies_true, forall_const, decide_eq_true_eq, decide_eq_false_iff_not, List.getElem?_nil, List.set_nil, if_true, if_false, ite_true, ite_false, eq_self, Prod.mk.injEq, Co.lst.injEq, Co.dct.injEq, Fr.mk.injEq, exists_eq, exists_eq', exists_eq_right, exists_and_right, Nat.zero_le, Nat.zero_add, Nat.reduceAdd, Nat.reduceLT, Nat.reduceLeDiff, Nat.reduceEqDiff, List.mem_cons, List.not_mem_nil, List.nodup_cons, List.nodup_nil, List.forall_mem_cons, forall_eq_or_imp, List.getD_cons_zero, List.getD_cons_succ, List.mem_singleton, ne_eq, List.append_assoc, x_is_whole_number]; exact k
  | str b => simp only [XS.whole, ↓runA, ↓runC, ↓d_seq0, ↓d_seq1, ↓reduceIte, runB, ite_and, Decidable.not_not, forall_eq, List.map_cons, List.map_nil, List.cons_append, List.nil_append, List.replicate_succ, List.replicate_zero, List.append_nil, List.set_cons_zero, List.set_cons_succ, List.getElem?_cons_zero, List.getElem?_cons_succ, Option.some.injEq, List.cons.injEq, exists_and_left, exists_eq_left', exists_eq_left, exists_false, exists_const, forall_eq', forall_eq, ints_inj, Prod.exists, reduceCtorEq, List.length_cons, List.length_nil, implies_true, forall_const, decide_eq_true_eq, decide_eq_false_iff_not, List.getElem?_nil, List.set_nil, if_true, if_false, ite_true, ite_false, eq_self, Prod.mk.injEq, Co.lst.injEq, Co.dct.injEq, Fr.mk.injEq, exists_eq, exists_eq', exists_eq_right, exists_and_right, Nat.zero_le, Nat.zero_add, Nat.reduceAdd, Nat.reduceLT, Nat.reduceLeDiff, Nat.reduceEqDiff, List.mem_cons, List.not_mem_nil, List.nodup_cons, List.nodup_nil, List.forall_mem_cons, forall_eq_or_imp, List.getD_cons_zero, List.getD_cons_succ, List.mem_singleton, ne_eq, List.append_assoc, x_is_whole_number]; exact k
  | lst b => simp only [XS.whole, ↓runA, ↓runC, ↓d_seq0, ↓d_seq1, ↓reduceIte, runB, ite_and, Decidable.not_not, forall_eq, List.map_cons, List.map_nil, List.cons_append, List.nil_append, List.replicate_succ, List.replicate_zero, List.append_nil, List.set_cons_zero, List.set_cons_succ, List.getElem?_cons_zero, List.getElem?_cons_succ, Option.some.injEq, List.cons.injEq, exists_and_left, exists_eq_left', exists_eq_left, exists_false, exists_const, forall_eq', forall_eq, ints_inj, Prod.exists, reduceCtorEq, List.length_cons, List.length_nil, implies_true, forall_const, decide_eq_true_eq, decide_eq_false_iff_not, List.getElem?_nil, List.set_nil, if_true, if_false, ite_true, ite_false, eq_self, Prod.mk.injEq, Co.lst.injEq, Co.dct.injEq, Fr.mk.injEq, exists_eq, exists_eq', exists_eq_right, exists_and_right, Nat.zero_le, Nat.zero_add, Nat.reduceAdd, Nat.reduceLT, Nat.reduceLeDiff, Nat.reduceEqDiff, List.mem_cons, List.not_mem_nil, List.nodup_cons, List.nodup_nil, List.forall_mem_cons, forall_eq_or_imp, List.getD_cons_zero, List.getD_cons_succ, List.mem_singleton, ne_eq, List.append_assoc, x_is_whole_number]; exact k
  | tup b => simp only [XS.whole, ↓runA, ↓runC, ↓d_seq0, ↓d_seq1, ↓reduceIte, runB, ite_and, Decidable.not_not, forall_eq, List.map_cons, List.map_nil, List.cons_append, List.nil_append, List.replicate_succ, List.replicate_zero, List.append_nil, List.set_cons_zero, List.set_cons_succ, List.getElem?_cons_zero, List.getElem?_cons_succ, Option.some.injEq, List.cons.injEq, exists_and_left, exists_eq_left', exists_eq_left, exists_false, exists_const, forall_eq', forall_eq, ints_inj, Prod.exists, reduceCtorEq, List.length_cons, List.length_nil, implies_true, forall_const, decide_eq_true_eq, decide_eq_false_iff_not, List.getElem?_nil, List.set_nil, if_true, if_false, ite_true, ite_false, eq_self, Prod.mk.injEq, Co.lst.injEq, Co.dct.injEq, Fr.mk.injEq, exists_eq, exists_eq', exists_eq_right, exists_and_right, Nat.zero_le, Nat.zero_add, Nat.reduceAdd, Nat.reduceLT, Nat.reduceLeDiff, Nat.reduceEqDiff, List.mem_cons, List.not_mem_nil, List.nodup_cons, List.nodup_nil, List.forall_mem_cons, forall_eq_or_imp, List.getD_cons_zero, List.getD_cons_succ, List.mem_singleton, ne_eq, List.append_assoc, x_is_whole_number]; exact k
  | _ => cases hp
theorem ok_is_number (tx : Tx mg) (d : Dn K mg "is_number" s_is_number P_is_number) (c_is_whole_number : Fx P w K mg base 1 "is_whole_number" (F_is_whole_number.sp K c)) : Fx P w K mg base 2 "is_number" (F_is_number.sp K c) := by
  refine d.run (N := N_is_number) (s := x_is_number) sc_is_number rfl ?_ fun f cdv A outer s H E hr => ⟨_, pss_one (ps_ret (pe_and (pe_f c_is_whole_number hr (by first | exact Nat.le_refl _ | decide | omega) rfl (pa_cons (pv 0) (pa_nil))) (pe_one (pe_chain op_le op_le (pv 1) (pv 0) (pv 2))))),
 es_ret (ev_and (ev_call (ea_cons (ev_var) (ea_nil))) (ev_chain (ev_var) (ev_var) (ev_var)))⟩
  rintro ⟨v, lo, hi⟩ Q hp k
  have k := k _ rfl
  have hp : v.tyn.isSome = true := hp
  cases v with
  | int i =>
    simp only [XS.whole, ↓runA, ↓runC, ↓d_seq0, ↓d_seq1, ↓reduceIte, runB, ite_and, Decidable.not_not, forall_eq, List.map_cons, List.map_nil, List.cons_append, List.nil_append, List.replicate_succ, List.replicate_zero, List.append_nil, List.set_cons_zero, List.set_cons_succ, List.getElem?_cons_zero, List.getElem?_cons_succ, Option.some.injEq, List.cons.injEq, exists_and_left, exists_eq_left', exists_eq_left, exists_false, exists_const, forall_eq', forall_eq, ints_inj, Prod.exists, reduceCtorEq, List.length_cons, List.length_nil, implies_true, forall_const, decide_eq_true_eq, decide_eq_false_iff_not, List.getElem?_nil, List.set_nil, if_true, if_false, ite_true, ite_false, eq_self, Prod.mk.injEq, Co.lst.injEq, Co.dct.injEq, Fr.mk.injEq, exists_eq, exists_eq', exists_eq_right, exists_and_right, Nat.zero_le, Nat.zero_add, Nat.reduceAdd, Nat.reduceLT, Nat.reduceLeDiff, Nat.reduceEqDiff, List.mem_cons, List.not_mem_nil, List.nodup_cons, List.nodup_nil, List.forall_mem_cons, forall_eq_or_imp, List.getD_cons_zero, List.getD_cons_succ, List.mem_singleton, ne_eq, List.append_assoc, x_is_number]
    refine ⟨rfl, fun _ => ⟨fun h => ?_, fun h => ?_⟩, fun h => by cases h⟩
    · have : isNum (.int i) lo hi = decide (i ≤ hi) := by show (decide (lo ≤ i) && decide (i ≤ hi)) = _; rw [decide_eq_true h]; rfl
      rw [← this]; exact k
    · have : isNum (.int i) lo hi = false := by show (decide (lo ≤ i) && decide (i ≤ hi)) = _; rw [decide_eq_false h]; rfl
      rw [← this]; exact k
  | arm al => simp only [XS.whole, ↓runA, ↓runC, ↓d_seq0, ↓d_seq1, ↓reduceIte, runB, ite_and, Decidable.not_not, forall_eq, List.map_cons, List.map_nil, List.cons_append, List.nil_append, List.replicate_succ, List.replicate_zero, List.append_nil, List.set_cons_zero, List.set_cons_succ, List.getElem?_cons_zero, List.getElem?_cons_succ, Option.some.injEq, List.cons.injEq, exists_and_left, exists_eq_left', exists_eq_left, exists_false, exists_const, forall_eq', forall_eq, ints_inj, Prod.exists, reduceCtorEq, List.length_cons, List.length_nil, implies_true, forall_const, decide_eq_true_eq, decide_eq_false_iff_not, List.getElem?_nil, List.set_nil, if_true, if_false, ite_true, ite_false, eq_self, Prod.mk.injEq, Co.lst.injEq, Co.dct.injEq, Fr.mk.injEq, exists_eq, exists_eq', exists_eq_right, exists_and_right, Nat.zero_le, Nat.zero_add, Nat.reduceAdd, Nat.reduceLT, Nat.reduceLeDiff, Nat.reduceEqDiff, List.mem_cons, List.not_mem_nil, List.nodup_cons, List.nodup_nil, List.forall_mem_cons, forall_eq_or_imp, List.getD_cons_zero, List.getD_cons_succ, List.mem_singleton, ne_eq, List.append_assoc, x_is_number]; exact ⟨rfl, (by intro h; cases h), fun _ => k⟩
  | non => simp only [XS.whole, ↓runA, ↓runC, ↓d_seq0, ↓d_seq1, ↓reduceIte, runB, ite_and, Decidable.not_not, forall_eq, List.map_cons, List.map_nil, List.cons_append, List.nil_append, List.replicate_succ, List.replicate_zero, List.append_nil, List.set_cons_zero, List.set_cons_succ, List.getElem?_cons_zero, List.getElem?_cons_succ, Option.some.injEq, List.cons.injEq, exists_and_left, exists_eq_left', exists_eq_left, exists_false, exists_const, forall_eq', forall_eq, ints_inj, Prod.exists, reduceCtorEq, List.length_cons, List.length_nil, implies_true, forall_const, decide_eq_true_eq, decide_eq_false_iff_not, List.getElem?_nil, List.set_nil, if_true, if_false, ite_true, ite_false, eq_self, Prod.mk.injEq, Co.lst.injEq, Co.dct.injEq, Fr.mk.injEq, exists_eq, exists_eq', exists_eq_right, exists_and_right, Nat.zero_le, Nat.zero_add, Nat.reduceAdd, Nat.reduceLT, Nat.reduceLeDiff, Nat.reduceEqDiff, List.mem_cons, List.not_mem_nil, List.nodup_cons, List.nodup_nil, List.forall_mem_cons, forall_eq_or_imp, List.getD_cons_zero, List.getD_cons_succ, List.mem_singleton, ne_eq, List.append_assoc, x_is_number]; exact ⟨rfl, (by intro h; cases h), fun _ => k⟩
  | bl b => simp only [XS.whole, ↓runA, ↓runC, ↓d_seq0, ↓d_seq1, ↓reduceIte, runB, ite_and, Decidable.not_not, forall_eq, List.map_cons, List.map_nil, List.cons_append, List.nil_append, List.replicate_succ, List.replicate_zero, List.append_nil, List.set_cons_zero, List.set_cons_succ, List.getElem?_cons_zero, List.getElem?_cons_succ, Option.some.injEq, List.cons.injEq, exists_and_left, exists_eq_left', exists_eq_left, exists_false, exists_const, forall_eq', forall_eq, ints_inj, Prod.exists, reduceCtorEq, List.length_cons, List.length_nil, implies_true, forall_const, decide_eq_true_eq, decide_eq_false_iff_not, List.getElem?_nil, List.set_nil, if_true, if_false, ite_true, ite_false, eq_self, Prod.mk.injEq, Co.lst.injEq, Co.dct.injEq, Fr.mk.injEq, exists_eq, exists_eq', exists_eq_right, exists_and_right, Nat.zero_le, Nat.zero_add, Nat.reduceAdd, Nat.reduceLT, Nat.reduceLeDiff, Nat.reduceEqDiff, List.mem_cons, List.not_mem_nil, List.nodup_cons, List.nodup_nil, List.forall_mem_cons, forall_eq_or_imp, List.getD_cons_zero, List.getD_cons_succ, List.mem_singleton, ne_eq, List.append_assoc, x_is_number]; exact ⟨rfl, (by intro h; cases h), fun _ => k⟩
  | str b => simp only [XS.whole, ↓runA, ↓runC, ↓d_seq0, ↓d_seq1, ↓reduceIte, runB, ite_and, Decidable.not_not, forall_eq, List.map_cons, List.map_nil, List.cons_append, List.nil_append, List.replicate_succ, List.replicate_zero, List.append_nil, List.set_cons_zero, List.set_cons_succ, List.getElem?_cons_zero, List.getElem?_cons_succ, Option.some.injEq, List.cons.injEq, exists_and_left, exists_eq_left', exists_eq_left, exists_false, exists_const, forall_eq', forall_eq, ints_inj, Prod.exists, reduceCtorEq, List.length_cons, List.length_nil, implies_true, forall_const, decide_eq_true_eq, decide_eq_false_iff_not, List.getElem?_nil, List.set_nil, if_true, if_false, ite_true, ite_false, eq_self, Prod.mk.injEq, Co.lst.injEq, Co.dct.injEq, Fr.mk.injEq, exists_eq, exists_eq', exists_eq_right, exists_and_right, Nat.zero_le, Nat.zero_add, Nat.reduceAdd, Nat.reduceLT, Nat.reduceLeDiff, Nat.reduceEqDiff, List.mem_cons, List.not_mem_nil, List.nodup_cons, List.nodup_nil, List.forall_mem_cons, forall_eq_or_imp, List.getD_cons_zero, List.getD_cons_succ, List.mem_singleton, ne_eq, List.append_assoc, x_is_number]; exact ⟨rfl, (by intro h; cases h), fun _ => k⟩
  | lst b => simp only [XS.whole, ↓runA, ↓runC, ↓d_seq0, ↓d_seq1, ↓reduceIte, runB, ite_and, Decidable.not_not, forall_eq, List.map_cons, List.map_nil, List.cons_append, List.nil_append, List.replicate_succ, List.replicate_zero, List.append_nil, List.set_cons_zero, List.set_cons_succ, List.getElem?_cons_zero, List.getElem?_cons_succ, Option.some.injEq, List.cons.injEq, exists_and_left, exists_eq_left', exists_eq_left, exists_false, exists_const, forall_eq', forall_eq, ints_inj, Prod.exists, reduceCtorEq, List.length_cons, List.length_nil, implies_true, forall_const, decide_eq_true_eq, decide_eq_false_iff_not, List.getElem?_nil, List.set_nil, if_true, if_false, ite_true, ite_false, eq_self, Prod.mk.injEq, Co.lst.injEq, Co.dct.injEq, Fr.mk.injEq, exists_eq, exists_eq', exists_eq_right, exists_and_right, Nat.zero_le, Nat.zero_add, Nat.reduceAdd, Nat.reduceLT, Nat.reduceLeDiff, Nat.reduceEqDiff, List.mem_cons, List.not_mem_nil, List.nodup_cons, List.nodup_nil, List.forall_mem_cons, forall_eq_or_imp, List.getD_cons_zero, List.getD_cons_succ, List.mem_singleton, ne_eq, List.append_assoc, x_is_number]; exact ⟨hp, (by intro h; cases h), fun _ => k⟩
  | tup b => simp only [XS.whole, ↓runA, ↓runC, ↓d_seq0, ↓d_seq1, ↓reduceIte, runB, ite_and, Decidable.not_not, forall_eq, List.map_cons, List.map_nil, List.cons_append, List.nil_append, List.replicate_succ, List.replicate_zero, List.append_nil, List.set_cons_zero, List.set_cons_succ, List.getElem?_cons_zero, List.getElem?_cons_succ, Option.some.injEq, List.cons.injEq, exists_and_left, exists_eq_left', exists_eq_left, exists_false, exists_const, forall_eq', forall_eq, ints_inj, Prod.exists, reduceCtorEq, List.length_cons, List.length_nil, implies_true, forall_const, decide_eq_true_eq, decide_eq_false_iff_not, List.getElem?_nil, List.set_nil, if_true, if_false, ite_true, ite_false, eq_self, Prod.mk.injEq, Co.lst.injEq, Co.dct.injEq, Fr.mk.injEq, exists_eq, exists_eq', exists_eq_right, exists_and_right, Nat.zero_le, Nat.zero_add, Nat.reduceAdd, Nat.reduceLT, Nat.reduceLeDiff, Nat.reduceEqDiff, List.mem_cons, List.not_mem_nil, List.nodup_cons, List.nodup_nil, List.forall_mem_cons, forall_eq_or_imp, List.getD_cons_zero, List.getD_cons_succ, List.mem_singleton, ne_eq, List.append_assoc, x_is_number]; exact ⟨hp, (by intro h; cases h), fun _ => k⟩
  | _ => cases hp
end
def x_is_place : XS := .ret (.call F_is_number (.cons (.var 0) (.cons (.un .neg (.lit (.int 1000000))) (.cons (.lit (.int 1000000)) (.nil)))))
abbrev F_is_place : XF := ⟨W, 1, fun a => [a], fun a => a.tyn.isSome = true, fun a w => w = .bl (isNum a (-1000000) 1000000), by intros; rfl⟩
def x_check_row : XS := .seq (.ifs (.not (.val (.fn xIsi (.cons (.var 0) (.cons (.lit (.ty "list")) .nil))))) (.never) (.next))
 (.forr (.enum (.cons (.var 0) (.nil))) (.tup (.cons (.name 1) (.cons (.name 2) (.nil)))) (.ifs (.or (.val (.op oGe (.var 1) (.lit (.int 1000)))) (.not (.val (.call F_is_place (.cons (.var 2) (.nil)))))) (.never) (.next)))
abbrev F_check_row : XF := ⟨List Int, 1, fun a => [.lst (a.map .int)], fun a => a.length ≤ 1000 ∧ ∀ x ∈ a, isPl x = true, fun a w => w = .non, by intros; rfl⟩
section
variable {P : Program} {w : World} {K : PySem.W.Frag} {mg : Str → Option Value} {base : Heap} {c : Z.Cl} {f p : Addr}
theorem ok_is_place (tx : Tx mg) (d : Dn K mg "is_place" s_is_place P_is_place) (c_is_number : Fx P w K mg base 2 "is_number" (F_is_number.sp K c)) : Fx P w K mg base 3 "is_place" (F_is_place.sp K c) := by
  refine d.run (N := N_is_place) (s := x_is_place) sc_is_place rfl ?_ fun f cdv A outer s H E hr => ⟨_, pss_one (ps_ret (pe_f c_is_number hr (by first | exact Nat.le_refl _ | decide | omega) rfl (pa_cons (pv 0) (pa_cons (pe_un un_neg (pe_gK rfl tx.g_FARTHEST)) (pa_cons (pe_gK rfl tx.g_FARTHEST) (pa_nil)))))),
 es_ret (ev_call (ea_cons (ev_var) (ea_cons (ev_un (ev_int) eu_neg) (ea_cons (ev_int) (ea_nil)))))⟩
  rintro v Q hp k
  have k := k _ rfl
  simp only [XS.whole, ↓runA, ↓runC, ↓d_seq0, ↓d_seq1, ↓reduceIte, runB, ite_and, Decidable.not_not, forall_eq, List.map_cons, List.map_nil, List.cons_append, List.nil_append, List.replicate_succ, List.replicate_zero, List.append_nil, List.set_cons_zero, List.set_cons_succ, List.getElem?_cons_zero, List.getElem?_cons_succ, Option.some.injEq, List.cons.injEq, exists_and_left, exists_eq_left', exists_eq_left, exists_false, exists_const, forall_eq', forall_eq, ints_inj, Prod.exists, reduceCtorEq, List.length_cons, List.length_nil, implies_true, forall_const, decide_eq_true_eq, decide_eq_false_iff_not, List.getElem?_nil, List.set_nil, if_true, if_false, ite_true, ite_false, eq_self, Prod.mk.injEq, Co.lst.injEq, Co.dct.injEq, Fr.mk.injEq, exists_eq, exists_eq', exists_eq_right, exists_and_right, Nat.zero_le, Nat.zero_add, Nat.reduceAdd, Nat.reduceLT, Nat.reduceLeDiff, Nat.reduceEqDiff, List.mem_cons, List.not_mem_nil, List.nodup_cons, List.nodup_nil, List.forall_mem_cons, forall_eq_or_imp, List.getD_cons_zero, List.getD_cons_succ, List.mem_singleton, ne_eq, List.append_assoc, x_is_place]
  exact ⟨hp, k⟩
theorem ok_check_row (tx : Tx mg) (d : Dn K mg "check_row" s_check_row P_check_row) (c_is_place : Fx P w K mg base 3 "is_place" (F_is_place.sp K c)) : Fx P w K mg base 4 "check_row" (F_check_row.sp K c) := by
  refine d.run (N := N_check_row) (s := x_check_row) sc_check_row rfl ?_ fun f cdv A outer s H E hr => ⟨_, pss_cons (ps_if (pt_not (pt_val (pe_callB call_isi (by rfl) tx.b_isinstance boot_isinstance (pa_cons (pv 0) (pa_cons (pe_bltn (v := .ty "list") (by rfl) tx.b_list boot_list rfl) pa_nil))))) (pss_one (ps_never)) (pss_nil))
 (pss_one (ps_for PassesOwn.never rfl (pi_enum (by rfl) tx.b_enumerate (pa_cons (pv 0) (pa_nil))) (pg_tup rfl (pgs_cons (pg_name (i := 1) sc_check_row.nd rfl (Or.inl rfl)) (pgs_cons (pg_name (i := 2) sc_check_row.nd rfl (Or.inl rfl)) (pgs_nil)))) (pss_one (ps_if ((PW.pt (pw_or (pt_cmpR op_ge (pv 1) (pe_gK rfl tx.g_LONGEST_ROW) (nomark _)) (pw_or1 (pt_not (pt_val (pe_f c_is_place hr (by first | exact Nat.le_refl _ | decide | omega) rfl (pa_cons (pv 2) (pa_nil))))))))) (pss_one (ps_never)) (pss_nil))))),
 es_seq (es_if (et_not (et_b (ev_fn (ea_cons (ev_var) (ea_cons ev_ty ea_nil)) en_isi0))) (es_never) (es_next))
 (es_for (ei_enum (ea_cons (ev_var) (ea_nil))) (eg_tup (egs_cons (eg_name) (egs_cons (eg_name) (egs_nil))) (by rintro ws ρ Q ⟨_, _, rfl, _, _, rfl, rfl, -⟩; rfl)) (es_if (et_or (et_test (ev_op (ev_var) (ev_int) eo_B)) (et_not (et_b (ev_call (ea_cons (ev_var) (ea_nil)))))) (es_never) (es_next)))⟩
  rintro ns Q ⟨hl, hp⟩ k
  have k : Q .non := k _ rfl
  simp only [XS.whole, ↓runA, ↓runC, ↓d_seq0, ↓d_seq1, ↓reduceIte, runB, ite_and, Decidable.not_not, forall_eq, List.map_cons, List.map_nil, List.cons_append, List.nil_append, List.replicate_succ, List.replicate_zero, List.append_nil, List.set_cons_zero, List.set_cons_succ, List.getElem?_cons_zero, List.getElem?_cons_succ, Option.some.injEq, List.cons.injEq, exists_and_left, exists_eq_left', exists_eq_left, exists_false, exists_const, forall_eq', forall_eq, ints_inj, Prod.exists, reduceCtorEq, List.length_cons, List.length_nil, implies_true, forall_const, decide_eq_true_eq, decide_eq_false_iff_not, List.getElem?_nil, List.set_nil, if_true, if_false, ite_true, ite_false, eq_self, Prod.mk.injEq, Co.lst.injEq, Co.dct.injEq, Fr.mk.injEq, exists_eq, exists_eq', exists_eq_right, exists_and_right, Nat.zero_le, Nat.zero_add, Nat.reduceAdd, Nat.reduceLT, Nat.reduceLeDiff, Nat.reduceEqDiff, List.mem_cons, List.not_mem_nil, List.nodup_cons, List.nodup_nil, List.forall_mem_cons, forall_eq_or_imp, List.getD_cons_zero, List.getD_cons_succ, List.mem_singleton, ne_eq, List.append_assoc, x_check_row]
  refine ⟨fun i φ => ∃ a b, φ = ⟨[some (.lst (ns.map .int)), a, b], none⟩, ⟨_, _, rfl⟩, ?_, fun φ _ => k⟩
  rintro i w φ hw ⟨a, b, rfl⟩
  obtain ⟨x, hx, rfl⟩ := enumW_at hw
  obtain ⟨z, hz, rfl⟩ := mapW_at hx
  have hi := (List.getElem?_eq_some_iff.mp hz).1
  have hpl := hp z (List.mem_of_getElem? hz)
  simp only [XS.whole, ↓runA, ↓runC, ↓d_seq0, ↓d_seq1, ↓reduceIte, runB, ite_and, Decidable.not_not, forall_eq, List.map_cons, List.map_nil, List.cons_append, List.nil_append, List.replicate_succ, List.replicate_zero, List.append_nil, List.set_cons_zero, List.set_cons_succ, List.getElem?_cons_zero, List.getElem?_cons_succ, Option.some.injEq, List.cons.injEq, exists_and_left, exists_eq_left', exists_eq_left, exists_false, exists_const, forall_eq', forall_eq, ints_inj, Prod.exists, reduceCtorEq, List.length_cons, List.length_nil, implies_true, forall_const, decide_eq_true_eq, decide_eq_false_iff_not, List.getElem?_nil, List.set_nil, if_true, if_false, ite_true, ite_false, eq_self, Prod.mk.injEq, Co.lst.injEq, Co.dct.injEq, Fr.mk.injEq, exists_eq, exists_eq', exists_eq_right, exists_and_right, Nat.zero_le, Nat.zero_add, Nat.reduceAdd, Nat.reduceLT, Nat.reduceLeDiff, Nat.reduceEqDiff, List.mem_cons, List.not_mem_nil, List.nodup_cons, List.nodup_nil, List.forall_mem_cons, forall_eq_or_imp, List.getD_cons_zero, List.getD_cons_succ, List.mem_singleton, ne_eq, List.append_assoc]
  rw [isNum_pl, hpl]
  exact ⟨by omega, fun _ => ⟨rfl, nofun⟩⟩
end
/-! ### rods and sums of rods -/
/-- a row is a list or a tuple of places -/
def seqW (t : Bool) (ns : List Int) : W := if t = true then .lst (ns.map .int) else .tup (ns.map .int)
theorem seqW_it {t : Bool} {ns : List Int} {R : List W → Prop} (h : R (ns.map .int)) : (∃ xs, (seqW t ns).itL = some xs ∧ R xs) ∨ ∃ xs, (seqW t ns).itT = some xs ∧ R xs := by
  cases t with
  | true => exact .inl ⟨_, rfl, h⟩
  | false => exact .inr ⟨_, rfl, h⟩
section
variable {P : Program} {w : World} {K : PySem.W.Frag} {mg : Str → Option Value} {base : Heap} {c : Z.Cl} {f p : Addr}
theorem addE_eq : ∀ (c : Int) (es fs : List Int), es.length = fs.length → addE c es fs = (List.range es.length).map fun k => es.getD k 0 + c * fs.getD k 0 := by
  intro c es
  induction es with
  | nil => intro fs h; cases fs <;> first | rfl | (simp at h)
  | cons e es ih =>
    intro fs h
    cases fs with
    | nil => simp at h
    | cons f fs =>
      show (e + c * f) :: addE c es fs = (List.range (es.length + 1)).map _
      rw [ih fs (by simpa using h), List.range_succ_eq_map, List.map_cons, List.map_map]
      rfl
theorem armsEs_take {ps init : List Int} {al : List (Int × Int)} {i : Nat} {a : Int × Int} (h : al[i]? = some a) : armsEs ps init (al.take (i + 1)) = addE a.2 (armsEs ps init (al.take i)) (rodEs a.1 0 ps) := by
  unfold armsEs
  rw [List.take_add_one, h, List.foldl_append]; rfl
theorem getD_of {ns : List Int} {i : Nat} {x : Int} (h : ns[i]? = some x) : ns.getD i 0 = x := by rw [List.getD_eq_getElem?_getD, h]; rfl
end
/-! ### the class of rigs -/
abbrev okSumW (one other : List (Int × Int)) (n : Int) : Prop := sumP (one, other, n) ∧ ∀ r, Nrm r → (∀ k, cf r k = cf one k + n * cf other k) → okA r
abbrev sumW (one other : List (Int × Int)) (n : Int) (w : W) : Prop := ∃ r, (Nrm r ∧ ∀ k, cf r k = cf one k + n * cf other k) ∧ w = .rig r
section
variable {P : Program} {w : World} {K : PySem.W.Frag} {mg : Str → Option Value} {base : Heap} {c : Z.Cl} {f p : Addr}
end
/-! ### memories -/
theorem pl_intsT (ns : List Int) : Pl 60 (.tup (ns.map .int)) := fun x hx => by
  obtain ⟨n, _, rfl⟩ := List.mem_map.mp hx
  exact trivial
theorem cutW_from (xs : List W) (k : Nat) : cutD xs (some (k : Int)) none = xs.drop k := cutD_from xs k
def x_check_place : XS := .ifs (.not (.val (.call F_is_place (.cons (.var 0) (.nil))))) (.never) (.next)
abbrev F_check_place : XF := ⟨Int, 1, fun a => [.int a], fun a => isPl a = true, fun a w => w = .non, by intros; rfl⟩
def x__is_between : XS := .ret (.chain (fun i j => decide (i < j)) (fun i j => decide (i < j)) (.fn (.ii fun i j => .int (min i j)) (.cons (.var 1) (.cons (.var 2) (.nil)))) (.var 0) (.fn (.ii fun i j => .int (max i j)) (.cons (.var 1) (.cons (.var 2) (.nil)))))
abbrev F__is_between : XF := ⟨Int × Int × Int, 3, fun a => [.int a.1, .int a.2.1, .int a.2.2], fun a => True, fun a w => w = .bl (btw a.1 a.2.1 a.2.2), by intros; rfl⟩
def x__fits : XS := .seq (.asg (.name 2) (.op oIx (.var 0) (.var 1)))
 (.seq (.ifs (.not (.val (.call F_is_place (.cons (.var 2) (.nil))))) (.ret (.lit (.bl false))) (.next))
 (.seq (.ifs (.val (.op oEq (.var 1) (.lit (.int 0)))) (.ret (.op oLe (.var 2) (.lit (.int 0)))) (.next))
 (.seq (.ifs (.val (.op oEq (.var 1) (.lit (.int 1)))) (.ret (.op oGt (.var 2) (.op oIx (.var 0) (.lit (.int 0))))) (.next))
 (.ret (.call F__is_between (.cons (.var 2) (.cons (.op oIx (.var 0) (.op oSub (.var 1) (.lit (.int 2)))) (.cons (.op oIx (.var 0) (.op oSub (.var 1) (.lit (.int 1)))) (.nil)))))))))
abbrev F__fits : XF := ⟨List Int × Nat, 2, fun a => [.tup (a.1.map .int), .int (a.2 : Int)], fun a => a.2 < a.1.length, fun a w => w = .bl (fitB a.1 a.2), by intros; rfl⟩
def x__check_places : XS := .seq (.ifs (.or (.not (.val (.fn xIsi (.cons (.var 0) (.cons (.lit (.ty "tuple")) .nil))))) (.val (.op oEq (.fn .len (.cons (.var 0) (.nil))) (.lit (.int 0))))) (.never) (.next))
 (.forr (.rng1 (.cons (.fn .len (.cons (.var 0) (.nil))) (.nil))) (.name 1) (.ifs (.not (.val (.call F__fits (.cons (.var 0) (.cons (.var 1) (.nil)))))) (.never) (.next)))
abbrev F__check_places : XF := ⟨List Int, 1, fun a => [.tup (a.map .int)], fun a => okMem a, fun a w => w = .non, by intros; rfl⟩
def keptN (ps : List Int) (p : Int) : Nat := if p ≤ ps.getD 0 0 then 0 else runL p ps + 1
theorem aft_kept (ps : List Int) (p : Int) : aft ps p = ps.take (keptN ps p) ++ [p] := by
  unfold aft keptN
  by_cases h : p ≤ ps.getD 0 0
  · rw [if_pos h, if_pos h]; rfl
  · rw [if_neg h, if_neg h]
def x_count_kept : XS := .seq (.ifs (.val (.op oLe (.var 1) (.op oIx (.var 0) (.lit (.int 0))))) (.ret (.lit (.int 0))) (.next))
 (.seq (.asg (.name 2) (.lit (.int 1)))
 (.seq (.whil (.and (.val (.op oLt (.var 2) (.fn .len (.cons (.var 0) (.nil))))) (.val (.call F__is_between (.cons (.var 1) (.cons (.op oIx (.var 0) (.op oSub (.var 2) (.lit (.int 1)))) (.cons (.op oIx (.var 0) (.var 2)) (.nil))))))) (.aug 2 (fun i j => i + j) (.lit (.int 1))))
 (.ret (.var 2))))
abbrev F_count_kept : XF := ⟨Bool × List Int × Int, 2, fun a => [seqW a.1 a.2.1, .int a.2.2], fun a => a.2.1 ≠ [] ∧ a.2.1.length ≤ 5000, fun a w => w = .int (keptN a.2.1 a.2.2 : Int), by intros; rfl⟩
def x_after_move : XS := .ret (.op oAdd (.sl (.var 0) .no (.at (.call F_count_kept (.cons (.var 0) (.cons (.var 1) (.nil)))))) (.tup (.cons (.var 1) (.nil))))
abbrev F_after_move : XF := ⟨List Int × Int, 2, fun a => [.tup (a.1.map .int), .int a.2], fun a => a.1 ≠ [] ∧ a.1.length ≤ 5000, fun a w => w = .tup ((aft a.1 a.2).map .int), by intros; rfl⟩
def x_Memory_places : XS := .ret (.fld false (.var 0))
abbrev F_places : XF := ⟨List Int, 1, fun a => [.mem a], fun _ => True, fun a w => w = .tup (a.map .int), by intros; rfl⟩
def x_Memory_place : XS := .ret (.op oIx (.fld false (.var 0)) (.un .neg (.lit (.int 1))))
abbrev F_place : XF := ⟨List Int, 1, fun a => [.mem a], fun a => a ≠ [], fun a w => w = .int (a.getLastD 0), by intros; rfl⟩
def x_Memory_row : XS := .seq (.ifs (.val (.op oEq (.op oIx (.fld false (.var 0)) (.lit (.int 0))) (.lit (.int 0)))) (.ret (.fn .list (.cons (.sl (.fld false (.var 0)) (.at (.lit (.int 1))) .no) (.nil)))) (.next))
 (.ret (.fn .list (.cons (.fld false (.var 0)) (.nil))))
abbrev F_row : XF := ⟨List Int, 1, fun a => [.mem a], fun a => a ≠ [] ∧ a.length ≤ 5000, fun a w => w = .lst ((rowM a).map .int), by intros; rfl⟩
def x_Memory__call_ : XS := .seq (.drop (.call F_check_place (.cons (.var 1) (.nil))))
 (.ret (.mkMem memOk (.call F_after_move (.cons (.fld false (.var 0)) (.cons (.var 1) (.nil))))))
abbrev F_mcall : XF := ⟨List Int × Int, 2, fun a => [.mem a.1, .int a.2], fun a => okMem a.1 ∧ a.1.length < 5000 ∧ isPl a.2 = true, fun a w => w = .mem (aft a.1 a.2), by intros; rfl⟩
def x_Memory__len_ : XS := .ret (.fn .len (.cons (.fld false (.var 0)) (.nil)))
abbrev F_mlen : XF := ⟨List Int, 1, fun a => [.mem a], fun _ => True, fun a w => w = .int a.length, by intros; rfl⟩
def x_Memory__eq_ : XS := .ret (.andV (.fn (xIsC false) (.cons (.var 1) (.cons (.lit (.cls false)) .nil))) (.op oEq (.fld false (.var 0)) (.fld false (.var 1))))
abbrev F_meq : XF := ⟨List Int × W, 2, fun a => [.mem a.1, a.2], fun a => a.2.eqr false, fun a w => w = .bl (decide (.mem a.1 = a.2)), by intros; rfl⟩
def x_memory_of : XS := .seq (.drop (.call F_check_row (.cons (.var 0) (.nil))))
 (.seq (.asg (.name 1) (.tup (.cons (.lit (.int 0)) (.nil))))
 (.seq (.forr (.seq (.var 0)) (.name 2) (.asg (.name 1) (.call F_after_move (.cons (.var 1) (.cons (.var 2) (.nil))))))
 (.ret (.mkMem memOk (.var 1)))))
abbrev F_memory_of : XF := ⟨List Int, 1, fun a => [.lst (a.map .int)], fun a => a.length ≤ 1000 ∧ ∀ x ∈ a, isPl x = true, fun a w => w = .mem (memF a), by intros; rfl⟩
section
variable {P : Program} {w : World} {K : PySem.W.Frag} {mg : Str → Option Value} {base : Heap} {c : Z.Cl} {f p : Addr}
theorem ok_check_place (tx : Tx mg) (d : Dn K mg "check_place" s_check_place P_check_place) (c_is_place : Fx P w K mg base 3 "is_place" (F_is_place.sp K c)) : Fx P w K mg base 4 "check_place" (F_check_place.sp K c) := by
  refine d.run (N := N_check_place) (s := x_check_place) sc_check_place rfl ?_ fun f cdv A outer s H E hr => ⟨_, pss_one (ps_if (pt_not (pt_val (pe_f c_is_place hr (by first | exact Nat.le_refl _ | decide | omega) rfl (pa_cons (pv 0) (pa_nil))))) (pss_one (ps_never)) (pss_nil)),
 es_if (et_not (et_b (ev_call (ea_cons (ev_var) (ea_nil))))) (es_never) (es_next)⟩
  rintro v Q hp k
  have k : Q .non := k _ rfl
  have hp : isPl v = true := hp
  simp only [XS.whole, ↓runA, ↓runC, ↓d_seq0, ↓d_seq1, ↓reduceIte, runB, ite_and, Decidable.not_not, forall_eq, List.map_cons, List.map_nil, List.cons_append, List.nil_append, List.replicate_succ, List.replicate_zero, List.append_nil, List.set_cons_zero, List.set_cons_succ, List.getElem?_cons_zero, List.getElem?_cons_succ, Option.some.injEq, List.cons.injEq, exists_and_left, exists_eq_left', exists_eq_left, exists_false, exists_const, forall_eq', forall_eq, ints_inj, Prod.exists, reduceCtorEq, List.length_cons, List.length_nil, implies_true, forall_const, decide_eq_true_eq, decide_eq_false_iff_not, List.getElem?_nil, List.set_nil, if_true, if_false, ite_true, ite_false, eq_self, Prod.mk.injEq, Co.lst.injEq, Co.dct.injEq, Fr.mk.injEq, exists_eq, exists_eq', exists_eq_right, exists_and_right, Nat.zero_le, Nat.zero_add, Nat.reduceAdd, Nat.reduceLT, Nat.reduceLeDiff, Nat.reduceEqDiff, List.mem_cons, List.not_mem_nil, List.nodup_cons, List.nodup_nil, List.forall_mem_cons, forall_eq_or_imp, List.getD_cons_zero, List.getD_cons_succ, List.mem_singleton, ne_eq, List.append_assoc, x_check_place]
  rw [isNum_pl, hp]
  exact ⟨rfl, (by intro h; cases h), fun _ => k⟩
theorem ok_is_between (tx : Tx mg) (d : Dn K mg "_is_between" s__is_between P__is_between) : Fx P w K mg base 1 "_is_between" (F__is_between.sp K c) := by
  refine d.run (N := N__is_between) (s := x__is_between) sc__is_between rfl ?_ fun f cdv A outer s H E hr => ⟨_, pss_one (ps_ret (pe_chain op_lt op_lt (pe_callB (call_min2 rfl) (by rfl) tx.b_min boot_min (pa_cons (pv 1) (pa_cons (pv 2) (pa_nil)))) (pv 0) (pe_callB (call_max2 rfl) (by rfl) tx.b_max boot_max (pa_cons (pv 1) (pa_cons (pv 2) (pa_nil)))))),
 es_ret (ev_chain (ev_fn (ea_cons (ev_var) (ea_cons (ev_var) (ea_nil))) en_min2) (ev_var) (ev_fn (ea_cons (ev_var) (ea_cons (ev_var) (ea_nil))) en_max2))⟩
  rintro ⟨p, i, j⟩ Q hp k
  have k : Q (.bl (btw p i j)) := k _ rfl
  simp only [XS.whole, ↓runA, ↓runC, ↓d_seq0, ↓d_seq1, ↓reduceIte, runB, ite_and, Decidable.not_not, forall_eq, List.map_cons, List.map_nil, List.cons_append, List.nil_append, List.replicate_succ, List.replicate_zero, List.append_nil, List.set_cons_zero, List.set_cons_succ, List.getElem?_cons_zero, List.getElem?_cons_succ, Option.some.injEq, List.cons.injEq, exists_and_left, exists_eq_left', exists_eq_left, exists_false, exists_const, forall_eq', forall_eq, ints_inj, Prod.exists, reduceCtorEq, List.length_cons, List.length_nil, implies_true, forall_const, decide_eq_true_eq, decide_eq_false_iff_not, List.getElem?_nil, List.set_nil, if_true, if_false, ite_true, ite_false, eq_self, Prod.mk.injEq, Co.lst.injEq, Co.dct.injEq, Fr.mk.injEq, exists_eq, exists_eq', exists_eq_right, exists_and_right, Nat.zero_le, Nat.zero_add, Nat.reduceAdd, Nat.reduceLT, Nat.reduceLeDiff, Nat.reduceEqDiff, List.mem_cons, List.not_mem_nil, List.nodup_cons, List.nodup_nil, List.forall_mem_cons, forall_eq_or_imp, List.getD_cons_zero, List.getD_cons_succ, List.mem_singleton, ne_eq, List.append_assoc, x__is_between]
  unfold btw at k
  refine ⟨fun h => ?_, fun h => ?_⟩
  · rw [decide_eq_true h, Bool.true_and] at k; exact k
  · rw [decide_eq_false h, Bool.false_and] at k; exact k
theorem ok_fits (tx : Tx mg) (d : Dn K mg "_fits" s__fits P__fits) (c_is_place : Fx P w K mg base 3 "is_place" (F_is_place.sp K c)) (c__is_between : Fx P w K mg base 1 "_is_between" (F__is_between.sp K c)) : Fx P w K mg base 4 "_fits" (F__fits.sp K c) := by
  refine d.run (N := N__fits) (s := x__fits) sc__fits rfl ?_ fun f cdv A outer s H E hr => ⟨_, pss_cons (ps_set (i := 2) sc__fits.nd rfl (Or.inl rfl) (pe_ix ix_lt (pv 0) (pv 1) (fun _ _ => rfl)))
 (pss_cons (ps_if (pt_not (pt_val (pe_f c_is_place hr (by first | exact Nat.le_refl _ | decide | omega) rfl (pa_cons (pv 2) (pa_nil))))) (pss_one (ps_ret (pe_bl))) (pss_nil))
 (pss_cons (ps_if (pt_cmpR (opEq hr.units) (pv 1) (pe_int) (nomark _)) (pss_one (ps_ret (pe_cmpR op_le (pv 2) (pe_int) (nomark _)))) (pss_nil))
 (pss_cons (ps_if (pt_cmpR (opEq hr.units) (pv 1) (pe_int) (nomark _)) (pss_one (ps_ret (pe_cmpR op_gt (pv 2) (pe_ix ix_lt (pv 0) (pe_int) (fun _ _ => rfl)) (nomark _)))) (pss_nil))
 (pss_one (ps_ret (pe_f c__is_between hr (by first | exact Nat.le_refl _ | decide | omega) rfl (pa_cons (pv 2) (pa_cons (pe_ix ix_lt (pv 0) (pe_op opSub (pv 1) (pe_int)) (fun _ _ => rfl)) (pa_cons (pe_ix ix_lt (pv 0) (pe_op opSub (pv 1) (pe_int)) (fun _ _ => rfl)) (pa_nil)))))))))),
 es_seq (es_asg (ev_op (ev_var) (ev_var) eoIx) eg_name)
 (es_seq (es_if (et_not (et_b (ev_call (ea_cons (ev_var) (ea_nil))))) (es_ret (ev_bl)) (es_next))
 (es_seq (es_if (et_test (ev_op (ev_var) (ev_int) eoEq)) (es_ret (ev_op (ev_var) (ev_int) eo_B)) (es_next))
 (es_seq (es_if (et_test (ev_op (ev_var) (ev_int) eoEq)) (es_ret (ev_op (ev_var) (ev_op (ev_var) (ev_int) eoIx) eo_B)) (es_next))
 (es_ret (ev_call (ea_cons (ev_var) (ea_cons (ev_op (ev_var) (ev_op (ev_var) (ev_int) eoSub) eoIx) (ea_cons (ev_op (ev_var) (ev_op (ev_var) (ev_int) eoSub) eoIx) (ea_nil)))))))))⟩
  rintro ⟨ps, i⟩ Q hp k
  have k : Q (.bl (fitB ps i)) := k _ rfl
  have hp : i < ps.length := hp
  simp only [XS.whole, ↓runA, ↓runC, ↓d_seq0, ↓d_seq1, ↓reduceIte, runB, ite_and, Decidable.not_not, forall_eq, List.map_cons, List.map_nil, List.cons_append, List.nil_append, List.replicate_succ, List.replicate_zero, List.append_nil, List.set_cons_zero, List.set_cons_succ, List.getElem?_cons_zero, List.getElem?_cons_succ, Option.some.injEq, List.cons.injEq, exists_and_left, exists_eq_left', exists_eq_left, exists_false, exists_const, forall_eq', forall_eq, ints_inj, Prod.exists, reduceCtorEq, List.length_cons, List.length_nil, implies_true, forall_const, decide_eq_true_eq, decide_eq_false_iff_not, List.getElem?_nil, List.set_nil, if_true, if_false, ite_true, ite_false, eq_self, Prod.mk.injEq, Co.lst.injEq, Co.dct.injEq, Fr.mk.injEq, exists_eq, exists_eq', exists_eq_right, exists_and_right, Nat.zero_le, Nat.zero_add, Nat.reduceAdd, Nat.reduceLT, Nat.reduceLeDiff, Nat.reduceEqDiff, List.mem_cons, List.not_mem_nil, List.nodup_cons, List.nodup_nil, List.forall_mem_cons, forall_eq_or_imp, List.getD_cons_zero, List.getD_cons_succ, List.mem_singleton, ne_eq, List.append_assoc, x__fits]
  have ei : atI ps (i : Int) = some (ps.getD i 0) := at_getD hp
  have e0 : atI ps 0 = some (ps.getD 0 0) := at_getD (i := 0) (by omega)
  unfold fitB at k
  refine ⟨_, ei, rfl, fun h => ?_, fun h => ?_⟩
  · rw [isNum_pl] at h; rw [h, Bool.false_and] at k; exact k
  · rw [isNum_pl] at h
    rw [h, Bool.true_and] at k
    refine ⟨fun h0 => ?_, fun h0 => ⟨fun h1 => ⟨_, e0, ?_⟩, fun h1 => ?_⟩⟩
    · have : i = 0 := by omega
      subst this
      rw [if_pos rfl] at k; exact k
    · have : i = 1 := by omega
      subst this
      rw [if_neg (by decide), if_pos rfl] at k; exact k
    · rw [if_neg (by omega), if_neg (by omega)] at k
      have a2 : atI ps ((i : Int) - 2) = some (ps.getD (i - 2) 0) := by
        have := at_getD (ps := ps) (i := i - 2) (by omega)
        rwa [show ((i - 2 : Nat) : Int) = (i : Int) - 2 by omega] at this
      have a1 : atI ps ((i : Int) - 1) = some (ps.getD (i - 1) 0) := by
        have := at_getD (ps := ps) (i := i - 1) (by omega)
        rwa [show ((i - 1 : Nat) : Int) = (i : Int) - 1 by omega] at this
      exact ⟨_, a2, _, a1, k⟩
theorem ok_check_places (tx : Tx mg) (d : Dn K mg "_check_places" s__check_places P__check_places) (c__fits : Fx P w K mg base 4 "_fits" (F__fits.sp K c)) : Fx P w K mg base 5 "_check_places" (F__check_places.sp K c) := by
  refine d.run (N := N__check_places) (s := x__check_places) sc__check_places rfl ?_ fun f cdv A outer s H E hr => ⟨_, pss_cons (ps_if ((PW.pt (pw_or (pt_not (pt_val (pe_callB call_isi (by rfl) tx.b_isinstance boot_isinstance (pa_cons (pv 0) (pa_cons (pe_bltn (v := .ty "tuple") (by rfl) tx.b_tuple boot_tuple rfl) pa_nil))))) (pw_or1 (pt_cmpR (opEq hr.units) (pe_callB call_len_seq (by rfl) tx.b_len boot_len (pa_cons (pv 0) (pa_nil))) (pe_int) (nomark _)))))) (pss_one (ps_never)) (pss_nil))
 (pss_one (ps_for PassesOwn.never rfl (pi_range1 rfl tx.b_range (pa_cons (pe_callB call_len_seq (by rfl) tx.b_len boot_len (pa_cons (pv 0) (pa_nil))) (pa_nil))) (pg_name (i := 1) sc__check_places.nd rfl (Or.inl rfl)) (pss_one (ps_if (pt_not (pt_val (pe_f c__fits hr (by first | exact Nat.le_refl _ | decide | omega) rfl (pa_cons (pv 0) (pa_cons (pv 1) (pa_nil)))))) (pss_one (ps_never)) (pss_nil))))),
 es_seq (es_if (et_or (et_not (et_b (ev_fn (ea_cons (ev_var) (ea_cons ev_ty ea_nil)) en_isi0))) (et_test (ev_op (ev_fn (ea_cons (ev_var) (ea_nil)) en_len) (ev_int) eoEq))) (es_never) (es_next))
 (es_for (ei_rng1 (ea_cons (ev_fn (ea_cons (ev_var) (ea_nil)) en_len) (ea_nil))) (eg_name) (es_if (et_not (et_b (ev_call (ea_cons (ev_var) (ea_cons (ev_var) (ea_nil)))))) (es_never) (es_next)))⟩
  rintro ps Q ok k
  have k : Q .non := k _ rfl
  have ok : okMem ps := ok
  simp only [XS.whole, ↓runA, ↓runC, ↓d_seq0, ↓d_seq1, ↓reduceIte, runB, ite_and, Decidable.not_not, forall_eq, List.map_cons, List.map_nil, List.cons_append, List.nil_append, List.replicate_succ, List.replicate_zero, List.append_nil, List.set_cons_zero, List.set_cons_succ, List.getElem?_cons_zero, List.getElem?_cons_succ, Option.some.injEq, List.cons.injEq, exists_and_left, exists_eq_left', exists_eq_left, exists_false, exists_const, forall_eq', forall_eq, ints_inj, Prod.exists, reduceCtorEq, List.length_cons, List.length_nil, implies_true, forall_const, decide_eq_true_eq, decide_eq_false_iff_not, List.getElem?_nil, List.set_nil, if_true, if_false, ite_true, ite_false, eq_self, Prod.mk.injEq, Co.lst.injEq, Co.dct.injEq, Fr.mk.injEq, exists_eq, exists_eq', exists_eq_right, exists_and_right, Nat.zero_le, Nat.zero_add, Nat.reduceAdd, Nat.reduceLT, Nat.reduceLeDiff, Nat.reduceEqDiff, List.mem_cons, List.not_mem_nil, List.nodup_cons, List.nodup_nil, List.forall_mem_cons, forall_eq_or_imp, List.getD_cons_zero, List.getD_cons_succ, List.mem_singleton, ne_eq, List.append_assoc, x__check_places]
  obtain ⟨ne, hl, fit⟩ := ok
  have h0 := List.length_pos_iff.mpr ne
  rw [List.length_map]
  refine ⟨fun h => by omega, fun _ => ⟨by omega, by omega, fun i φ => ∃ a, φ = ⟨[some (.tup (ps.map .int)), a], none⟩, ⟨none, rfl⟩, ?_, fun φ _ => k⟩⟩
  rintro i w φ hw ⟨a, rfl⟩
  obtain ⟨hi, rfl⟩ := rgW_at hw
  simp only [XS.whole, ↓runA, ↓runC, ↓d_seq0, ↓d_seq1, ↓reduceIte, runB, ite_and, Decidable.not_not, forall_eq, List.map_cons, List.map_nil, List.cons_append, List.nil_append, List.replicate_succ, List.replicate_zero, List.append_nil, List.set_cons_zero, List.set_cons_succ, List.getElem?_cons_zero, List.getElem?_cons_succ, Option.some.injEq, List.cons.injEq, exists_and_left, exists_eq_left', exists_eq_left, exists_false, exists_const, forall_eq', forall_eq, ints_inj, Prod.exists, reduceCtorEq, List.length_cons, List.length_nil, implies_true, forall_const, decide_eq_true_eq, decide_eq_false_iff_not, List.getElem?_nil, List.set_nil, if_true, if_false, ite_true, ite_false, eq_self, Prod.mk.injEq, Co.lst.injEq, Co.dct.injEq, Fr.mk.injEq, exists_eq, exists_eq', exists_eq_right, exists_and_right, Nat.zero_le, Nat.zero_add, Nat.reduceAdd, Nat.reduceLT, Nat.reduceLeDiff, Nat.reduceEqDiff, List.mem_cons, List.not_mem_nil, List.nodup_cons, List.nodup_nil, List.forall_mem_cons, forall_eq_or_imp, List.getD_cons_zero, List.getD_cons_succ, List.mem_singleton, ne_eq, List.append_assoc]
  have hi : i < ps.length := by omega
  simp only [Int.zero_add]
  exact ⟨i, rfl, hi, (by rw [fit i hi]; intro h; cases h)⟩
theorem ok_count_kept (tx : Tx mg) (d : Dn K mg "count_kept" s_count_kept P_count_kept) (c__is_between : Fx P w K mg base 1 "_is_between" (F__is_between.sp K c)) : Fx P w K mg base 2 "count_kept" (F_count_kept.sp K c) := by
  refine d.run (N := N_count_kept) (s := x_count_kept) sc_count_kept rfl ?_ fun f cdv A outer s H E hr => ⟨_, pss_cons (ps_if (pt_cmpR op_le (pv 1) (pe_ix ix_lt (pv 0) (pe_int) (fun _ _ => rfl)) (nomark _)) (pss_one (ps_ret (pe_int))) (pss_nil))
 (pss_cons (ps_set (i := 2) sc_count_kept.nd rfl (Or.inl rfl) (pe_int))
 (pss_cons (ps_while PassesOwn.never ((PW.pt (pw_and (pt_cmpR op_lt (pv 2) (pe_callB call_len_seq (by rfl) tx.b_len boot_len (pa_cons (pv 0) (pa_nil))) (nomark _)) (pw_and1 (pt_val (pe_f c__is_between hr (by first | exact Nat.le_refl _ | decide | omega) rfl (pa_cons (pv 1) (pa_cons (pe_ix ix_lt (pv 0) (pe_op opSub (pv 2) (pe_int)) (fun _ _ => rfl)) (pa_cons (pe_ix ix_lt (pv 0) (pv 2) (fun _ _ => rfl)) (pa_nil)))))))))) (pss_one (ps_aug (i := 2) sc_count_kept.nd rfl (Or.inl rfl) (pe_int) ip_add)))
 (pss_one (ps_ret (pv 2))))),
 es_seq (es_if (et_test (ev_op (ev_var) (ev_op (ev_var) (ev_int) eoIx) eo_B)) (es_ret (ev_int)) (es_next))
 (es_seq (es_asg (ev_int) eg_name)
 (es_seq (es_while (et_and (et_test (ev_op (ev_var) (ev_fn (ea_cons (ev_var) (ea_nil)) en_len) eo_B)) (et_b (ev_call (ea_cons (ev_var) (ea_cons (ev_op (ev_var) (ev_op (ev_var) (ev_int) eoSub) eoIx) (ea_cons (ev_op (ev_var) (ev_var) eoIx) (ea_nil))))))) (es_aug (ev_int)))
 (es_ret (ev_var))))⟩
  rintro ⟨t, ps, p⟩ Q ⟨ne, hl⟩ kk
  have k : Q (.int (keptN ps p : Int)) := kk _ rfl
  clear kk
  have ne : ps ≠ [] := ne
  have hl : ps.length ≤ 5000 := hl
  cases t
  all_goals simp only [seqW, if_true, if_false, Bool.false_eq_true]
  · simp only [XS.whole, ↓runA, ↓runC, ↓d_seq0, ↓d_seq1, ↓reduceIte, runB, ite_and, Decidable.not_not, forall_eq, List.map_cons, List.map_nil, List.cons_append, List.nil_append, List.replicate_succ, List.replicate_zero, List.append_nil, List.set_cons_zero, List.set_cons_succ, List.getElem?_cons_zero, List.getElem?_cons_succ, Option.some.injEq, List.cons.injEq, exists_and_left, exists_eq_left', exists_eq_left, exists_false, exists_const, forall_eq', forall_eq, ints_inj, Prod.exists, reduceCtorEq, List.length_cons, List.length_nil, implies_true, forall_const, decide_eq_true_eq, decide_eq_false_iff_not, List.getElem?_nil, List.set_nil, if_true, if_false, ite_true, ite_false, eq_self, Prod.mk.injEq, Co.lst.injEq, Co.dct.injEq, Fr.mk.injEq, exists_eq, exists_eq', exists_eq_right, exists_and_right, Nat.zero_le, Nat.zero_add, Nat.reduceAdd, Nat.reduceLT, Nat.reduceLeDiff, Nat.reduceEqDiff, List.mem_cons, List.not_mem_nil, List.nodup_cons, List.nodup_nil, List.forall_mem_cons, forall_eq_or_imp, List.getD_cons_zero, List.getD_cons_succ, List.mem_singleton, ne_eq, List.append_assoc, x_count_kept]
    have h0 := List.length_pos_iff.mpr ne
    refine ⟨_, at_getD (i := 0) h0, fun h => ?_, fun h => ?_⟩
    · unfold keptN at k
      rw [if_pos h] at k; exact k
    · unfold keptN at k
      rw [if_neg h] at k
      refine ⟨fun m φ => ∃ g : Nat, 1 ≤ g ∧ g ≤ ps.length ∧ m = ps.length - g ∧ runL p ps + 1 = g + runL p (ps.drop (g - 1)) ∧ φ = ⟨[some (.tup (ps.map .int)), some (.int p), some (.int (g : Int))], none⟩, ⟨_, 1, Nat.le_refl _, h0, rfl, by rw [Nat.sub_self, List.drop_zero]; omega, rfl⟩, ?_⟩
      rintro m φ ⟨g, g1, gl, rfl, hr, rfl⟩
      simp only [XS.whole, ↓runA, ↓runC, ↓d_seq0, ↓d_seq1, ↓reduceIte, runB, ite_and, Decidable.not_not, forall_eq, List.map_cons, List.map_nil, List.cons_append, List.nil_append, List.replicate_succ, List.replicate_zero, List.append_nil, List.set_cons_zero, List.set_cons_succ, List.getElem?_cons_zero, List.getElem?_cons_succ, Option.some.injEq, List.cons.injEq, exists_and_left, exists_eq_left', exists_eq_left, exists_false, exists_const, forall_eq', forall_eq, ints_inj, Prod.exists, reduceCtorEq, List.length_cons, List.length_nil, implies_true, forall_const, decide_eq_true_eq, decide_eq_false_iff_not, List.getElem?_nil, List.set_nil, if_true, if_false, ite_true, ite_false, eq_self, Prod.mk.injEq, Co.lst.injEq, Co.dct.injEq, Fr.mk.injEq, exists_eq, exists_eq', exists_eq_right, exists_and_right, Nat.zero_le, Nat.zero_add, Nat.reduceAdd, Nat.reduceLT, Nat.reduceLeDiff, Nat.reduceEqDiff, List.mem_cons, List.not_mem_nil, List.nodup_cons, List.nodup_nil, List.forall_mem_cons, forall_eq_or_imp, List.getD_cons_zero, List.getD_cons_succ, List.mem_singleton, ne_eq, List.append_assoc, Z.Fr.rev]
      have a1 : ∀ h : 1 ≤ g, atI ps ((g : Int) - 1) = some (ps.getD (g - 1) 0) := fun h => by
        have := at_getD (ps := ps) (i := g - 1) (by omega)
        rwa [show ((g - 1 : Nat) : Int) = (g : Int) - 1 by omega] at this
      rw [List.length_map]
      have last : g = ps.length → Q (.int (g : Int)) := fun e => by
        rw [e, show ps.length - 1 = ps.length - 1 from rfl] at hr
        have z : runL p (ps.drop (ps.length - 1)) = 0 := by
          rw [List.drop_eq_getElem_cons (by omega), List.drop_eq_nil_of_le (by omega)]; rfl
        rw [z] at hr
        rw [show ((runL p ps + 1 : Nat) : Int) = (g : Int) by omega] at k
        exact k
      refine ⟨fun h => ?_, fun h => last (by omega)⟩
      have st := runL_step (p := p) (ps := ps) g1 (by omega)
      refine ⟨_, a1 g1, _, at_getD (by omega), fun hb => ?_, fun hb => ?_⟩
      · rw [if_pos hb] at st
        exact ⟨_, by omega, g + 1, by omega, by omega, rfl, by rw [Nat.add_sub_cancel]; omega, by omega⟩
      · rw [if_neg (by rw [hb]; exact Bool.false_ne_true)] at st
        rw [show ((runL p ps + 1 : Nat) : Int) = (g : Int) by omega] at k
        exact k
  · simp only [XS.whole, ↓runA, ↓runC, ↓d_seq0, ↓d_seq1, ↓reduceIte, runB, ite_and, Decidable.not_not, forall_eq, List.map_cons, List.map_nil, List.cons_append, List.nil_append, List.replicate_succ, List.replicate_zero, List.append_nil, List.set_cons_zero, List.set_cons_succ, List.getElem?_cons_zero, List.getElem?_cons_succ, Option.some.injEq, List.cons.injEq, exists_and_left, exists_eq_left', exists_eq_left, exists_false, exists_const, forall_eq', forall_eq, ints_inj, Prod.exists, reduceCtorEq, List.length_cons, List.length_nil, implies_true, forall_const, decide_eq_true_eq, decide_eq_false_iff_not, List.getElem?_nil, List.set_nil, if_true, if_false, ite_true, ite_false, eq_self, Prod.mk.injEq, Co.lst.injEq, Co.dct.injEq, Fr.mk.injEq, exists_eq, exists_eq', exists_eq_right, exists_and_right, Nat.zero_le, Nat.zero_add, Nat.reduceAdd, Nat.reduceLT, Nat.reduceLeDiff, Nat.reduceEqDiff, List.mem_cons, List.not_mem_nil, List.nodup_cons, List.nodup_nil, List.forall_mem_cons, forall_eq_or_imp, List.getD_cons_zero, List.getD_cons_succ, List.mem_singleton, ne_eq, List.append_assoc, x_count_kept]
    have h0 := List.length_pos_iff.mpr ne
    refine ⟨_, at_getD (i := 0) h0, fun h => ?_, fun h => ?_⟩
    · unfold keptN at k
      rw [if_pos h] at k; exact k
    · unfold keptN at k
      rw [if_neg h] at k
      refine ⟨fun m φ => ∃ g : Nat, 1 ≤ g ∧ g ≤ ps.length ∧ m = ps.length - g ∧ runL p ps + 1 = g + runL p (ps.drop (g - 1)) ∧ φ = ⟨[some (.lst (ps.map .int)), some (.int p), some (.int (g : Int))], none⟩, ⟨_, 1, Nat.le_refl _, h0, rfl, by rw [Nat.sub_self, List.drop_zero]; omega, rfl⟩, ?_⟩
      rintro m φ ⟨g, g1, gl, rfl, hr, rfl⟩
      simp only [XS.whole, ↓runA, ↓runC, ↓d_seq0, ↓d_seq1, ↓reduceIte, runB, ite_and, Decidable.not_not, forall_eq, List.map_cons, List.map_nil, List.cons_append, List.nil_append, List.replicate_succ, List.replicate_zero, List.append_nil, List.set_cons_zero, List.set_cons_succ, List.getElem?_cons_zero, List.getElem?_cons_succ, Option.some.injEq, List.cons.injEq, exists_and_left, exists_eq_left', exists_eq_left, exists_false, exists_const, forall_eq', forall_eq, ints_inj, Prod.exists, reduceCtorEq, List.length_cons, List.length_nil, implies_true, forall_const, decide_eq_true_eq, decide_eq_false_iff_not, List.getElem?_nil, List.set_nil, if_true, if_false, ite_true, ite_false, eq_self, Prod.mk.injEq, Co.lst.injEq, Co.dct.injEq, Fr.mk.injEq, exists_eq, exists_eq', exists_eq_right, exists_and_right, Nat.zero_le, Nat.zero_add, Nat.reduceAdd, Nat.reduceLT, Nat.reduceLeDiff, Nat.reduceEqDiff, List.mem_cons, List.not_mem_nil, List.nodup_cons, List.nodup_nil, List.forall_mem_cons, forall_eq_or_imp, List.getD_cons_zero, List.getD_cons_succ, List.mem_singleton, ne_eq, List.append_assoc, Z.Fr.rev]
      have a1 : ∀ h : 1 ≤ g, atI ps ((g : Int) - 1) = some (ps.getD (g - 1) 0) := fun h => by
        have := at_getD (ps := ps) (i := g - 1) (by omega)
        rwa [show ((g - 1 : Nat) : Int) = (g : Int) - 1 by omega] at this
      rw [List.length_map]
      have last : g = ps.length → Q (.int (g : Int)) := fun e => by
        rw [e, show ps.length - 1 = ps.length - 1 from rfl] at hr
        have z : runL p (ps.drop (ps.length - 1)) = 0 := by
          rw [List.drop_eq_getElem_cons (by omega), List.drop_eq_nil_of_le (by omega)]; rfl
        rw [z] at hr
        rw [show ((runL p ps + 1 : Nat) : Int) = (g : Int) by omega] at k
        exact k
      refine ⟨fun h => ?_, fun h => last (by omega)⟩
      have st := runL_step (p := p) (ps := ps) g1 (by omega)
      refine ⟨_, a1 g1, _, at_getD (by omega), fun hb => ?_, fun hb => ?_⟩
      · rw [if_pos hb] at st
        exact ⟨_, by omega, g + 1, by omega, by omega, rfl, by rw [Nat.add_sub_cancel]; omega, by omega⟩
      · rw [if_neg (by rw [hb]; exact Bool.false_ne_true)] at st
        rw [show ((runL p ps + 1 : Nat) : Int) = (g : Int) by omega] at k
        exact k
theorem ok_after_move (tx : Tx mg) (d : Dn K mg "after_move" s_after_move P_after_move) (c_count_kept : Fx P w K mg base 2 "count_kept" (F_count_kept.sp K c)) : Fx P w K mg base 3 "after_move" (F_after_move.sp K c) := by
  refine d.run (N := N_after_move) (s := x_after_move) sc_after_move rfl ?_ fun f cdv A outer s H E hr => ⟨_, pss_one (ps_ret (pe_op opAdd (pe_slice (SlR.or sl_list sl_tupA) (pv 0) po_none (po_some (pe_f c_count_kept hr (by first | exact Nat.le_refl _ | decide | omega) rfl (pa_cons (pv 0) (pa_cons (pv 1) (pa_nil)))))) (pe_tup (pa_cons (pv 1) (pa_nil))))),
 es_ret (ev_op (ev_sl (ev_var) ep_no (ep_at (ev_call (ea_cons (ev_var) (ea_cons (ev_var) (ea_nil)))))) (ev_tup (ea_cons (ev_var) (ea_nil))) eoAdd)⟩
  rintro ⟨ps, p⟩ Q ⟨ne, hl⟩ k
  have k : Q (.tup ((aft ps p).map .int)) := k _ rfl
  simp only at ne hl
  simp only [XS.whole, ↓runA, ↓runC, ↓d_seq0, ↓d_seq1, ↓reduceIte, runB, ite_and, Decidable.not_not, forall_eq, List.map_cons, List.map_nil, List.cons_append, List.nil_append, List.replicate_succ, List.replicate_zero, List.append_nil, List.set_cons_zero, List.set_cons_succ, List.getElem?_cons_zero, List.getElem?_cons_succ, Option.some.injEq, List.cons.injEq, exists_and_left, exists_eq_left', exists_eq_left, exists_false, exists_const, forall_eq', forall_eq, ints_inj, Prod.exists, reduceCtorEq, List.length_cons, List.length_nil, implies_true, forall_const, decide_eq_true_eq, decide_eq_false_iff_not, List.getElem?_nil, List.set_nil, if_true, if_false, ite_true, ite_false, eq_self, Prod.mk.injEq, Co.lst.injEq, Co.dct.injEq, Fr.mk.injEq, exists_eq, exists_eq', exists_eq_right, exists_and_right, Nat.zero_le, Nat.zero_add, Nat.reduceAdd, Nat.reduceLT, Nat.reduceLeDiff, Nat.reduceEqDiff, List.mem_cons, List.not_mem_nil, List.nodup_cons, List.nodup_nil, List.forall_mem_cons, forall_eq_or_imp, List.getD_cons_zero, List.getD_cons_succ, List.mem_singleton, ne_eq, List.append_assoc, x_after_move]
  rw [aft_kept, List.map_append, List.map_take] at k
  refine ⟨false, ps, rfl, ne, hl, ?_, ?_⟩
  · rw [cutW_to, List.length_take, List.length_map]; omega
  · rw [cutW_to]; exact k
theorem ok_mem_init (ckM : CK K c.C "_places") (d : Dm K "__init__" "Memory.__init__" s_Memory__init_ P_Memory__init_ f) (c__check_places : Fx P w K mg base 5 "_check_places" (F__check_places.sp K c)) : ∃ fd, FnOk P w K mg base CX0 6 f fd P_Memory__init_ (spIni K c.C "_places" (preMem K)) ∧ Binds K fd P_Memory__init_ [] := by
  refine d.ok (N := N_Memory__init_) sc_Memory__init_ (fun vs H Q E h => ?_) (fun cdv A outer s H vs Q E hr h => ⟨_, pss_cons (ps_expr (pe_f c__check_places hr (by first | exact Nat.le_refl _ | decide | omega) rfl (pa_cons (pv 1) (pa_nil))))
 (pss_one (ps_fld (pv 0) (pv 1) rfl)), ?_⟩)
  · obtain ⟨x, dx, d, v, h, rfl, _⟩ := h
    rfl
  · obtain ⟨x, dx, d, v, h, rfl, ho, e, nh, dq, ⟨ps, rfl, ok⟩, k⟩ := h
    refine ⟨_, rfl, ps, h, e, .cons (intsT_p dq) .nil, ok, fun v h1 H1 s1 _ => ?_⟩
    exact ⟨_, rfl, _, rfl, x, c.C, dx, [], rfl, s1.e _ _ ho, ckM.cl, ckM.na, by decide, k h1 H1 s1⟩
theorem ok_mem_places (tx : Tx mg) (ckM : CK K c.C "_places") (d : Dm K "places" "Memory.places" s_Memory_places P_Memory_places f) : ∃ fd, FnOk P w K mg base CX0 1 f fd P_Memory_places (F_places.sp K c) ∧ Binds K fd P_Memory_places [] := by
  refine d.run (N := N_Memory_places) (s := x_Memory_places) sc_Memory_places rfl ?_ fun cdv A outer s H E hr => ⟨_, pss_one (ps_ret (pe_fld (pv 0) rfl)),
 es_ret (ev_fld ckM.cl ckM.na (ev_var))⟩
  rintro ps Q _ k
  have k : Q (.tup (ps.map .int)) := k _ rfl
  simp only [XS.whole, ↓runA, ↓runC, ↓d_seq0, ↓d_seq1, ↓reduceIte, runB, ite_and, Decidable.not_not, forall_eq, List.map_cons, List.map_nil, List.cons_append, List.nil_append, List.replicate_succ, List.replicate_zero, List.append_nil, List.set_cons_zero, List.set_cons_succ, List.getElem?_cons_zero, List.getElem?_cons_succ, Option.some.injEq, List.cons.injEq, exists_and_left, exists_eq_left', exists_eq_left, exists_false, exists_const, forall_eq', forall_eq, ints_inj, Prod.exists, reduceCtorEq, List.length_cons, List.length_nil, implies_true, forall_const, decide_eq_true_eq, decide_eq_false_iff_not, List.getElem?_nil, List.set_nil, if_true, if_false, ite_true, ite_false, eq_self, Prod.mk.injEq, Co.lst.injEq, Co.dct.injEq, Fr.mk.injEq, exists_eq, exists_eq', exists_eq_right, exists_and_right, Nat.zero_le, Nat.zero_add, Nat.reduceAdd, Nat.reduceLT, Nat.reduceLeDiff, Nat.reduceEqDiff, List.mem_cons, List.not_mem_nil, List.nodup_cons, List.nodup_nil, List.forall_mem_cons, forall_eq_or_imp, List.getD_cons_zero, List.getD_cons_succ, List.mem_singleton, ne_eq, List.append_assoc, x_Memory_places]
  exact k
theorem ok_mem_place (tx : Tx mg) (ckM : CK K c.C "_places") (d : Dm K "place" "Memory.place" s_Memory_place P_Memory_place f) : ∃ fd, FnOk P w K mg base CX0 1 f fd P_Memory_place (F_place.sp K c) ∧ Binds K fd P_Memory_place [] := by
  refine d.run (N := N_Memory_place) (s := x_Memory_place) sc_Memory_place rfl ?_ fun cdv A outer s H E hr => ⟨_, pss_one (ps_ret (pe_ix ix_lt (pe_fld (pv 0) rfl) (pe_un un_neg (pe_int)) (fun _ _ => rfl))),
 es_ret (ev_op (ev_fld ckM.cl ckM.na (ev_var)) (ev_un (ev_int) eu_neg) eoIx)⟩
  rintro ps Q ne k
  have k : Q (.int (ps.getLastD 0)) := k _ rfl
  have ne : ps ≠ [] := ne
  simp only [XS.whole, ↓runA, ↓runC, ↓d_seq0, ↓d_seq1, ↓reduceIte, runB, ite_and, Decidable.not_not, forall_eq, List.map_cons, List.map_nil, List.cons_append, List.nil_append, List.replicate_succ, List.replicate_zero, List.append_nil, List.set_cons_zero, List.set_cons_succ, List.getElem?_cons_zero, List.getElem?_cons_succ, Option.some.injEq, List.cons.injEq, exists_and_left, exists_eq_left', exists_eq_left, exists_false, exists_const, forall_eq', forall_eq, ints_inj, Prod.exists, reduceCtorEq, List.length_cons, List.length_nil, implies_true, forall_const, decide_eq_true_eq, decide_eq_false_iff_not, List.getElem?_nil, List.set_nil, if_true, if_false, ite_true, ite_false, eq_self, Prod.mk.injEq, Co.lst.injEq, Co.dct.injEq, Fr.mk.injEq, exists_eq, exists_eq', exists_eq_right, exists_and_right, Nat.zero_le, Nat.zero_add, Nat.reduceAdd, Nat.reduceLT, Nat.reduceLeDiff, Nat.reduceEqDiff, List.mem_cons, List.not_mem_nil, List.nodup_cons, List.nodup_nil, List.forall_mem_cons, forall_eq_or_imp, List.getD_cons_zero, List.getD_cons_succ, List.mem_singleton, ne_eq, List.append_assoc, x_Memory_place]
  have e : atI ps (-1) = some (ps.getLast ne) := by
    conv => lhs; rw [← List.dropLast_concat_getLast ne]
    exact atI_last _ _
  rw [List.getLastD_eq_getLast?, List.getLast?_eq_some_getLast ne] at k
  exact ⟨_, e, k⟩
theorem ok_mem_row (tx : Tx mg) (ckM : CK K c.C "_places") (d : Dm K "row" "Memory.row" s_Memory_row P_Memory_row f) : ∃ fd, FnOk P w K mg base CX0 1 f fd P_Memory_row (F_row.sp K c) ∧ Binds K fd P_Memory_row [] := by
  refine d.run (N := N_Memory_row) (s := x_Memory_row) sc_Memory_row rfl ?_ fun cdv A outer s H E hr => ⟨_, pss_cons (ps_if (pt_cmpR (opEq hr.units) (pe_ix ix_lt (pe_fld (pv 0) rfl) (pe_int) (fun _ _ => rfl)) (pe_int) (nomark _)) (pss_one (ps_ret (pe_callTy call_list_of (by rfl) tx.b_list boot_list (pa_cons (pe_slice (SlR.or sl_list sl_tupA) (pe_fld (pv 0) rfl) (po_some (pe_int)) po_none) (pa_nil))))) (pss_nil))
 (pss_one (ps_ret (pe_callTy call_list_of (by rfl) tx.b_list boot_list (pa_cons (pe_fld (pv 0) rfl) (pa_nil))))),
 es_seq (es_if (et_test (ev_op (ev_op (ev_fld ckM.cl ckM.na (ev_var)) (ev_int) eoIx) (ev_int) eoEq)) (es_ret (ev_fn (ea_cons (ev_sl (ev_fld ckM.cl ckM.na (ev_var)) (ep_at (ev_int)) ep_no) (ea_nil)) en_list)) (es_next))
 (es_ret (ev_fn (ea_cons (ev_fld ckM.cl ckM.na (ev_var)) (ea_nil)) en_list))⟩
  rintro ps Q ⟨ne, hl⟩ k
  have k : Q (.lst ((rowM ps).map .int)) := k _ rfl
  have ne : ps ≠ [] := ne
  have hl : ps.length ≤ 5000 := hl
  simp only [XS.whole, ↓runA, ↓runC, ↓d_seq0, ↓d_seq1, ↓reduceIte, runB, ite_and, Decidable.not_not, forall_eq, List.map_cons, List.map_nil, List.cons_append, List.nil_append, List.replicate_succ, List.replicate_zero, List.append_nil, List.set_cons_zero, List.set_cons_succ, List.getElem?_cons_zero, List.getElem?_cons_succ, Option.some.injEq, List.cons.injEq, exists_and_left, exists_eq_left', exists_eq_left, exists_false, exists_const, forall_eq', forall_eq, ints_inj, Prod.exists, reduceCtorEq, List.length_cons, List.length_nil, implies_true, forall_const, decide_eq_true_eq, decide_eq_false_iff_not, List.getElem?_nil, List.set_nil, if_true, if_false, ite_true, ite_false, eq_self, Prod.mk.injEq, Co.lst.injEq, Co.dct.injEq, Fr.mk.injEq, exists_eq, exists_eq', exists_eq_right, exists_and_right, Nat.zero_le, Nat.zero_add, Nat.reduceAdd, Nat.reduceLT, Nat.reduceLeDiff, Nat.reduceEqDiff, List.mem_cons, List.not_mem_nil, List.nodup_cons, List.nodup_nil, List.forall_mem_cons, forall_eq_or_imp, List.getD_cons_zero, List.getD_cons_succ, List.mem_singleton, ne_eq, List.append_assoc, x_Memory_row]
  have h0 := List.length_pos_iff.mpr ne
  unfold rowM at k
  refine ⟨_, at_getD (i := 0) h0, fun h => ?_, fun h => ?_⟩
  · rw [if_pos h, List.map_drop] at k
    rw [show cutD (ps.map W.int) (some 1) none = (ps.map W.int).drop 1 from cutW_from _ 1]; exact k
  · rw [if_neg h] at k; exact k
theorem ok_mem_call (tx : Tx mg) (ckM : CK K c.C "_places") (d : Dm K "__call__" "Memory.__call__" s_Memory__call_ P_Memory__call_ f) (c_check_place : Fx P w K mg base 4 "check_place" (F_check_place.sp K c)) (c_after_move : Fx P w K mg base 3 "after_move" (F_after_move.sp K c)) (m_Memory : Ix P w K mg base 6 "Memory" c.C (spIni K c.C "_places" (preMem K))) : ∃ fd, FnOk P w K mg base CX0 8 f fd P_Memory__call_ (F_mcall.sp K c) ∧ Binds K fd P_Memory__call_ [] := by
  refine d.run (N := N_Memory__call_) (s := x_Memory__call_) sc_Memory__call_ rfl ?_ fun cdv A outer s H E hr => ⟨_, pss_cons (ps_expr (pe_f c_check_place hr (by first | exact Nat.le_refl _ | decide | omega) rfl (pa_cons (pv 1) (pa_nil))))
 (pss_one (ps_ret (pe_mkR m_Memory hr (by first | exact Nat.le_refl _ | decide | omega) rfl (pa_cons (pe_f c_after_move hr (by first | exact Nat.le_refl _ | decide | omega) rfl (pa_cons (pe_fld (pv 0) rfl) (pa_cons (pv 1) (pa_nil)))) pa_nil)))),
 es_seq (es_drop (ev_call (ea_cons (ev_var) (ea_nil))))
 (es_ret (ev_mkMem preM_of (ev_call (ea_cons (ev_fld ckM.cl ckM.na (ev_var)) (ea_cons (ev_var) (ea_nil))))))⟩
  rintro ⟨ps, p⟩ Q ⟨ok, hl, hp⟩ k
  have k : Q (.mem (aft ps p)) := k _ rfl
  simp only at ok hl hp
  simp only [XS.whole, ↓runA, ↓runC, ↓d_seq0, ↓d_seq1, ↓reduceIte, runB, ite_and, Decidable.not_not, forall_eq, List.map_cons, List.map_nil, List.cons_append, List.nil_append, List.replicate_succ, List.replicate_zero, List.append_nil, List.set_cons_zero, List.set_cons_succ, List.getElem?_cons_zero, List.getElem?_cons_succ, Option.some.injEq, List.cons.injEq, exists_and_left, exists_eq_left', exists_eq_left, exists_false, exists_const, forall_eq', forall_eq, ints_inj, Prod.exists, reduceCtorEq, List.length_cons, List.length_nil, implies_true, forall_const, decide_eq_true_eq, decide_eq_false_iff_not, List.getElem?_nil, List.set_nil, if_true, if_false, ite_true, ite_false, eq_self, Prod.mk.injEq, Co.lst.injEq, Co.dct.injEq, Fr.mk.injEq, exists_eq, exists_eq', exists_eq_right, exists_and_right, Nat.zero_le, Nat.zero_add, Nat.reduceAdd, Nat.reduceLT, Nat.reduceLeDiff, Nat.reduceEqDiff, List.mem_cons, List.not_mem_nil, List.nodup_cons, List.nodup_nil, List.forall_mem_cons, forall_eq_or_imp, List.getD_cons_zero, List.getD_cons_succ, List.mem_singleton, ne_eq, List.append_assoc, x_Memory__call_]
  exact ⟨hp, ok.1, by omega, okMem_aft ok hp hl, k⟩
theorem ok_mem_len (tx : Tx mg) (ckM : CK K c.C "_places") (d : Dm K "__len__" "Memory.__len__" s_Memory__len_ P_Memory__len_ f) : ∃ fd, FnOk P w K mg base CX0 1 f fd P_Memory__len_ (F_mlen.sp K c) ∧ Binds K fd P_Memory__len_ [] := by
  refine d.run (N := N_Memory__len_) (s := x_Memory__len_) sc_Memory__len_ rfl ?_ fun cdv A outer s H E hr => ⟨_, pss_one (ps_ret (pe_callB call_len_seq (by rfl) tx.b_len boot_len (pa_cons (pe_fld (pv 0) rfl) (pa_nil)))),
 es_ret (ev_fn (ea_cons (ev_fld ckM.cl ckM.na (ev_var)) (ea_nil)) en_len)⟩
  rintro ps Q _ k
  have k : Q (.int ps.length) := k _ rfl
  simp only [XS.whole, ↓runA, ↓runC, ↓d_seq0, ↓d_seq1, ↓reduceIte, runB, ite_and, Decidable.not_not, forall_eq, List.map_cons, List.map_nil, List.cons_append, List.nil_append, List.replicate_succ, List.replicate_zero, List.append_nil, List.set_cons_zero, List.set_cons_succ, List.getElem?_cons_zero, List.getElem?_cons_succ, Option.some.injEq, List.cons.injEq, exists_and_left, exists_eq_left', exists_eq_left, exists_false, exists_const, forall_eq', forall_eq, ints_inj, Prod.exists, reduceCtorEq, List.length_cons, List.length_nil, implies_true, forall_const, decide_eq_true_eq, decide_eq_false_iff_not, List.getElem?_nil, List.set_nil, if_true, if_false, ite_true, ite_false, eq_self, Prod.mk.injEq, Co.lst.injEq, Co.dct.injEq, Fr.mk.injEq, exists_eq, exists_eq', exists_eq_right, exists_and_right, Nat.zero_le, Nat.zero_add, Nat.reduceAdd, Nat.reduceLT, Nat.reduceLeDiff, Nat.reduceEqDiff, List.mem_cons, List.not_mem_nil, List.nodup_cons, List.nodup_nil, List.forall_mem_cons, forall_eq_or_imp, List.getD_cons_zero, List.getD_cons_succ, List.mem_singleton, ne_eq, List.append_assoc, x_Memory__len_]
  simpa using k
theorem ok_mem_eq (tx : Tx mg) (k_Memory : mg "Memory" = some (.ref c.C)) (ckM : CK K c.C "_places") (isM : OkIs K c false) (d : Dm K "__eq__" "Memory.__eq__" s_Memory__eq_ P_Memory__eq_ f) : ∃ fd, FnOk P w K mg base CX0 1 f fd P_Memory__eq_ (F_meq.sp K c) ∧ Binds K fd P_Memory__eq_ [] := by
  refine d.run (N := N_Memory__eq_) (s := x_Memory__eq_) sc_Memory__eq_ rfl ?_ fun cdv A outer s H E hr => ⟨_, pss_one (ps_ret (pe_and (pe_callB call_isi (by rfl) tx.b_isinstance boot_isinstance (pa_cons (pv 1) (pa_cons (pe_cls rfl k_Memory) pa_nil))) (pe_one (pe_cmpR (opEq hr.units) (pe_fld (pv 0) rfl) (pe_fld (pv 1) rfl) (nomark _))))),
 es_ret (ev_and (ev_fn (ea_cons (ev_var) (ea_cons ev_kls ea_nil)) (en_isiC isM)) (ev_op (ev_fld ckM.cl ckM.na (ev_var)) (ev_fld ckM.cl ckM.na (ev_var)) eoEq))⟩
  rintro ⟨ps, x⟩ Q hx k
  have k : Q (.bl (decide (.mem ps = x))) := k _ rfl
  have hx : x.eqr false := hx
  cases x <;> first | exact hx.elim | skip
  all_goals simp only [XS.whole, ↓runA, ↓runC, ↓d_seq0, ↓d_seq1, ↓reduceIte, runB, ite_and, Decidable.not_not, forall_eq, List.map_cons, List.map_nil, List.cons_append, List.nil_append, List.replicate_succ, List.replicate_zero, List.append_nil, List.set_cons_zero, List.set_cons_succ, List.getElem?_cons_zero, List.getElem?_cons_succ, Option.some.injEq, List.cons.injEq, exists_and_left, exists_eq_left', exists_eq_left, exists_false, exists_const, forall_eq', forall_eq, ints_inj, Prod.exists, reduceCtorEq, List.length_cons, List.length_nil, implies_true, forall_const, decide_eq_true_eq, decide_eq_false_iff_not, List.getElem?_nil, List.set_nil, if_true, if_false, ite_true, ite_false, eq_self, Prod.mk.injEq, Co.lst.injEq, Co.dct.injEq, Fr.mk.injEq, exists_eq, exists_eq', exists_eq_right, exists_and_right, Nat.zero_le, Nat.zero_add, Nat.reduceAdd, Nat.reduceLT, Nat.reduceLeDiff, Nat.reduceEqDiff, List.mem_cons, List.not_mem_nil, List.nodup_cons, List.nodup_nil, List.forall_mem_cons, forall_eq_or_imp, List.getD_cons_zero, List.getD_cons_succ, List.mem_singleton, ne_eq, List.append_assoc, x_Memory__eq_]
  · rw [decide_eq_false (fun h => by cases h)] at k; exact k
  · exact ⟨pl_intsT _, pl_intsT _, by simpa using k⟩
theorem ok_memory_of (tx : Tx mg) (d : Dn K mg "memory_of" s_memory_of P_memory_of) (c_check_row : Fx P w K mg base 4 "check_row" (F_check_row.sp K c)) (c_after_move : Fx P w K mg base 3 "after_move" (F_after_move.sp K c)) (m_Memory : Ix P w K mg base 6 "Memory" c.C (spIni K c.C "_places" (preMem K))) : Fx P w K mg base 8 "memory_of" (F_memory_of.sp K c) := by
  refine d.run (N := N_memory_of) (s := x_memory_of) sc_memory_of rfl ?_ fun f cdv A outer s H E hr => ⟨_, pss_cons (ps_expr (pe_f c_check_row hr (by first | exact Nat.le_refl _ | decide | omega) rfl (pa_cons (pv 0) (pa_nil))))
 (pss_cons (ps_set (i := 1) sc_memory_of.nd rfl (Or.inl rfl) (pe_tup (pa_cons (pe_int) (pa_nil))))
 (pss_cons (ps_for PassesOwn.never rfl (pi_seq (pv 0)) (pg_name (i := 2) sc_memory_of.nd rfl (Or.inl rfl)) (pss_one (ps_set (i := 1) sc_memory_of.nd rfl (Or.inl rfl) (pe_f c_after_move hr (by first | exact Nat.le_refl _ | decide | omega) rfl (pa_cons (pv 1) (pa_cons (pv 2) (pa_nil)))))))
 (pss_one (ps_ret (pe_mkR m_Memory hr (by first | exact Nat.le_refl _ | decide | omega) rfl (pa_cons (pv 1) pa_nil)))))),
 es_seq (es_drop (ev_call (ea_cons (ev_var) (ea_nil))))
 (es_seq (es_asg (ev_tup (ea_cons (ev_int) (ea_nil))) eg_name)
 (es_seq (es_for (ei_seq (ev_var)) (eg_name) (es_asg (ev_call (ea_cons (ev_var) (ea_cons (ev_var) (ea_nil)))) eg_name))
 (es_ret (ev_mkMem preM_of (ev_var)))))⟩
  rintro row Q ⟨hl, hp⟩ k
  have k : Q (.mem (memF row)) := k _ rfl
  have hl : row.length ≤ 1000 := hl
  simp only [XS.whole, ↓runA, ↓runC, ↓d_seq0, ↓d_seq1, ↓reduceIte, runB, ite_and, Decidable.not_not, forall_eq, List.map_cons, List.map_nil, List.cons_append, List.nil_append, List.replicate_succ, List.replicate_zero, List.append_nil, List.set_cons_zero, List.set_cons_succ, List.getElem?_cons_zero, List.getElem?_cons_succ, Option.some.injEq, List.cons.injEq, exists_and_left, exists_eq_left', exists_eq_left, exists_false, exists_const, forall_eq', forall_eq, ints_inj, Prod.exists, reduceCtorEq, List.length_cons, List.length_nil, implies_true, forall_const, decide_eq_true_eq, decide_eq_false_iff_not, List.getElem?_nil, List.set_nil, if_true, if_false, ite_true, ite_false, eq_self, Prod.mk.injEq, Co.lst.injEq, Co.dct.injEq, Fr.mk.injEq, exists_eq, exists_eq', exists_eq_right, exists_and_right, Nat.zero_le, Nat.zero_add, Nat.reduceAdd, Nat.reduceLT, Nat.reduceLeDiff, Nat.reduceEqDiff, List.mem_cons, List.not_mem_nil, List.nodup_cons, List.nodup_nil, List.forall_mem_cons, forall_eq_or_imp, List.getD_cons_zero, List.getD_cons_succ, List.mem_singleton, ne_eq, List.append_assoc, x_memory_of]
  refine ⟨hl, hp, fun i φ => ∃ a, φ = ⟨[some (.lst (row.map .int)), some (.tup ((memF (row.take i)).map .int)), a], none⟩, ⟨none, rfl⟩, ?_, ?_⟩
  · rintro i w φ hw ⟨a, rfl⟩
    obtain ⟨x, hx, rfl⟩ := mapW_at hw
    have ht : ∀ y ∈ row.take i, isPl y = true := fun y hy => hp y (List.mem_of_mem_take hy)
    have hm := okMem_memF ht (by rw [List.length_take]; omega)
    have e : memF (row.take (i + 1)) = aft (memF (row.take i)) x := by
      rw [List.take_add_one, hx]; exact memF_snoc _ _
    simp only [XS.whole, ↓runA, ↓runC, ↓d_seq0, ↓d_seq1, ↓reduceIte, runB, ite_and, Decidable.not_not, forall_eq, List.map_cons, List.map_nil, List.cons_append, List.nil_append, List.replicate_succ, List.replicate_zero, List.append_nil, List.set_cons_zero, List.set_cons_succ, List.getElem?_cons_zero, List.getElem?_cons_succ, Option.some.injEq, List.cons.injEq, exists_and_left, exists_eq_left', exists_eq_left, exists_false, exists_const, forall_eq', forall_eq, ints_inj, Prod.exists, reduceCtorEq, List.length_cons, List.length_nil, implies_true, forall_const, decide_eq_true_eq, decide_eq_false_iff_not, List.getElem?_nil, List.set_nil, if_true, if_false, ite_true, ite_false, eq_self, Prod.mk.injEq, Co.lst.injEq, Co.dct.injEq, Fr.mk.injEq, exists_eq, exists_eq', exists_eq_right, exists_and_right, Nat.zero_le, Nat.zero_add, Nat.reduceAdd, Nat.reduceLT, Nat.reduceLeDiff, Nat.reduceEqDiff, List.mem_cons, List.not_mem_nil, List.nodup_cons, List.nodup_nil, List.forall_mem_cons, forall_eq_or_imp, List.getD_cons_zero, List.getD_cons_succ, List.mem_singleton, ne_eq, List.append_assoc]
    rw [e]
    exact ⟨hm.1.1, hm.1.2.1, rfl⟩
  · rintro φ ⟨a, rfl⟩
    rw [List.length_map, List.take_length]
    simp only [XS.whole, ↓runA, ↓runC, ↓d_seq0, ↓d_seq1, ↓reduceIte, runB, ite_and, Decidable.not_not, forall_eq, List.map_cons, List.map_nil, List.cons_append, List.nil_append, List.replicate_succ, List.replicate_zero, List.append_nil, List.set_cons_zero, List.set_cons_succ, List.getElem?_cons_zero, List.getElem?_cons_succ, Option.some.injEq, List.cons.injEq, exists_and_left, exists_eq_left', exists_eq_left, exists_false, exists_const, forall_eq', forall_eq, ints_inj, Prod.exists, reduceCtorEq, List.length_cons, List.length_nil, implies_true, forall_const, decide_eq_true_eq, decide_eq_false_iff_not, List.getElem?_nil, List.set_nil, if_true, if_false, ite_true, ite_false, eq_self, Prod.mk.injEq, Co.lst.injEq, Co.dct.injEq, Fr.mk.injEq, exists_eq, exists_eq', exists_eq_right, exists_and_right, Nat.zero_le, Nat.zero_add, Nat.reduceAdd, Nat.reduceLT, Nat.reduceLeDiff, Nat.reduceEqDiff, List.mem_cons, List.not_mem_nil, List.nodup_cons, List.nodup_nil, List.forall_mem_cons, forall_eq_or_imp, List.getD_cons_zero, List.getD_cons_succ, List.mem_singleton, ne_eq, List.append_assoc]
    exact ⟨(okMem_memF hp (by omega)).1, k⟩
end
namespace L
/-! ### the law's numbers -/
namespace Old
/-! ### the law's numbers -/
section
variable {P : Program} {w : World} {K : PySem.W.Frag} {mg : Str → Option Value} {base : Heap}
theorem fx_len {k : Nat} {x : Str} {sp sp' : Sp} (c : Fx P w K mg base k x sp) (h : ∀ f, FnR P w K mg base CX0 k f sp → FnR P w K mg base CX0 k f sp') : Fx P w K mg base k x sp' := by
  obtain ⟨f, a, b, F⟩ := c.ex
  exact ⟨f, a, b, h f F⟩
theorem ifT {c : Bool} {A B : Prop} (hc : c = true) (h : A) : if c = true then A else B := by rw [if_pos hc]; exact h
theorem ifF {c : Bool} {A B : Prop} (hc : c = false) (h : B) : if c = true then A else B := by rw [hc, if_neg Bool.false_ne_true]; exact h
theorem at0 {a : Int} {r : List Int} : atI ((a :: r).map V.int) 0 = some (.int a) := atI_nat (j := 0) rfl
theorem at1 {a c : Int} {r : List Int} : atI ((a :: c :: r).map V.int) 1 = some (.int c) := atI_nat (j := 1) rfl
theorem ix0 {a : Int} {r : List Int} : ixN ((a :: r).map V.int).length 0 = some 0 := Evl.ixN_nat (j := 0) (by simp)
theorem ix1 {a c : Int} {r : List Int} : ixN ((a :: c :: r).map V.int).length 1 = some 1 := Evl.ixN_nat (j := 1) (by simp)
theorem ok_law_below (tx : Tx mg) (d : Dn K mg "_law_below" s__law_below P__law_below) : Fx P w K mg base 1 "_law_below" (spBelow K) := by
  refine fx_len (d.fx (N := N__law_below) (sp := spBelowL) sc__law_below (fun vs H Q E h => ?_) (fun f cdv A outer s H vs Q E hr h => ⟨_, pss_cons (ps_if ((PW.pt (pw_and (pt_cmpR op_eq (pe_ix ix_list (pv 0) (pe_int) (fun _ _ => rfl)) (pe_int) (nomark _)) (pw_and1 (pt_cmpR op_gt (pe_callB call_len_seq (by rfl) tx.b_len boot_len (pa_cons (pv 0) (pa_nil))) (pe_int) (nomark _)))))) (pss_one (ps_asg (pe_bm PySem.F.plainAttrs_list PySem.F.slot_list_pop PySem.F.type_list_pop mt_popAt (pv 0) (pa_cons (pe_int) (pa_nil))) (pg_sub (pv 0) (pe_int) set_list))) (pss_nil))
 (pss_cons (ps_if (pt_cmpR op_gt (pe_ix ix_list (pv 0) (pe_int) (fun _ _ => rfl)) (pe_int) (nomark _)) (pss_cons (ps_set (i := 2) sc__law_below.nd rfl (Or.inl rfl) (pe_op op_mod (pe_callTy call_int1 (by rfl) tx.b_int boot_int (pa_cons (pe_ix ix_list (pv 0) (pe_int) (fun _ _ => rfl)) (pa_nil))) (pv 1)))
 (pss_cons (ps_asg (pe_op op_fdiv (pe_ix ix_list (pv 0) (pe_int) (fun _ _ => rfl)) (pv 1)) (pg_sub (pv 0) (pe_int) set_list))
 (pss_one (ps_ret (pv 2))))) (pss_nil))
 (pss_cons (ps_asg (pe_op op_mod (pe_callTy call_int1 (by rfl) tx.b_int boot_int (pa_cons (pe_op op_add (pe_op op_mul (pe_ix ix_list (pv 0) (pe_int) (fun _ _ => rfl)) (pe_int)) (pe_int)) (pa_nil))) (pe_int)) (pg_sub (pv 0) (pe_int) set_list))
 (pss_one (ps_ret (pe_op op_mod (pe_callTy call_int1 (by rfl) tx.b_int boot_int (pa_cons (pe_op op_fdiv (pe_ix ix_list (pv 0) (pe_int) (fun _ _ => rfl)) (pe_int)) (pa_nil))) (pv 1)))))), ?_⟩)) fun f F => below_ext F
  · obtain ⟨d, ns, n, rfl, _⟩ := h
    rfl
  · obtain ⟨d, ns, n, rfl, hd, ok, ⟨n0, n1⟩, k⟩ := h
    have lim : n.natAbs < 1073741824 := by omega
    -- from a list that is okD on: the part behind the first if
    have rest : ∀ (ns : List Int), okD ns → ∀ H' : Hp, (∀ ms : List Int, upd H' d (.lst (ms.map V.int)) = upd H d (.lst (ms.map V.int))) → H' d = some (.lst (ns.map V.int)) →
        (tSeq (tIfS (tTest (tOp (rI0 fun i j => .bl (decide (j < i))) (tOp (rIxL K) (tVar 0) (tC (.int 1))) (tC (.int 0))))
          (tSeq (tAsg (tOp (rI (fun _ j => 0 < j) fun i j => .int (i % j)) (tCB (fun xs H Q => (∃ i, xs = [.int i] ∧ Q (.int i) H) ∨ ∃ k, xs = [.bl k] ∧ Q (.int (if k then 1 else 0)) H) (tCons (tOp (rIxL K) (tVar 0) (tC (.int 1))) tNil)) (tVar 1)) (gName 2))
            (tSeq (tAsg (tOp (rI CDiv fun i j => .int (i / j)) (tOp (rIxL K) (tVar 0) (tC (.int 1))) (tVar 1)) (gSub (tVar 0) (tC (.int 1)) rSetL)) (tRet (tVar 2)))) tNext)
          (tSeq (tAsg (tOp (rI (fun _ j => 0 < j) fun i j => .int (i % j)) (tCB (fun xs H Q => (∃ i, xs = [.int i] ∧ Q (.int i) H) ∨ ∃ k, xs = [.bl k] ∧ Q (.int (if k then 1 else 0)) H) (tCons (tOp (rI0 fun i j => .int (i + j)) (tOp (rI CMul fun i j => .int (i * j)) (tOp (rIxL K) (tVar 0) (tC (.int 0))) (tC (.int 48271))) (tC (.int 11))) tNil)) (tC (.int 2147483647))) (gSub (tVar 0) (tC (.int 0)) rSetL))
            (tRet (tOp (rI (fun _ j => 0 < j) fun i j => .int (i % j)) (tCB (fun xs H Q => (∃ i, xs = [.int i] ∧ Q (.int i) H) ∨ ∃ k, xs = [.bl k] ∧ Q (.int (if k then 1 else 0)) H) (tCons (tOp (rI CDiv fun i j => .int (i / j)) (tOp (rIxL K) (tVar 0) (tC (.int 0))) (tC (.int 64))) tNil)) (tVar 1)))))
        { nx := fun _ H' => Q .non H', rt := Q } [some (.ref d), some (.int n), none] H' := by
      intro ns ok H' hU hd
      obtain ⟨s, x, r, rfl, ⟨s0, s1⟩, x0, hr, hl⟩ := ok
      by_cases hx : 0 < x
      · refine ⟨_, rfl, d, _, _, _, rfl, rfl, Evl.sq_of hd, at1, _, _, rfl, rfl, _, rfl, ?_⟩
        refine ifT (decide_eq_true hx) ?_
        refine ⟨_, rfl, d, _, _, _, rfl, rfl, Evl.sq_of hd, at1, .inl ⟨x, rfl, _, rfl, x, n, rfl, rfl, n0, ?_⟩⟩
        refine ⟨_, rfl, d, _, _, _, rfl, rfl, Evl.sq_of hd, at1, _, rfl, x, n, rfl, rfl, ⟨n0, by omega⟩, _, rfl, d, _, _, 1, rfl, rfl, hd, ix1, ?_⟩
        refine ⟨_, rfl, ?_⟩
        have := k (x % n) (s :: x / n :: r) (Int.emod_nonneg _ (by omega)) (Int.emod_lt_of_pos _ n0) ⟨s, x / n, r, rfl, ⟨s0, s1⟩, Int.ediv_nonneg x0 (by omega), hr, hl⟩
        rw [← hU] at this
        exact this
      · refine ⟨_, rfl, d, _, _, _, rfl, rfl, Evl.sq_of hd, at1, _, _, rfl, rfl, _, rfl, ?_⟩
        refine ifF (decide_eq_false hx) ?_
        refine ⟨_, rfl, d, _, _, _, rfl, rfl, Evl.sq_of hd, at0, s, _, rfl, rfl, .inr ⟨by decide, by decide⟩, _, _, rfl, rfl, .inl ⟨_, rfl, _, _, rfl, rfl, (show (0 : Int) < 2147483647 by decide), _, rfl, d, _, _, 0, rfl, rfl, hd, ix0, ?_⟩⟩
        refine ⟨_, rfl, d, _, _, _, rfl, rfl, Evl.sq_of upd_same, at0, _, _, rfl, rfl, ⟨by decide, by decide⟩, .inl ⟨_, rfl, _, rfl, _, n, rfl, rfl, n0, ?_⟩⟩
        have := k ((s * 48271 + 11) % 2147483647 / 64 % n) (((s * 48271 + 11) % 2147483647) :: x :: r) (Int.emod_nonneg _ (by omega)) (Int.emod_lt_of_pos _ n0) ⟨_, x, r, rfl, ⟨Int.emod_nonneg _ (by decide), Int.emod_lt_of_pos _ (by decide)⟩, x0, hr, hl⟩
        rw [← hU] at this
        exact this
    obtain ⟨s, x, r, rfl, ⟨s0, s1⟩, x0, hr', hl⟩ := id ok
    refine ⟨_, rfl, d, _, _, .int x, rfl, rfl, Evl.sq_of hd, at1, rfl, _, rfl, ?_⟩
    by_cases hx : x = 0
    · subst hx
      refine ifT (by simp) ?_
      refine ⟨_, rfl, d, _, rfl, .inl (Evl.sq_of hd), _, _, rfl, rfl, _, rfl, ?_⟩
      cases r with
      | nil =>
        refine ifF (by simp) ?_
        exact rest _ ok H (fun _ => rfl) hd
      | cons y r =>
        refine ifT (by simp; omega) ?_
        refine ⟨_, rfl, .inl ⟨rfl, _, Evl.sq_of hd⟩, d, _, 2, 2, .int y, rfl, rfl, hd, by decide, by decide, (ixN_seq (Evl.ixN_nat (j := 2) (by simp))).1, rfl, ?_⟩
        refine ⟨_, rfl, d, _, _, 1, rfl, rfl, upd_same, ix1 (a := s) (c := 0) (r := r), ?_⟩
        refine rest (s :: y :: r) ⟨s, y, r, rfl, ⟨s0, s1⟩, hr' y List.mem_cons_self, fun z hz => hr' z (List.mem_cons_of_mem _ hz), by rw [List.length_cons] at hl; omega⟩ _ (fun ms => by rw [upd_upd, upd_upd]) upd_same
    · refine ifF (by simp [hx]) ?_
      exact rest _ ok H (fun _ => rfl) hd
end
section
variable {P : Program} {w : World} {K : PySem.W.Frag} {mg : Str → Option Value} {base : Heap}
theorem fnp_int {i : Int} : FnP (fun xs H Q => (∃ i, xs = [.int i] ∧ Q (.int i) H) ∨ ∃ k, xs = [.bl k] ∧ Q (.int (if k = true then 1 else 0)) H) [I K i] (I K i) := fnp_int1 fun H Q q => .inl ⟨i, rfl, q⟩
theorem map_int_get {ns : List Int} {i : Nat} {d : PyData} (hd : (ns.map PyData.int)[i]? = some d) : ∃ z, ns[i]? = some z ∧ d = .int z := by
  rw [List.getElem?_map] at hd
  cases e : ns[i]? with
  | none => rw [e] at hd; cases hd
  | some z => rw [e] at hd; exact ⟨z, rfl, (Option.some.inj hd).symm⟩
/-- a comprehension whose items are ints: as G says -/
def GI (K : PySem.W.Frag) (R : Nat → List Int → Prop) (i : Nat) (Ps : List Pr) : Prop := ∃ ms : List Int, Ps = ms.map (fun m => I K m) ∧ R i ms
theorem gi_data {R : Nat → List Int → Prop} {i : Nat} {v : V} {h : Hp} (q : (Pr.some fun Ps : { Ps // GI K R i Ps } => L K Ps.1).p v h) : ∃ ms, R i ms ∧ (D K (dI ms)).p v h := by
  obtain ⟨⟨Ps, ms, rfl, r⟩, q⟩ := q
  refine ⟨ms, r, l_data ?_⟩
  rw [List.map_map]
  exact q
theorem ok_law_random (tx : Tx mg) (d : Dn K mg "_law_random" s__law_random P__law_random) : Fx P w K mg base 1 "_law_random" (spRand K) := by
  refine fx_len (d.fx (N := N__law_random) (sp := spRandL K) sc__law_random (fun vs H Q E h => ?_) (fun f cdv A outer s H vs Q E hr h => ⟨_, pss_cons (ps_set (i := 2) sc__law_random.nd rfl (Or.inl rfl) (pv 1))
 (pss_cons (ps_for PassesOwn.never rfl (pi_list (pv 0)) (pg_name (i := 3) sc__law_random.nd rfl (Or.inl rfl)) (pss_one (ps_set (i := 2) sc__law_random.nd rfl (Or.inl rfl) (pe_op op_mod (pe_callTy call_int1 (by rfl) tx.b_int boot_int (pa_cons (pe_op op_add (pe_op op_mul (pv 2) (pe_int)) (pe_callB call_abs (by rfl) tx.b_abs boot_abs (pa_cons (pv 3) (pa_nil)))) (pa_nil))) (pe_int)))))
 (pss_one (ps_ret (pe_op op_cat (pe_lst (pa_cons (pv 2) (pa_cons (pe_int) (pa_nil)))) (pe_lc (own := [("_law_cell", 3)]) (g := gName 3) rfl sc__law_random.nd (pi_list (pv 0)) (blkOk_by (N := N__law_random) (sc := defScope s__law_random) (by decide +kernel)) (fun _ _ _ _ _ => pg_name (i := 3) sc__law_random.nd rfl (by first | exact Or.inl rfl | exact Or.inr rfl)) (fun _ _ _ _ _ => pts_one (pt_cmpR op_ge (pv 3) (pe_op op_pow (pe_int) (pe_int)) (nomark _))) (fun _ _ _ _ _ => pv 3)))))), ?_⟩)) fun f F => rand_ext F
  · obtain ⟨ns, n, h, e, q, _⟩ := h
    rw [q.len]; rfl
  · obtain ⟨ns, n, h, e, q, hn, hl, k⟩ := h
    have en := en_start (α := Unit) (args := fun _ => [Scr K ns, I K n]) (N := N__law_random) (ps := P__law_random) (a := ()) (fun _ => rfl) q
    revert en
    refine fun en => (?_ : Nx ⟨h, H, h⟩ _ none _) _ h H en ⟨Stp.refl e, fun _ _ q => q⟩ trivial
    refine q_asg (P := I K n) (t_var rfl) ?_
    refine q_seq ?_
    refine n_forLA (γ := { s : Int // 0 ≤ s ∧ s < 2147483647 }) (A := Scr K ns) (fun _ _ => True) (fun _ g => [some (Scr K ns), none, some (I K g.1), none]) (fun _ _ => none) ⟨n, by omega⟩ isL_scr (t_var rfl) trivial (le_same (le_skip (le_same (le_same le_nil)))) ?_ ?_
    · rintro hb i d ⟨s, s0, s1⟩ hd _
      obtain ⟨z, hz, rfl⟩ := map_int_get hd
      refine n_asg (P := I K ((s * 31 + (if z < 0 then -z else z)) % 2147483647)) (t_op (t_cb (ta_cons (t_op (t_op (t_var rfl) t_int (opp_IC (i := s) (j := 31) (.inl ⟨by omega, by omega⟩))) (t_cb (ta_cons (t_var rfl) ta_nil) fnp_abs) opp_I) ta_nil) fnp_int) t_int (opp_IC (by decide))) ?_
      refine n_pv ⟨(s * 31 + (if z < 0 then -z else z)) % 2147483647, Int.emod_nonneg _ (by decide), Int.emod_lt_of_pos _ (by decide)⟩ ?_ ?_ ?_
      · trivial
      · rfl
      · exact le_same (le_skip (le_same (le_skip le_nil)))
    · rintro hb ⟨s, s0, s1⟩ _
      refine n_retR fun σ h1 H1 x1 o1 => ?_
      have t1 : T [some (Scr K ns), none, some (I K s), none] (tLst (tCons (tVar 2) (tCons (tC (.int 0)) tNil))) (D K (dI [s, 0])) := t_lst (ds := [.int s, .int 0]) (ta_cons (t_var rfl) (ta_cons t_int ta_nil)) (by simp)
      refine raw_op t1 (t_lcLA (A := Scr K ns) (ds := ns.map PyData.int) (φ := fun i c => ∃ z, ns[i]? = some z ∧ c = decide ((10 : Int) ^ (18 : Int).toNat ≤ z)) (GI K fun i ms => (∀ y ∈ ms, 0 ≤ y) ∧ ms.length ≤ i) isL_scr (t_var rfl) ?_ ⟨[], rfl, by simp, Nat.le_refl _⟩ ?_ ?_ ?_ ?_) x1 o1.st.i fun u v h3 H3 s3 q1 q2 => ?_
      · rw [List.length_map]; omega
      · rintro i Ps ⟨ms, rfl, _, hm⟩
        rw [List.length_map]; exact hm
      · intro i d hd
        obtain ⟨z, hz, rfl⟩ := map_int_get hd
        exact tb_weak (tb_test (t_op (t_var rfl) (t_op t_int t_int (opp_IC ⟨by decide, by decide, by decide⟩)) opp_B)) fun c h => ⟨z, hz, h⟩
      · rintro i d hd ⟨z', hz', hc⟩ Ps ⟨ms, rfl, hm, hl'⟩
        obtain ⟨z, hz, rfl⟩ := map_int_get hd
        rw [hz'] at hz
        cases hz
        have hz0 : 0 ≤ z' := Int.le_trans (by decide) (of_decide_eq_true hc.symm)
        refine ⟨Unit, fun _ => I K z', t_some () (t_var rfl), fun _ => ⟨ms ++ [z'], by rw [List.map_append]; rfl, fun y hy => ?_, by rw [List.length_append, List.length_singleton]; omega⟩⟩
        rcases List.mem_append.mp hy with q | q
        · exact hm y q
        · rw [List.mem_singleton.mp q]; exact hz0
      · rintro i d hd _ Ps ⟨ms, rfl, hm, hl'⟩
        exact ⟨ms, rfl, hm, by omega⟩
      · obtain ⟨ms, ⟨hm, hl'⟩, q2⟩ := gi_data q2
        rw [List.length_map] at hl'
        obtain ⟨p1, rfl, hp1⟩ := dp_ints q1
        obtain ⟨p2, rfl, hp2⟩ := dp_ints q2
        refine ⟨p1, p2, _, _, rfl, rfl, s3.i _ _ hp1, s3.i _ _ hp2, ?_, fun r nr => ?_⟩
        · rw [List.length_map, List.length_map]
          refine Evl.sz_of ?_
          simp; omega
        · have e3 : Ex H H3 := fun a o z => s3.e a o (o1.st.e a o z)
          refine k r _ (s :: 0 :: ms) (Evl.fresh_back e3 nr) (fun a o z => by rw [upd_ne (ne_of_none (e3 a o z) nr)]; exact e3 a o z) ?_ ⟨s, 0, ms, rfl, ⟨s0, s1⟩, Int.le_refl 0, hm, by omega⟩
          rw [upd_same]
          rfl
end
end Old
abbrev F__law_random : XF := ⟨List Int × Int, 2, fun a => [.scr a.1, .int a.2], fun a => (0 ≤ a.2 ∧ a.2 < 1000000) ∧ a.1.length ≤ 63, fun a w => w = .src, by intros; rfl⟩
abbrev F__law_below : XF := ⟨Int, 2, fun a => [.src, .int a], fun a => 0 < a ∧ a < 1000000000, fun a w => ∃ r, (0 ≤ r ∧ r < a) ∧ w = .int r, by intros; rfl⟩
section
variable {P : Program} {w : World} {K : PySem.W.Frag} {mg : Str → Option Value} {base : Heap} {c : Z.Cl} {f p : Addr}
theorem ok_law_random (tx : Tx mg) (d : Dn K mg "_law_random" s__law_random P__law_random) : Fx P w K mg base 1 "_law_random" (F__law_random.sp K c) :=
  (Old.ok_law_random tx d).imp (xf_of (c := c) (F := F__law_random) (fun a => a) (fun a vs h q => q) (fun a p => p) fun a v h p q => ⟨.src, rfl, q⟩)
theorem ok_law_below (tx : Tx mg) (d : Dn K mg "_law_below" s__law_below P__law_below) : Fx P w K mg base 1 "_law_below" (F__law_below.sp K c) :=
  (Old.ok_law_below tx d).imp (xf_of (c := c) (F := F__law_below) (fun a => a) (fun a vs h q => q) (fun a p => p) fun a v h p q => by
    obtain ⟨r, q⟩ := q
    exact ⟨.int r.1, ⟨r.1, ⟨r.2.1, r.2.2⟩, rfl⟩, q⟩)
end
section
variable {ws : List W} {g : XG} {t : XT} {e : XE} {ρ : Sl} {Q : W → Prop}
/-- a comprehension whose items are drawn -/
theorem comp_ex {α : Type} (en : α → W) (p : α → Prop) (hs : ∀ (i : Nat) (w : W), ws[i]? = some w → g.f w ρ fun ρ' => t.f ρ' fun b => b = true ∧ e.f ρ' fun y => ∃ x, p x ∧ y = en x) (hd : ∀ l : List α, l.length = ws.length → (∀ x ∈ l, p x) → Q (.lst (l.map en))) : CompI ws g t e ρ Q := by
  refine ⟨fun i acc => ∃ l : List α, acc = l.map en ∧ l.length = i ∧ ∀ x ∈ l, p x, ⟨[], rfl, rfl, fun x hx => by cases hx⟩, fun i w acc hw ha => ?_, fun acc ⟨l, e, h1, h2⟩ => by rw [e]; exact hd l h1 h2⟩
  obtain ⟨l, rfl, h1, h2⟩ := ha
  refine g.m (fun ρ' z => t.m (fun b y => ⟨fun hb => e.m (fun v hv => ?_) y.2, fun hb => (by rw [y.1] at hb; cases hb)⟩) z) (hs i w hw)
  obtain ⟨x, hx, rfl⟩ := hv
  exact ⟨l ++ [x], by rw [List.map_append]; rfl, by rw [List.length_append, h1]; rfl, fun y hy => (List.mem_append.mp hy).elim (h2 y) fun z => by rw [List.mem_singleton.mp z]; exact hx⟩
theorem three {α : Type} {l : List α} (h : l.length = 3) : ∃ a b c, l = [a, b, c] := by
  match l, h with
  | [a, b, c], _ => exact ⟨a, b, c, rfl⟩
end
/-! ### the law's own rigs: trees -/
section
variable {P : Program} {w : World} {K : PySem.W.Frag} {mg : Str → Option Value} {base : Heap} {c : Z.Cl} {f p : Addr}
end
/-! ### rows and curves of the law's own rigs -/
theorem pl_ints (ns : List Int) : Pl 60 (.lst (ns.map .int)) := fun x hx => by
  obtain ⟨n, _, rfl⟩ := List.mem_map.mp hx
  exact trivial
section
variable {P : Program} {w : World} {K : PySem.W.Frag} {mg : Str → Option Value} {base : Heap} {c : Z.Cl} {f p : Addr}
end
/-! ### the law's trees are drawn; rigs are made of them -/
section
variable {P : Program} {w : World} {K : PySem.W.Frag} {mg : Str → Option Value} {base : Heap} {c : Z.Cl} {f p : Addr}
end
/-! ### rows are drawn; values are compared -/
theorem pl_in {B : Nat} {row : List Int} (h : inB B row) (hB : B ≤ 1000000) : ∀ x ∈ row, isPl x = true := fun x hx => by
  have := h x hx
  show (decide (-1000000 ≤ x) && decide (x ≤ 1000000)) = true
  rw [decide_eq_true (by omega), decide_eq_true (by omega)]; rfl
section
variable {P : Program} {w : World} {K : PySem.W.Frag} {mg : Str → Option Value} {base : Heap} {c : Z.Cl} {f p : Addr}
end
/-! ### memories by their meaning -/
abbrev F__law_memory : XF := ⟨List Int, 1, fun a => [.lst (a.map .int)], fun a => a.length ≤ 1000 ∧ ∀ x ∈ a, isPl x = true, fun a w => w = .tup ((memF a).map .int), by intros; rfl⟩
def x__law_memory : XS := .seq (.parN [1, 2, 3, 4] (.cons (.op oAdd (.lst (.cons (.lit (.int 0)) (.nil))) (.var 0)) (.here (.cons (.lit (.int 0)) (.cons (.lit (.bl true)) (.nil))))))
 (.whil (.val (.lit (.bl true))) (.seq (.asg (.name 5) (.sl (.var 1) (.at (.var 3)) .no))
 (.seq (.asg (.name 6) (.ite (.tru (.var 4)) (.fn .minL (.cons (.var 5) (.nil))) (.fn (.or .maxL .maxT) (.cons (.var 5) (.nil)))))
 (.seq (.asg (.name 7) (.op oIx (.comp (.rng1 (.cons (.fn .len (.cons (.var 5) (.nil))) (.nil))) (.name 8) (.val (.op oEq (.op oIx (.var 5) (.var 8)) (.var 6))) (.var 8) [8]) (.un .neg (.lit (.int 1)))))
 (.seq (.app 2 (.var 6))
 (.seq (.ifs (.val (.op oEq (.var 7) (.op oSub (.fn .len (.cons (.var 5) (.nil))) (.lit (.int 1))))) (.ret (.fn .tuple (.cons (.var 2) (.nil)))) (.next))
 (.par 3 4 (.cons (.op oAdd (.var 3) (.var 7)) (.cons (.notV (.var 4)) (.nil))))))))))
section
variable {P : Program} {w : World} {K : PySem.W.Frag} {mg : Str → Option Value} {base : Heap} {c : Z.Cl} {f p : Addr}
theorem ok_law_memory (tx : Tx mg) (d : Dn K mg "_law_memory" s__law_memory P__law_memory) : Fx P w K mg base 1 "_law_memory" (F__law_memory.sp K c) := by
  refine d.run (N := N__law_memory) (s := x__law_memory) sc__law_memory rfl ?_ fun f cdv A outer s H E hr => ⟨_, pss_cons (ps_asg (pe_tup (pa_cons (pe_op opAdd (pe_lst (pa_cons (pe_int) (pa_nil))) (pv 0)) (pa_cons (pe_lst pa_nil) (pa_cons (pe_int) (pa_cons (pe_bl) (pa_nil)))))) (pg_tup rfl (pgs_cons (pg_name (i := 1) sc__law_memory.nd rfl (Or.inl rfl)) (pgs_cons (pg_name (i := 2) sc__law_memory.nd rfl (Or.inl rfl)) (pgs_cons (pg_name (i := 3) sc__law_memory.nd rfl (Or.inl rfl)) (pgs_cons (pg_name (i := 4) sc__law_memory.nd rfl (Or.inl rfl)) (pgs_nil)))))))
 (pss_one (ps_while PassesOwn.never (pt_val (pe_bl)) (pss_cons (ps_set (i := 5) sc__law_memory.nd rfl (Or.inr rfl) (pe_slice (SlR.or sl_list sl_tupA) (pv 1) (po_some (pv 3)) po_none))
 (pss_cons (ps_set (i := 6) sc__law_memory.nd rfl (Or.inr rfl) (pe_ifExp (pt_truth (pv 4) (fun _ => rfl)) (pe_callB (cr_min rfl) (by rfl) tx.b_min boot_min (pa_cons (pv 5) (pa_nil))) (pe_callB (CallR.or (cr_max rfl) (cr_maxT rfl)) (by rfl) tx.b_max boot_max (pa_cons (pv 5) (pa_nil)))))
 (pss_cons (ps_set (i := 7) sc__law_memory.nd rfl (Or.inl rfl) (pe_ix ix_lt (pe_lc (own := [("_law_k", 8)]) (g := gName 8) rfl sc__law_memory.nd (pi_range1 rfl tx.b_range (pa_cons (pe_callB call_len_seq (by rfl) tx.b_len boot_len (pa_cons (pv 5) (pa_nil))) (pa_nil))) (blkOk_by (N := N__law_memory) (sc := defScope s__law_memory) (by decide +kernel)) (fun _ _ _ _ _ => pg_name (i := 8) sc__law_memory.nd rfl (by first | exact Or.inl rfl | exact Or.inr rfl)) (fun _ _ _ _ _ => pts_one (pt_cmpR (opEq hr.units) (pe_ix ix_lt (pv 5) (pv 8) (fun _ _ => rfl)) (pv 6) (nomark _))) (fun _ _ _ _ _ => (by exact pv 8))) (pe_un un_neg (pe_int)) (fun _ _ => rfl)))
 (pss_cons (ps_expr (pe_bm PySem.F.plainAttrs_list PySem.F.slot_list_append PySem.F.type_list_append mt_append (pv 2) (pa_cons (pv 6) pa_nil)))
 (pss_cons (ps_if (pt_cmpR (opEq hr.units) (pv 7) (pe_op opSub (pe_callB call_len_seq (by rfl) tx.b_len boot_len (pa_cons (pv 5) (pa_nil))) (pe_int)) (nomark _)) (pss_one (ps_ret (pe_callTy call_tuple_of (by rfl) tx.b_tuple boot_tuple (pa_cons (pv 2) (pa_nil))))) (pss_nil))
 (pss_one (ps_par (i := 3) (j := 4) rfl sc__law_memory.nd rfl rfl (by decide) rfl rfl (pa_cons (pe_op opAdd (pv 3) (pv 7)) (pa_cons (pe_not (pv 4)) (pa_nil))) (by rfl)))))))))),
 es_seq (es_parN (is := [1, 2, 3, 4]) (ean_cons (ev_op (ev_lst (ea_cons (ev_int) (ea_nil))) (ev_var) eoAdd) (ean_here (ea_cons (ev_int) (ea_cons (ev_bl) (ea_nil))))) rfl)
 (es_while (et_b (ev_bl)) (es_seq (es_asg (ev_sl (ev_var) (ep_at (ev_var)) ep_no) eg_name)
 (es_seq (es_asg (ev_ite (et_tru (ev_var)) (ev_fn (ea_cons (ev_var) (ea_nil)) en_minL) (ev_fn (ea_cons (ev_var) (ea_nil)) (en_or en_maxL en_maxT))) eg_name)
 (es_seq (es_asg (ev_op (ev_comp (ei_rng1 (ea_cons (ev_fn (ea_cons (ev_var) (ea_nil)) en_len) (ea_nil))) (eg_name) (et_test (ev_op (ev_op (ev_var) (ev_var) eoIx) (ev_var) eoEq)) (ev_var) (by decide)) (ev_un (ev_int) eu_neg) eoIx) eg_name)
 (es_seq (es_app (ev_var))
 (es_seq (es_if (et_test (ev_op (ev_var) (ev_op (ev_fn (ea_cons (ev_var) (ea_nil)) en_len) (ev_int) eoSub) eoEq)) (es_ret (ev_fn (ea_cons (ev_var) (ea_nil)) en_tuple)) (es_next))
 (es_par (ea_cons (ev_op (ev_var) (ev_var) eoAdd) (ea_cons (ev_not (ev_var)) (ea_nil))))))))))⟩
  rintro row Q ⟨hz, hp⟩ k
  have k : Q (.tup ((memF row).map .int)) := k _ rfl
  have hz : row.length ≤ 1000 := hz
  simp only [XS.whole, ↓runA, ↓runC, ↓d_seq0, ↓d_seq1, ↓reduceIte, runB, ite_and, Decidable.not_not, forall_eq, List.map_cons, List.map_nil, List.cons_append, List.nil_append, List.replicate_succ, List.replicate_zero, List.append_nil, List.set_cons_zero, List.set_cons_succ, List.getElem?_cons_zero, List.getElem?_cons_succ, Option.some.injEq, List.cons.injEq, exists_and_left, exists_eq_left', exists_eq_left, exists_false, exists_const, forall_eq', forall_eq, ints_inj, Prod.exists, reduceCtorEq, List.length_cons, List.length_nil, implies_true, forall_const, decide_eq_true_eq, decide_eq_false_iff_not, List.getElem?_nil, List.set_nil, if_true, if_false, ite_true, ite_false, eq_self, Prod.mk.injEq, Co.lst.injEq, Co.dct.injEq, Fr.mk.injEq, exists_eq, exists_eq', exists_eq_right, exists_and_right, Nat.zero_le, Nat.zero_add, Nat.reduceAdd, Nat.reduceLT, Nat.reduceLeDiff, Nat.reduceEqDiff, List.mem_cons, List.not_mem_nil, List.nodup_cons, List.nodup_nil, List.forall_mem_cons, forall_eq_or_imp, List.getD_cons_zero, List.getD_cons_succ, List.mem_singleton, ne_eq, List.append_assoc, x__law_memory]
  have ml := (okMem_memF (row := row) hp (by omega)).2
  refine ⟨by rw [List.length_map]; omega, fun m φ => ∃ (at_ : Nat) (found : List Int) (low : Bool) (ms : List Int) (a b d : Option W), found ++ ms = memF row ∧ Mean low ((0 :: row).drop at_) ms ∧ m = ms.length ∧ φ = ⟨[some (.lst (row.map .int)), some (.lst (.int 0 :: row.map .int)), none, some (.int (at_ : Int)), some (.bl low), a, b, d, none], some (2, .lst (found.map .int))⟩, ⟨_, 0, [], true, memF row, none, none, none, rfl, mean_mem row, rfl, rfl⟩, ?_⟩
  rintro m φ ⟨at_, found, low, ms, a, b, d, hf, M, rfl, rfl⟩
  generalize hleft : (0 :: row).drop at_ = left at M
  have hne := M.ne
  have hll : left.length ≤ 1001 := by rw [← hleft, List.length_drop, List.length_cons]; omega
  have hfl : found.length ≤ 1001 := by
    have := congrArg List.length hf
    rw [List.length_append] at this
    omega
  simp only [XS.whole, ↓runA, ↓runC, ↓reduceIte, runB, ite_and, Decidable.not_not, forall_eq, List.map_cons, List.map_nil, List.cons_append, List.nil_append, List.replicate_succ, List.replicate_zero, List.append_nil, List.set_cons_zero, List.set_cons_succ, List.getElem?_cons_zero, List.getElem?_cons_succ, Option.some.injEq, List.cons.injEq, exists_and_left, exists_eq_left', exists_eq_left, exists_false, exists_const, forall_eq', forall_eq, ints_inj, Prod.exists, reduceCtorEq, List.length_cons, List.length_nil, implies_true, forall_const, decide_eq_true_eq, decide_eq_false_iff_not, List.getElem?_nil, List.set_nil, if_true, if_false, ite_true, ite_false, eq_self, Prod.mk.injEq, Co.lst.injEq, Co.dct.injEq, Fr.mk.injEq, exists_eq, exists_eq', exists_eq_right, exists_and_right, Nat.zero_le, Nat.zero_add, Nat.reduceAdd, Nat.reduceLT, Nat.reduceLeDiff, Nat.reduceEqDiff, List.mem_cons, List.not_mem_nil, List.nodup_cons, List.nodup_nil, List.forall_mem_cons, forall_eq_or_imp, List.getD_cons_zero, List.getD_cons_succ, List.mem_singleton, ne_eq, List.append_assoc, Z.Fr.rev]
  (rw [d_seq1]; simp only [XS.whole, ↓runA, ↓runC, ↓reduceIte, runB, ite_and, Decidable.not_not, forall_eq, List.map_cons, List.map_nil, List.cons_append, List.nil_append, List.replicate_succ, List.replicate_zero, List.append_nil, List.set_cons_zero, List.set_cons_succ, List.getElem?_cons_zero, List.getElem?_cons_succ, Option.some.injEq, List.cons.injEq, exists_and_left, exists_eq_left', exists_eq_left, exists_false, exists_const, forall_eq', forall_eq, ints_inj, Prod.exists, reduceCtorEq, List.length_cons, List.length_nil, implies_true, forall_const, decide_eq_true_eq, decide_eq_false_iff_not, List.getElem?_nil, List.set_nil, if_true, if_false, ite_true, ite_false, eq_self, Prod.mk.injEq, Co.lst.injEq, Co.dct.injEq, Fr.mk.injEq, exists_eq, exists_eq', exists_eq_right, exists_and_right, Nat.zero_le, Nat.zero_add, Nat.reduceAdd, Nat.reduceLT, Nat.reduceLeDiff, Nat.reduceEqDiff, List.mem_cons, List.not_mem_nil, List.nodup_cons, List.nodup_nil, List.forall_mem_cons, forall_eq_or_imp, List.getD_cons_zero, List.getD_cons_succ, List.mem_singleton, ne_eq, List.append_assoc])
  rw [show Z.cutD (W.int 0 :: row.map W.int) (some (at_ : Int)) none = left.map W.int by rw [show W.int 0 :: row.map W.int = (0 :: row).map W.int from rfl, cutW_from, ← List.map_drop, hleft]]
  apply two_waysG (β := Int) (p := fun m => m ∈ left ∧ ∀ y ∈ left, leB low m y)
  case h =>
    intro rest
    (rw [d_seq1]; simp only [XS.whole, ↓runA, ↓runC, ↓reduceIte, runB, ite_and, Decidable.not_not, forall_eq, List.map_cons, List.map_nil, List.cons_append, List.nil_append, List.replicate_succ, List.replicate_zero, List.append_nil, List.set_cons_zero, List.set_cons_succ, List.getElem?_cons_zero, List.getElem?_cons_succ, Option.some.injEq, List.cons.injEq, exists_and_left, exists_eq_left', exists_eq_left, exists_false, exists_const, forall_eq', forall_eq, ints_inj, Prod.exists, reduceCtorEq, List.length_cons, List.length_nil, implies_true, forall_const, decide_eq_true_eq, decide_eq_false_iff_not, List.getElem?_nil, List.set_nil, if_true, if_false, ite_true, ite_false, eq_self, Prod.mk.injEq, Co.lst.injEq, Co.dct.injEq, Fr.mk.injEq, exists_eq, exists_eq', exists_eq_right, exists_and_right, Nat.zero_le, Nat.zero_add, Nat.reduceAdd, Nat.reduceLT, Nat.reduceLeDiff, Nat.reduceEqDiff, List.mem_cons, List.not_mem_nil, List.nodup_cons, List.nodup_nil, List.forall_mem_cons, forall_eq_or_imp, List.getD_cons_zero, List.getD_cons_succ, List.mem_singleton, ne_eq, List.append_assoc])
    refine ⟨fun e => ⟨hne, fun m hm hle => ?_⟩, fun e => ⟨hne, fun m hm hle => ?_⟩⟩
    · exact rest m ⟨hm, fun y hy => by rw [e]; simp [leB]; exact hle y hy⟩
    · exact rest m ⟨hm, fun y hy => by rw [e]; simp [leB]; exact hle y hy⟩
  case rest =>
    rintro p ⟨m1, m2⟩
    obtain ⟨j, j1, j2, j3, j4⟩ := mean_at M m1 m2
    (rw [d_seq1]; simp only [XS.whole, ↓runA, ↓runC, ↓reduceIte, runB, ite_and, Decidable.not_not, forall_eq, List.map_cons, List.map_nil, List.cons_append, List.nil_append, List.replicate_succ, List.replicate_zero, List.append_nil, List.set_cons_zero, List.set_cons_succ, List.getElem?_cons_zero, List.getElem?_cons_succ, Option.some.injEq, List.cons.injEq, exists_and_left, exists_eq_left', exists_eq_left, exists_false, exists_const, forall_eq', forall_eq, ints_inj, Prod.exists, reduceCtorEq, List.length_cons, List.length_nil, implies_true, forall_const, decide_eq_true_eq, decide_eq_false_iff_not, List.getElem?_nil, List.set_nil, if_true, if_false, ite_true, ite_false, eq_self, Prod.mk.injEq, Co.lst.injEq, Co.dct.injEq, Fr.mk.injEq, exists_eq, exists_eq', exists_eq_right, exists_and_right, Nat.zero_le, Nat.zero_add, Nat.reduceAdd, Nat.reduceLT, Nat.reduceLeDiff, Nat.reduceEqDiff, List.mem_cons, List.not_mem_nil, List.nodup_cons, List.nodup_nil, List.forall_mem_cons, forall_eq_or_imp, List.getD_cons_zero, List.getD_cons_succ, List.mem_singleton, ne_eq, List.append_assoc])
    rw [show ((left.map W.int).length : Int).toNat = left.length by rw [List.length_map]; omega]
    refine ⟨by rw [List.length_map]; omega, by rw [List.length_map]; omega, by rw [rgW_len]; omega, ?_⟩
    refine comp_flt (fun i => decide (left.getD i 0 = p)) (fun i => .int (i : Int)) (fun i w hw => ?_) ?_
    · obtain ⟨hi, rfl⟩ := rgW_at hw
      have e : (0 + (i : Int)) = (i : Int) := Int.zero_add _
      rw [e]
      simp only [XS.whole, ↓runA, ↓runC, ↓d_seq0, ↓d_seq1, ↓reduceIte, runB, ite_and, Decidable.not_not, forall_eq, List.map_cons, List.map_nil, List.cons_append, List.nil_append, List.replicate_succ, List.replicate_zero, List.append_nil, List.set_cons_zero, List.set_cons_succ, List.getElem?_cons_zero, List.getElem?_cons_succ, Option.some.injEq, List.cons.injEq, exists_and_left, exists_eq_left', exists_eq_left, exists_false, exists_const, forall_eq', forall_eq, ints_inj, Prod.exists, reduceCtorEq, List.length_cons, List.length_nil, implies_true, forall_const, decide_eq_true_eq, decide_eq_false_iff_not, List.getElem?_nil, List.set_nil, if_true, if_false, ite_true, ite_false, eq_self, Prod.mk.injEq, Co.lst.injEq, Co.dct.injEq, Fr.mk.injEq, exists_eq, exists_eq', exists_eq_right, exists_and_right, Nat.zero_le, Nat.zero_add, Nat.reduceAdd, Nat.reduceLT, Nat.reduceLeDiff, Nat.reduceEqDiff, List.mem_cons, List.not_mem_nil, List.nodup_cons, List.nodup_nil, List.forall_mem_cons, forall_eq_or_imp, List.getD_cons_zero, List.getD_cons_succ, List.mem_singleton, ne_eq, List.append_assoc]
      exact ⟨_, at_getD hi, rfl⟩
    · rw [rgW_len]
      have en : atI (((List.range left.length).filter fun i => decide (left.getD i 0 = p)).map fun (i : Nat) => W.int (i : Int)) (-1) = some (.int (j : Int)) := at_end (by
        rw [List.getLast?_map, flt_end (p := fun i => decide (left.getD i 0 = p)) (j := j) (decide_eq_true j2) j1 fun q q1 q2 => decide_eq_false (j3 q q1 q2)]; rfl)
      simp only [XS.whole, ↓runA, ↓runC, ↓reduceIte, runB, ite_and, Decidable.not_not, forall_eq, List.map_cons, List.map_nil, List.cons_append, List.nil_append, List.replicate_succ, List.replicate_zero, List.append_nil, List.set_cons_zero, List.set_cons_succ, List.getElem?_cons_zero, List.getElem?_cons_succ, Option.some.injEq, List.cons.injEq, exists_and_left, exists_eq_left', exists_eq_left, exists_false, exists_const, forall_eq', forall_eq, ints_inj, Prod.exists, reduceCtorEq, List.length_cons, List.length_nil, implies_true, forall_const, decide_eq_true_eq, decide_eq_false_iff_not, List.getElem?_nil, List.set_nil, if_true, if_false, ite_true, ite_false, eq_self, Prod.mk.injEq, Co.lst.injEq, Co.dct.injEq, Fr.mk.injEq, exists_eq, exists_eq', exists_eq_right, exists_and_right, Nat.zero_le, Nat.zero_add, Nat.reduceAdd, Nat.reduceLT, Nat.reduceLeDiff, Nat.reduceEqDiff, List.mem_cons, List.not_mem_nil, List.nodup_cons, List.nodup_nil, List.forall_mem_cons, forall_eq_or_imp, List.getD_cons_zero, List.getD_cons_succ, List.mem_singleton, ne_eq, List.append_assoc]
      refine ⟨_, en, ?_⟩
      dsimp only
      (rw [d_seq1]; simp only [XS.whole, ↓runA, ↓runC, ↓reduceIte, runB, ite_and, Decidable.not_not, forall_eq, List.map_cons, List.map_nil, List.cons_append, List.nil_append, List.replicate_succ, List.replicate_zero, List.append_nil, List.set_cons_zero, List.set_cons_succ, List.getElem?_cons_zero, List.getElem?_cons_succ, Option.some.injEq, List.cons.injEq, exists_and_left, exists_eq_left', exists_eq_left, exists_false, exists_const, forall_eq', forall_eq, ints_inj, Prod.exists, reduceCtorEq, List.length_cons, List.length_nil, implies_true, forall_const, decide_eq_true_eq, decide_eq_false_iff_not, List.getElem?_nil, List.set_nil, if_true, if_false, ite_true, ite_false, eq_self, Prod.mk.injEq, Co.lst.injEq, Co.dct.injEq, Fr.mk.injEq, exists_eq, exists_eq', exists_eq_right, exists_and_right, Nat.zero_le, Nat.zero_add, Nat.reduceAdd, Nat.reduceLT, Nat.reduceLeDiff, Nat.reduceEqDiff, List.mem_cons, List.not_mem_nil, List.nodup_cons, List.nodup_nil, List.forall_mem_cons, forall_eq_or_imp, List.getD_cons_zero, List.getD_cons_succ, List.mem_singleton, ne_eq, List.append_assoc])
      refine ⟨by rw [List.length_map]; omega, ?_⟩
      (rw [d_seq1]; simp only [XS.whole, ↓runA, ↓runC, ↓reduceIte, runB, ite_and, Decidable.not_not, forall_eq, List.map_cons, List.map_nil, List.cons_append, List.nil_append, List.replicate_succ, List.replicate_zero, List.append_nil, List.set_cons_zero, List.set_cons_succ, List.getElem?_cons_zero, List.getElem?_cons_succ, Option.some.injEq, List.cons.injEq, exists_and_left, exists_eq_left', exists_eq_left, exists_false, exists_const, forall_eq', forall_eq, ints_inj, Prod.exists, reduceCtorEq, List.length_cons, List.length_nil, implies_true, forall_const, decide_eq_true_eq, decide_eq_false_iff_not, List.getElem?_nil, List.set_nil, if_true, if_false, ite_true, ite_false, eq_self, Prod.mk.injEq, Co.lst.injEq, Co.dct.injEq, Fr.mk.injEq, exists_eq, exists_eq', exists_eq_right, exists_and_right, Nat.zero_le, Nat.zero_add, Nat.reduceAdd, Nat.reduceLT, Nat.reduceLeDiff, Nat.reduceEqDiff, List.mem_cons, List.not_mem_nil, List.nodup_cons, List.nodup_nil, List.forall_mem_cons, forall_eq_or_imp, List.getD_cons_zero, List.getD_cons_succ, List.mem_singleton, ne_eq, List.append_assoc])
      rw [List.length_map]
      refine ⟨fun e => ?_, fun e => ?_⟩
      · rcases j4 with ⟨_, rfl⟩ | ⟨q, _⟩
        · rw [show (found.map W.int) ++ [W.int p] = (found ++ [p]).map W.int by rw [List.map_append]; rfl, hf]
          exact k
        · omega
      · rcases j4 with ⟨q, _⟩ | ⟨q, ms', rfl, M'⟩
        · omega
        · exact ⟨ms'.length, by rw [List.length_cons]; omega, at_ + j, found ++ [p], !low, ms', by rw [List.append_assoc]; exact hf, by rw [← List.drop_drop, hleft]; exact M', rfl, by omega, rfl, by rw [List.map_append]; rfl⟩
end
abbrev F_law : XF := ⟨List Int, 1, fun a => [.scr a], fun a => a.length ≤ 63, fun a w => w = .bl true, by intros; rfl⟩
def x_law : XS := .seq (.asg (.name 1) (.call F__law_random (.cons (.var 0) (.cons (.lit (.int 16)) (.nil)))))
 (.seq (.asg (.name 2) (.op oAdd (.lit (.int 1)) (.call F__law_below (.cons (.var 1) (.cons (.lit (.int 4)) (.nil))))))
 (.seq (.asg (.name 3) (.op oIx (.lst (.cons (.lit (.int 0)) (.cons (.op oSub (.lit (.int 0)) (.lit (.int 1))) (.nil)))) (.call F__law_below (.cons (.var 1) (.cons (.lit (.int 2)) (.nil))))))
 (.seq (.asg (.name 5) (.comp (.rng1 (.cons (.call F__law_below (.cons (.var 1) (.cons (.lit (.int 9)) (.nil)))) (.nil))) (.name 4) .yes (.op oAdd (.var 3) (.call F__law_below (.cons (.var 1) (.cons (.op oAdd (.op oSub (.var 2) (.var 3)) (.lit (.int 1))) (.nil))))) [4]))
 (.seq (.asg (.name 6) (.call F_memory_of (.cons (.var 5) (.nil))))
 (.seq (.ifs (.or (.val (.op (.or (.ownNe false F_meq) oNe) (.call F_memory_of (.cons (.prop false F_row (.var 6)) (.nil))) (.var 6))) (.val (.op oGt (.fn (.or (.ownLen false F_mlen) .len) (.cons (.prop false F_row (.var 6)) (.nil))) (.fn (.or (.ownLen false F_mlen) .len) (.cons (.var 5) (.nil)))))) (.ret (.lit (.bl false))) (.next))
 (.seq (.asg (.name 7) (.lst (.cons (.lst (.nil)) (.nil))))
 (.seq (.forr (.rng1 (.cons (.fn (.ii fun i j => .int (min i j)) (.cons (.lit (.int 4)) (.cons (.fn (.or (.ownLen false F_mlen) .len) (.cons (.prop false F_row (.var 6)) (.nil))) (.nil)))) (.nil))) (.name 8) (.seq (.ifs (.val (.op (.or (.ownNe false F_meq) oNe) (.comp (.seq (.var 7)) (.name 9) (.val (.op (.or (.ownEq false F_meq) oEq) (.call F__law_memory (.cons (.var 9) (.nil))) (.prop false F_places (.var 6)))) (.var 9) [9]) (.lst (.nil)))) (.ret (.lit (.bl false))) (.next))
 (.seq (.asg (.name 10) (.lst (.nil)))
 (.seq (.forr (.seq (.var 7)) (.name 9) (.asg (.name 10) (.op oAdd (.var 10) (.comp (.rng2 (.cons (.var 3) (.cons (.op oAdd (.var 2) (.lit (.int 1))) (.nil)))) (.name 12) .yes (.op oAdd (.var 9) (.lst (.cons (.var 12) (.nil)))) [12]))))
 (.asg (.name 7) (.var 10))))))
 (.seq (.asg (.name 11) (.prop false F_row (.var 6)))
 (.seq (.forr (.rng1 (.cons (.fn (.or (.ownLen false F_mlen) .len) (.cons (.var 11) (.nil))) (.nil))) (.name 4) (.ifs (.val (.op (.or (.ownEq false F_meq) oEq) (.call F_memory_of (.cons (.op oAdd (.sl (.var 11) .no (.at (.var 4))) (.sl (.var 11) (.at (.op oAdd (.var 4) (.lit (.int 1)))) .no)) (.nil))) (.var 6))) (.ret (.lit (.bl false))) (.next)))
 (.ret (.op (.or (.ownEq false F_meq) oEq) (.op oSub (.fn (.or (.ownLen false F_mlen) .len) (.cons (.var 6) (.nil))) (.fn .int1 (.cons (.op (.or (.ownEq false F_meq) oEq) (.op oIx (.prop false F_places (.var 6)) (.lit (.int 0))) (.lit (.int 0))) (.nil)))) (.fn (.or (.ownLen false F_mlen) .len) (.cons (.var 11) (.nil))))))))))))))
section
variable {P : Program} {w : World} {K : PySem.W.Frag} {mg : Str → Option Value} {base : Heap} {c : Z.Cl} {f p : Addr}
theorem ok_law {fd : FuncData} (tx : Tx mg) (ckM : CK K c.C "_places") (okM : OkEq K c false) (d : L2.Fun K "law" "law" s_law f fd) (c__law_random : Fx P w K mg base 1 "_law_random" (F__law_random.sp K c)) (c__law_below : Fx P w K mg base 1 "_law_below" (F__law_below.sp K c)) (c__law_memory : Fx P w K mg base 1 "_law_memory" (F__law_memory.sp K c)) (c_memory_of : Fx P w K mg base 8 "memory_of" (F_memory_of.sp K c)) (m_len : Mx P w K mg base 1 c.C "__len__" (F_mlen.sp K c)) (m_eq : Mx P w K mg base 1 c.C "__eq__" (F_meq.sp K c)) (gx_places : Gx P w K mg base 1 c.C "places" (F_places.sp K c)) (gx_row : Gx P w K mg base 1 c.C "row" (F_row.sp K c)) : FnOk P w K mg base CX0 12 f fd P_law (F_law.sp K c) := by
  refine fun_run d (N := N_law) (s := x_law) sc_law rfl ?_ fun cdv A outer s H E hr => ⟨_, pss_cons (ps_set (i := 1) sc_law.nd rfl (Or.inr rfl) (pe_f c__law_random hr (by first | exact Nat.le_refl _ | decide | omega) rfl (pa_cons (pv 0) (pa_cons (pe_int) (pa_nil)))))
 (pss_cons (ps_set (i := 2) sc_law.nd rfl (Or.inr rfl) (pe_op opAdd (pe_int) (pe_f c__law_below hr (by first | exact Nat.le_refl _ | decide | omega) rfl (pa_cons (pv 1) (pa_cons (pe_int) (pa_nil))))))
 (pss_cons (ps_set (i := 3) sc_law.nd rfl (Or.inr rfl) (pe_ix ix_lt (pe_lst (pa_cons (pe_int) (pa_cons (pe_op opSub (pe_int) (pe_int)) (pa_nil)))) (pe_f c__law_below hr (by first | exact Nat.le_refl _ | decide | omega) rfl (pa_cons (pv 1) (pa_cons (pe_int) (pa_nil)))) (fun _ _ => rfl)))
 (pss_cons (ps_setLc (i := 5) (own := [("_law_k", 4)]) (g := gName 4) (tt := tYes) rfl sc_law.nd rfl rfl (sw_true rfl rfl rfl (by decide +kernel)) (pi_range1 rfl tx.b_range (pa_cons (pe_f c__law_below hr (by first | exact Nat.le_refl _ | decide | omega) rfl (pa_cons (pv 1) (pa_cons (pe_int) (pa_nil)))) (pa_nil))) (blkOk_by (N := N_law) (sc := defScope s_law) (by decide +kernel)) (fun _ _ _ _ _ => pg_name (i := 4) sc_law.nd rfl (by first | exact Or.inl rfl | exact Or.inr rfl)) (fun _ _ _ _ _ => pts_nil) (fun _ _ _ _ _ => (by exact pe_op opAdd (pv 3) (pe_f c__law_below hr (by first | exact Nat.le_refl _ | decide | omega) rfl (pa_cons (pv 1) (pa_cons (pe_op opAdd (pe_op opSub (pv 2) (pv 3)) (pe_int)) (pa_nil)))))))
 (pss_cons (ps_set (i := 6) sc_law.nd rfl (Or.inr rfl) (pe_f c_memory_of hr (by first | exact Nat.le_refl _ | decide | omega) rfl (pa_cons (pv 5) (pa_nil))))
 (pss_cons (ps_if ((PW.pt (pw_or (pt_cmpR ((op_ownNe m_eq ckM.neK hr (by first | exact Nat.le_refl _ | decide | omega)).or (opNe hr.units)) (pe_f c_memory_of hr (by first | exact Nat.le_refl _ | decide | omega) rfl (pa_cons (pe_get gx_row ckM.cl hr (by first | exact Nat.le_refl _ | decide | omega) (pv 6)) (pa_nil))) (pv 6) (nomark _)) (pw_or1 (pt_cmpR op_gt (pe_callB (CallR.or (call_ownLen m_len hr (by first | exact Nat.le_refl _ | decide | omega)) call_len_seq) (by rfl) tx.b_len boot_len (pa_cons (pe_get gx_row ckM.cl hr (by first | exact Nat.le_refl _ | decide | omega) (pv 6)) (pa_nil))) (pe_callB (CallR.or (call_ownLen m_len hr (by first | exact Nat.le_refl _ | decide | omega)) call_len_seq) (by rfl) tx.b_len boot_len (pa_cons (pv 5) (pa_nil))) (nomark _)))))) (pss_one (ps_ret (pe_bl))) (pss_nil))
 (pss_cons (ps_set (i := 7) sc_law.nd rfl (Or.inl rfl) (pe_lst (pa_cons (pe_lst (pa_nil)) (pa_nil))))
 (pss_cons (ps_for PassesOwn.never rfl (pi_range1 rfl tx.b_range (pa_cons (pe_callB (call_min2 rfl) (by rfl) tx.b_min boot_min (pa_cons (pe_int) (pa_cons (pe_callB (CallR.or (call_ownLen m_len hr (by first | exact Nat.le_refl _ | decide | omega)) call_len_seq) (by rfl) tx.b_len boot_len (pa_cons (pe_get gx_row ckM.cl hr (by first | exact Nat.le_refl _ | decide | omega) (pv 6)) (pa_nil))) (pa_nil)))) (pa_nil))) (pg_name (i := 8) sc_law.nd rfl (Or.inl rfl)) (pss_cons (ps_if (pt_cmpR ((op_ownNe m_eq ckM.neK hr (by first | exact Nat.le_refl _ | decide | omega)).or (opNe hr.units)) (pe_lc (own := [("_law_one", 9)]) (g := gName 9) rfl sc_law.nd (pi_seq (pv 7)) (blkOk_by (N := N_law) (sc := defScope s_law) (by decide +kernel)) (fun _ _ _ _ _ => pg_name (i := 9) sc_law.nd rfl (by first | exact Or.inl rfl | exact Or.inr rfl)) (fun _ _ _ _ _ => pts_one (pt_cmpR ((op_ownEq m_eq hr (by first | exact Nat.le_refl _ | decide | omega)).or (opEq hr.units)) (pe_f c__law_memory hr (by first | exact Nat.le_refl _ | decide | omega) rfl (pa_cons (pv 9) (pa_nil))) (pe_get gx_places ckM.cl hr (by first | exact Nat.le_refl _ | decide | omega) (pv 6)) (nomark _))) (fun _ _ _ _ _ => (by exact pv 9))) (pe_lst (pa_nil)) (nomark _)) (pss_one (ps_ret (pe_bl))) (pss_nil))
 (pss_cons (ps_set (i := 10) sc_law.nd rfl (Or.inl rfl) (pe_lst (pa_nil)))
 (pss_cons (ps_for PassesOwn.never rfl (pi_seq (pv 7)) (pg_name (i := 9) sc_law.nd rfl (Or.inr rfl)) (pss_one (ps_set (i := 10) sc_law.nd rfl (Or.inl rfl) (pe_op opAdd (pv 10) (pe_lc (own := [("_law_place", 12)]) (g := gName 12) (tt := tYes) rfl sc_law.nd (pi_range2 rfl tx.b_range (pa_cons (pv 3) (pa_cons (pe_op opAdd (pv 2) (pe_int)) (pa_nil)))) (blkOk_by (N := N_law) (sc := defScope s_law) (by decide +kernel)) (fun _ _ _ _ _ => pg_name (i := 12) sc_law.nd rfl (by first | exact Or.inl rfl | exact Or.inr rfl)) (fun _ _ _ _ _ => pts_nil) (fun _ _ _ _ _ => (by exact pe_op opAdd (pv 9) (pe_lst (pa_cons (pv 12) (pa_nil))))))))))
 (pss_one (ps_set (i := 7) sc_law.nd rfl (Or.inl rfl) (pv 10)))))))
 (pss_cons (ps_set (i := 11) sc_law.nd rfl (Or.inl rfl) (pe_get gx_row ckM.cl hr (by first | exact Nat.le_refl _ | decide | omega) (pv 6)))
 (pss_cons (ps_for PassesOwn.never rfl (pi_range1 rfl tx.b_range (pa_cons (pe_callB (CallR.or (call_ownLen m_len hr (by first | exact Nat.le_refl _ | decide | omega)) call_len_seq) (by rfl) tx.b_len boot_len (pa_cons (pv 11) (pa_nil))) (pa_nil))) (pg_name (i := 4) sc_law.nd rfl (Or.inl rfl)) (pss_one (ps_if (pt_cmpR ((op_ownEq m_eq hr (by first | exact Nat.le_refl _ | decide | omega)).or (opEq hr.units)) (pe_f c_memory_of hr (by first | exact Nat.le_refl _ | decide | omega) rfl (pa_cons (pe_op opAdd (pe_slice (SlR.or sl_list sl_tupA) (pv 11) po_none (po_some (pv 4))) (pe_slice (SlR.or sl_list sl_tupA) (pv 11) (po_some (pe_op opAdd (pv 4) (pe_int))) po_none)) (pa_nil))) (pv 6) (nomark _)) (pss_one (ps_ret (pe_bl))) (pss_nil))))
 (pss_one (ps_ret (pe_cmpR ((op_ownEq m_eq hr (by first | exact Nat.le_refl _ | decide | omega)).or (opEq hr.units)) (pe_op opSub (pe_callB (CallR.or (call_ownLen m_len hr (by first | exact Nat.le_refl _ | decide | omega)) call_len_seq) (by rfl) tx.b_len boot_len (pa_cons (pv 6) (pa_nil))) (pe_callTy call_int1 (by rfl) tx.b_int boot_int (pa_cons (pe_cmpR ((op_ownEq m_eq hr (by first | exact Nat.le_refl _ | decide | omega)).or (opEq hr.units)) (pe_ix ix_lt (pe_get gx_places ckM.cl hr (by first | exact Nat.le_refl _ | decide | omega) (pv 6)) (pe_int) (fun _ _ => rfl)) (pe_int) (nomark _)) (pa_nil)))) (pe_callB (CallR.or (call_ownLen m_len hr (by first | exact Nat.le_refl _ | decide | omega)) call_len_seq) (by rfl) tx.b_len boot_len (pa_cons (pv 11) (pa_nil))) (nomark _))))))))))))),
 es_seq (es_asg (ev_call (ea_cons (ev_var) (ea_cons (ev_int) (ea_nil)))) eg_name)
 (es_seq (es_asg (ev_op (ev_int) (ev_call (ea_cons (ev_var) (ea_cons (ev_int) (ea_nil)))) eoAdd) eg_name)
 (es_seq (es_asg (ev_op (ev_lst (ea_cons (ev_int) (ea_cons (ev_op (ev_int) (ev_int) eoSub) (ea_nil)))) (ev_call (ea_cons (ev_var) (ea_cons (ev_int) (ea_nil)))) eoIx) eg_name)
 (es_seq (es_asg (ev_comp (ei_rng1 (ea_cons (ev_call (ea_cons (ev_var) (ea_cons (ev_int) (ea_nil)))) (ea_nil))) (eg_name) et_yes (ev_op (ev_var) (ev_call (ea_cons (ev_var) (ea_cons (ev_op (ev_op (ev_var) (ev_var) eoSub) (ev_int) eoAdd) (ea_nil)))) eoAdd) (by decide)) eg_name)
 (es_seq (es_asg (ev_call (ea_cons (ev_var) (ea_nil))) eg_name)
 (es_seq (es_if (et_or (et_test (ev_op (ev_call (ea_cons (ev_prop (ev_var)) (ea_nil))) (ev_var) (eo_or (eo_ownNe okM) eoNe))) (et_test (ev_op (ev_fn (ea_cons (ev_prop (ev_var)) (ea_nil)) (en_or en_ownLen en_len)) (ev_fn (ea_cons (ev_var) (ea_nil)) (en_or en_ownLen en_len)) eo_B))) (es_ret (ev_bl)) (es_next))
 (es_seq (es_asg (ev_lst (ea_cons (ev_lst (ea_nil)) (ea_nil))) eg_name)
 (es_seq (es_for (ei_rng1 (ea_cons (ev_fn (ea_cons (ev_int) (ea_cons (ev_fn (ea_cons (ev_prop (ev_var)) (ea_nil)) (en_or en_ownLen en_len)) (ea_nil))) en_min2) (ea_nil))) (eg_name) (es_seq (es_if (et_test (ev_op (ev_comp (ei_seq (ev_var)) (eg_name) (et_test (ev_op (ev_call (ea_cons (ev_var) (ea_nil))) (ev_prop (ev_var)) (eo_or (eo_ownEq okM) eoEq))) (ev_var) (by decide)) (ev_lst (ea_nil)) (eo_or (eo_ownNe okM) eoNe))) (es_ret (ev_bl)) (es_next))
 (es_seq (es_asg (ev_lst (ea_nil)) eg_name)
 (es_seq (es_for (ei_seq (ev_var)) (eg_name) (es_asg (ev_op (ev_var) (ev_comp (ei_rng2 (ea_cons (ev_var) (ea_cons (ev_op (ev_var) (ev_int) eoAdd) (ea_nil)))) (eg_name) et_yes (ev_op (ev_var) (ev_lst (ea_cons (ev_var) (ea_nil))) eoAdd) (by decide)) eoAdd) eg_name))
 (es_asg (ev_var) eg_name)))))
 (es_seq (es_asg (ev_prop (ev_var)) eg_name)
 (es_seq (es_for (ei_rng1 (ea_cons (ev_fn (ea_cons (ev_var) (ea_nil)) (en_or en_ownLen en_len)) (ea_nil))) (eg_name) (es_if (et_test (ev_op (ev_call (ea_cons (ev_op (ev_sl (ev_var) ep_no (ep_at (ev_var))) (ev_sl (ev_var) (ep_at (ev_op (ev_var) (ev_int) eoAdd)) ep_no) eoAdd) (ea_nil))) (ev_var) (eo_or (eo_ownEq okM) eoEq))) (es_ret (ev_bl)) (es_next)))
 (es_ret (ev_op (ev_op (ev_fn (ea_cons (ev_var) (ea_nil)) (en_or en_ownLen en_len)) (ev_fn (ea_cons (ev_op (ev_op (ev_prop (ev_var)) (ev_int) eoIx) (ev_int) (eo_or (eo_ownEq okM) eoEq)) (ea_nil)) en_int1) eoSub) (ev_fn (ea_cons (ev_var) (ea_nil)) (en_or en_ownLen en_len)) (eo_or (eo_ownEq okM) eoEq))))))))))))⟩
  rintro ns Q hl k
  have k : Q (.bl true) := k _ rfl
  have hl : ns.length ≤ 63 := hl
  simp only [XS.whole, ↓runA, ↓runC, ↓reduceIte, runB, ite_and, Decidable.not_not, forall_eq, List.map_cons, List.map_nil, List.cons_append, List.nil_append, List.replicate_succ, List.replicate_zero, List.append_nil, List.set_cons_zero, List.set_cons_succ, List.getElem?_cons_zero, List.getElem?_cons_succ, Option.some.injEq, List.cons.injEq, exists_and_left, exists_eq_left', exists_eq_left, exists_false, exists_const, forall_eq', forall_eq, ints_inj, Prod.exists, reduceCtorEq, List.length_cons, List.length_nil, implies_true, forall_const, decide_eq_true_eq, decide_eq_false_iff_not, List.getElem?_nil, List.set_nil, if_true, if_false, ite_true, ite_false, eq_self, Prod.mk.injEq, Co.lst.injEq, Co.dct.injEq, Fr.mk.injEq, exists_eq, exists_eq', exists_eq_right, exists_and_right, Nat.zero_le, Nat.zero_add, Nat.reduceAdd, Nat.reduceLT, Nat.reduceLeDiff, Nat.reduceEqDiff, List.mem_cons, List.not_mem_nil, List.nodup_cons, List.nodup_nil, List.forall_mem_cons, forall_eq_or_imp, List.getD_cons_zero, List.getD_cons_succ, List.mem_singleton, ne_eq, List.append_assoc, x_law]
  (rw [d_seq0]; simp only [XS.whole, ↓runA, ↓runC, ↓reduceIte, runB, ite_and, Decidable.not_not, forall_eq, List.map_cons, List.map_nil, List.cons_append, List.nil_append, List.replicate_succ, List.replicate_zero, List.append_nil, List.set_cons_zero, List.set_cons_succ, List.getElem?_cons_zero, List.getElem?_cons_succ, Option.some.injEq, List.cons.injEq, exists_and_left, exists_eq_left', exists_eq_left, exists_false, exists_const, forall_eq', forall_eq, ints_inj, Prod.exists, reduceCtorEq, List.length_cons, List.length_nil, implies_true, forall_const, decide_eq_true_eq, decide_eq_false_iff_not, List.getElem?_nil, List.set_nil, if_true, if_false, ite_true, ite_false, eq_self, Prod.mk.injEq, Co.lst.injEq, Co.dct.injEq, Fr.mk.injEq, exists_eq, exists_eq', exists_eq_right, exists_and_right, Nat.zero_le, Nat.zero_add, Nat.reduceAdd, Nat.reduceLT, Nat.reduceLeDiff, Nat.reduceEqDiff, List.mem_cons, List.not_mem_nil, List.nodup_cons, List.nodup_nil, List.forall_mem_cons, forall_eq_or_imp, List.getD_cons_zero, List.getD_cons_succ, List.mem_singleton, ne_eq, List.append_assoc])
  refine ⟨by decide, by decide, hl, ?_⟩
  (rw [d_seq0]; simp only [XS.whole, ↓runA, ↓runC, ↓reduceIte, runB, ite_and, Decidable.not_not, forall_eq, List.map_cons, List.map_nil, List.cons_append, List.nil_append, List.replicate_succ, List.replicate_zero, List.append_nil, List.set_cons_zero, List.set_cons_succ, List.getElem?_cons_zero, List.getElem?_cons_succ, Option.some.injEq, List.cons.injEq, exists_and_left, exists_eq_left', exists_eq_left, exists_false, exists_const, forall_eq', forall_eq, ints_inj, Prod.exists, reduceCtorEq, List.length_cons, List.length_nil, implies_true, forall_const, decide_eq_true_eq, decide_eq_false_iff_not, List.getElem?_nil, List.set_nil, if_true, if_false, ite_true, ite_false, eq_self, Prod.mk.injEq, Co.lst.injEq, Co.dct.injEq, Fr.mk.injEq, exists_eq, exists_eq', exists_eq_right, exists_and_right, Nat.zero_le, Nat.zero_add, Nat.reduceAdd, Nat.reduceLT, Nat.reduceLeDiff, Nat.reduceEqDiff, List.mem_cons, List.not_mem_nil, List.nodup_cons, List.nodup_nil, List.forall_mem_cons, forall_eq_or_imp, List.getD_cons_zero, List.getD_cons_succ, List.mem_singleton, ne_eq, List.append_assoc])
  refine ⟨by decide, by decide, fun hi hhi => ?_⟩
  (rw [d_seq0]; simp only [XS.whole, ↓runA, ↓runC, ↓reduceIte, runB, ite_and, Decidable.not_not, forall_eq, List.map_cons, List.map_nil, List.cons_append, List.nil_append, List.replicate_succ, List.replicate_zero, List.append_nil, List.set_cons_zero, List.set_cons_succ, List.getElem?_cons_zero, List.getElem?_cons_succ, Option.some.injEq, List.cons.injEq, exists_and_left, exists_eq_left', exists_eq_left, exists_false, exists_const, forall_eq', forall_eq, ints_inj, Prod.exists, reduceCtorEq, List.length_cons, List.length_nil, implies_true, forall_const, decide_eq_true_eq, decide_eq_false_iff_not, List.getElem?_nil, List.set_nil, if_true, if_false, ite_true, ite_false, eq_self, Prod.mk.injEq, Co.lst.injEq, Co.dct.injEq, Fr.mk.injEq, exists_eq, exists_eq', exists_eq_right, exists_and_right, Nat.zero_le, Nat.zero_add, Nat.reduceAdd, Nat.reduceLT, Nat.reduceLeDiff, Nat.reduceEqDiff, List.mem_cons, List.not_mem_nil, List.nodup_cons, List.nodup_nil, List.forall_mem_cons, forall_eq_or_imp, List.getD_cons_zero, List.getD_cons_succ, List.mem_singleton, ne_eq, List.append_assoc])
  refine ⟨by decide, by decide, fun kd hk => ?_⟩
  obtain ⟨low, hlow, hat⟩ : ∃ low : Int, (-1 ≤ low ∧ low ≤ 0) ∧ atI [W.int 0, W.int (0 - 1)] kd = some (.int low) := by
    have : kd = 0 ∨ kd = 1 := by omega
    rcases this with rfl | rfl
    · exact ⟨0, by decide, rfl⟩
    · exact ⟨0 - 1, by decide, rfl⟩
  refine ⟨_, hat, ?_⟩
  dsimp only
  (rw [d_seq0]; simp only [XS.whole, ↓runA, ↓runC, ↓reduceIte, runB, ite_and, Decidable.not_not, forall_eq, List.map_cons, List.map_nil, List.cons_append, List.nil_append, List.replicate_succ, List.replicate_zero, List.append_nil, List.set_cons_zero, List.set_cons_succ, List.getElem?_cons_zero, List.getElem?_cons_succ, Option.some.injEq, List.cons.injEq, exists_and_left, exists_eq_left', exists_eq_left, exists_false, exists_const, forall_eq', forall_eq, ints_inj, Prod.exists, reduceCtorEq, List.length_cons, List.length_nil, implies_true, forall_const, decide_eq_true_eq, decide_eq_false_iff_not, List.getElem?_nil, List.set_nil, if_true, if_false, ite_true, ite_false, eq_self, Prod.mk.injEq, Co.lst.injEq, Co.dct.injEq, Fr.mk.injEq, exists_eq, exists_eq', exists_eq_right, exists_and_right, Nat.zero_le, Nat.zero_add, Nat.reduceAdd, Nat.reduceLT, Nat.reduceLeDiff, Nat.reduceEqDiff, List.mem_cons, List.not_mem_nil, List.nodup_cons, List.nodup_nil, List.forall_mem_cons, forall_eq_or_imp, List.getD_cons_zero, List.getD_cons_succ, List.mem_singleton, ne_eq, List.append_assoc])
  refine ⟨by decide, by decide, fun n hn => ⟨by omega, by omega, by rw [rgW_len]; omega, ?_⟩⟩
  refine comp_ex W.int (fun y => -4 ≤ y ∧ y ≤ 5) (fun i w hw => ?_) fun row r1 r2 => ?_
  · simp only [XS.whole, ↓runA, ↓runC, ↓d_seq0, ↓d_seq1, ↓reduceIte, runB, ite_and, Decidable.not_not, forall_eq, List.map_cons, List.map_nil, List.cons_append, List.nil_append, List.replicate_succ, List.replicate_zero, List.append_nil, List.set_cons_zero, List.set_cons_succ, List.getElem?_cons_zero, List.getElem?_cons_succ, Option.some.injEq, List.cons.injEq, exists_and_left, exists_eq_left', exists_eq_left, exists_false, exists_const, forall_eq', forall_eq, ints_inj, Prod.exists, reduceCtorEq, List.length_cons, List.length_nil, implies_true, forall_const, decide_eq_true_eq, decide_eq_false_iff_not, List.getElem?_nil, List.set_nil, if_true, if_false, ite_true, ite_false, eq_self, Prod.mk.injEq, Co.lst.injEq, Co.dct.injEq, Fr.mk.injEq, exists_eq, exists_eq', exists_eq_right, exists_and_right, Nat.zero_le, Nat.zero_add, Nat.reduceAdd, Nat.reduceLT, Nat.reduceLeDiff, Nat.reduceEqDiff, List.mem_cons, List.not_mem_nil, List.nodup_cons, List.nodup_nil, List.forall_mem_cons, forall_eq_or_imp, List.getD_cons_zero, List.getD_cons_succ, List.mem_singleton, ne_eq, List.append_assoc]
    exact ⟨by omega, by omega, fun y hy => ⟨_, by omega, by omega, rfl⟩⟩
  rw [rgW_len] at r1
  have hp : ∀ x ∈ row, isPl x = true := pl_in (B := 40) (fun x hx => by have := r2 x hx; omega) (by decide)
  obtain ⟨ok, ml⟩ := okMem_memF hp (by omega)
  have hmem : memF row ≠ [] := ok.1
  have m0 : 0 < (memF row).length := List.length_pos_iff.mpr hmem
  have rmin := fun r => row_min (row := row) (r := r)
  have rl : (rowM (memF row)).length ≤ row.length := rmin row rfl
  have hpR : ∀ x ∈ rowM (memF row), isPl x = true := fun x hx => by
    rcases rowM_mem hx with q | q
    · subst q; decide
    · exact hp x q
  (rw [d_seq0]; simp only [XS.whole, ↓runA, ↓runC, ↓reduceIte, runB, ite_and, Decidable.not_not, forall_eq, List.map_cons, List.map_nil, List.cons_append, List.nil_append, List.replicate_succ, List.replicate_zero, List.append_nil, List.set_cons_zero, List.set_cons_succ, List.getElem?_cons_zero, List.getElem?_cons_succ, Option.some.injEq, List.cons.injEq, exists_and_left, exists_eq_left', exists_eq_left, exists_false, exists_const, forall_eq', forall_eq, ints_inj, Prod.exists, reduceCtorEq, List.length_cons, List.length_nil, implies_true, forall_const, decide_eq_true_eq, decide_eq_false_iff_not, List.getElem?_nil, List.set_nil, if_true, if_false, ite_true, ite_false, eq_self, Prod.mk.injEq, Co.lst.injEq, Co.dct.injEq, Fr.mk.injEq, exists_eq, exists_eq', exists_eq_right, exists_and_right, Nat.zero_le, Nat.zero_add, Nat.reduceAdd, Nat.reduceLT, Nat.reduceLeDiff, Nat.reduceEqDiff, List.mem_cons, List.not_mem_nil, List.nodup_cons, List.nodup_nil, List.forall_mem_cons, forall_eq_or_imp, List.getD_cons_zero, List.getD_cons_succ, List.mem_singleton, ne_eq, List.append_assoc])
  (rw [d_seq0]; simp only [XS.whole, ↓runA, ↓runC, ↓reduceIte, runB, ite_and, Decidable.not_not, forall_eq, List.map_cons, List.map_nil, List.cons_append, List.nil_append, List.replicate_succ, List.replicate_zero, List.append_nil, List.set_cons_zero, List.set_cons_succ, List.getElem?_cons_zero, List.getElem?_cons_succ, Option.some.injEq, List.cons.injEq, exists_and_left, exists_eq_left', exists_eq_left, exists_false, exists_const, forall_eq', forall_eq, ints_inj, Prod.exists, reduceCtorEq, List.length_cons, List.length_nil, implies_true, forall_const, decide_eq_true_eq, decide_eq_false_iff_not, List.getElem?_nil, List.set_nil, if_true, if_false, ite_true, ite_false, eq_self, Prod.mk.injEq, Co.lst.injEq, Co.dct.injEq, Fr.mk.injEq, exists_eq, exists_eq', exists_eq_right, exists_and_right, Nat.zero_le, Nat.zero_add, Nat.reduceAdd, Nat.reduceLT, Nat.reduceLeDiff, Nat.reduceEqDiff, List.mem_cons, List.not_mem_nil, List.nodup_cons, List.nodup_nil, List.forall_mem_cons, forall_eq_or_imp, List.getD_cons_zero, List.getD_cons_succ, List.mem_singleton, ne_eq, List.append_assoc])
  refine ⟨by omega, hp, ?_⟩
  (rw [d_seq0]; simp only [XS.whole, ↓runA, ↓runC, ↓reduceIte, runB, ite_and, Decidable.not_not, forall_eq, List.map_cons, List.map_nil, List.cons_append, List.nil_append, List.replicate_succ, List.replicate_zero, List.append_nil, List.set_cons_zero, List.set_cons_succ, List.getElem?_cons_zero, List.getElem?_cons_succ, Option.some.injEq, List.cons.injEq, exists_and_left, exists_eq_left', exists_eq_left, exists_false, exists_const, forall_eq', forall_eq, ints_inj, Prod.exists, reduceCtorEq, List.length_cons, List.length_nil, implies_true, forall_const, decide_eq_true_eq, decide_eq_false_iff_not, List.getElem?_nil, List.set_nil, if_true, if_false, ite_true, ite_false, eq_self, Prod.mk.injEq, Co.lst.injEq, Co.dct.injEq, Fr.mk.injEq, exists_eq, exists_eq', exists_eq_right, exists_and_right, Nat.zero_le, Nat.zero_add, Nat.reduceAdd, Nat.reduceLT, Nat.reduceLeDiff, Nat.reduceEqDiff, List.mem_cons, List.not_mem_nil, List.nodup_cons, List.nodup_nil, List.forall_mem_cons, forall_eq_or_imp, List.getD_cons_zero, List.getD_cons_succ, List.mem_singleton, ne_eq, List.append_assoc])
  rw [memF_row]
  refine ⟨hmem, by omega, by omega, hpR, fun q => absurd rfl q, fun _ => ⟨hmem, by omega, fun q => by rw [List.length_map, List.length_map] at q; omega, fun _ => ?_⟩⟩
  generalize hG : rowM (memF row) = G at *
  (rw [d_seq0]; simp only [XS.whole, ↓runA, ↓runC, ↓reduceIte, runB, ite_and, Decidable.not_not, forall_eq, List.map_cons, List.map_nil, List.cons_append, List.nil_append, List.replicate_succ, List.replicate_zero, List.append_nil, List.set_cons_zero, List.set_cons_succ, List.getElem?_cons_zero, List.getElem?_cons_succ, Option.some.injEq, List.cons.injEq, exists_and_left, exists_eq_left', exists_eq_left, exists_false, exists_const, forall_eq', forall_eq, ints_inj, Prod.exists, reduceCtorEq, List.length_cons, List.length_nil, implies_true, forall_const, decide_eq_true_eq, decide_eq_false_iff_not, List.getElem?_nil, List.set_nil, if_true, if_false, ite_true, ite_false, eq_self, Prod.mk.injEq, Co.lst.injEq, Co.dct.injEq, Fr.mk.injEq, exists_eq, exists_eq', exists_eq_right, exists_and_right, Nat.zero_le, Nat.zero_add, Nat.reduceAdd, Nat.reduceLT, Nat.reduceLeDiff, Nat.reduceEqDiff, List.mem_cons, List.not_mem_nil, List.nodup_cons, List.nodup_nil, List.forall_mem_cons, forall_eq_or_imp, List.getD_cons_zero, List.getD_cons_succ, List.mem_singleton, ne_eq, List.append_assoc])
  rw [List.length_map]
  refine ⟨hmem, by omega, by omega, by omega, ?_⟩
  rw [hG]
  refine ⟨fun i φ => ∃ (rs : List (List Int)) (a b d : Option W), (∀ r ∈ rs, r.length = i ∧ ∀ x ∈ r, -4 ≤ x ∧ x ≤ 5) ∧ rs.length ≤ 6 ^ i ∧ φ = ⟨[some (.scr ns), some .src, some (.int (1 + hi)), some (.int low), none, some (.lst (row.map .int)), some (.mem (memF row)), some (.lst (rs.map fun r => .lst (r.map .int))), a, b, d, none, none], none⟩, ⟨[[]], none, none, none, by simp, by simp, rfl⟩, ?_, ?_⟩
  · rintro i w φ hw ⟨rs, a, b, d, hrs, hc, rfl⟩
    obtain ⟨hi1, rfl⟩ := rgW_at hw
    refine ⟨fun q e => (by cases e), ?_⟩
    simp only [↓d_gname, ↓setC_0, ↓setC_s]
    have hi3 : i < 4 := by omega
    have hig : i < G.length := by omega
    have hc2 : rs.length ≤ 216 := Nat.le_trans hc (by
      have : (6 : Nat) ^ i ≤ 6 ^ 3 := Nat.pow_le_pow_right (by decide) (by omega)
      simpa using this)
    (rw [d_seq0]; simp only [XS.whole, ↓runA, ↓runC, ↓reduceIte, runB, ite_and, Decidable.not_not, forall_eq, List.map_cons, List.map_nil, List.cons_append, List.nil_append, List.replicate_succ, List.replicate_zero, List.append_nil, List.set_cons_zero, List.set_cons_succ, List.getElem?_cons_zero, List.getElem?_cons_succ, Option.some.injEq, List.cons.injEq, exists_and_left, exists_eq_left', exists_eq_left, exists_false, exists_const, forall_eq', forall_eq, ints_inj, Prod.exists, reduceCtorEq, List.length_cons, List.length_nil, implies_true, forall_const, decide_eq_true_eq, decide_eq_false_iff_not, List.getElem?_nil, List.set_nil, if_true, if_false, ite_true, ite_false, eq_self, Prod.mk.injEq, Co.lst.injEq, Co.dct.injEq, Fr.mk.injEq, exists_eq, exists_eq', exists_eq_right, exists_and_right, Nat.zero_le, Nat.zero_add, Nat.reduceAdd, Nat.reduceLT, Nat.reduceLeDiff, Nat.reduceEqDiff, List.mem_cons, List.not_mem_nil, List.nodup_cons, List.nodup_nil, List.forall_mem_cons, forall_eq_or_imp, List.getD_cons_zero, List.getD_cons_succ, List.mem_singleton, ne_eq, List.append_assoc])
    refine ⟨by rw [List.length_map]; omega, ?_⟩
    refine comp_pf rs (fun r => .lst (r.map .int)) (fun _ => false) (fun r => .lst (r.map .int)) (fun j r hr => ?_) ?_
    · have hr := hrs r (List.mem_of_getElem? hr)
      simp only [XS.whole, ↓runA, ↓runC, ↓d_seq0, ↓d_seq1, ↓reduceIte, runB, ite_and, Decidable.not_not, forall_eq, List.map_cons, List.map_nil, List.cons_append, List.nil_append, List.replicate_succ, List.replicate_zero, List.append_nil, List.set_cons_zero, List.set_cons_succ, List.getElem?_cons_zero, List.getElem?_cons_succ, Option.some.injEq, List.cons.injEq, exists_and_left, exists_eq_left', exists_eq_left, exists_false, exists_const, forall_eq', forall_eq, ints_inj, Prod.exists, reduceCtorEq, List.length_cons, List.length_nil, implies_true, forall_const, decide_eq_true_eq, decide_eq_false_iff_not, List.getElem?_nil, List.set_nil, if_true, if_false, ite_true, ite_false, eq_self, Prod.mk.injEq, Co.lst.injEq, Co.dct.injEq, Fr.mk.injEq, exists_eq, exists_eq', exists_eq_right, exists_and_right, Nat.zero_le, Nat.zero_add, Nat.reduceAdd, Nat.reduceLT, Nat.reduceLeDiff, Nat.reduceEqDiff, List.mem_cons, List.not_mem_nil, List.nodup_cons, List.nodup_nil, List.forall_mem_cons, forall_eq_or_imp, List.getD_cons_zero, List.getD_cons_succ, List.mem_singleton, ne_eq, List.append_assoc]
      refine ⟨by omega, pl_in (B := 40) (fun x hx => by have := hr.2 x hx; omega) (by decide), pl_intsT _, pl_intsT _, fun e => ?_⟩
      have := rmin r e
      omega
    rw [show rs.filter (fun _ => false) = [] by simp]
    simp only [XS.whole, ↓runA, ↓runC, ↓reduceIte, runB, ite_and, Decidable.not_not, forall_eq, List.map_cons, List.map_nil, List.cons_append, List.nil_append, List.replicate_succ, List.replicate_zero, List.append_nil, List.set_cons_zero, List.set_cons_succ, List.getElem?_cons_zero, List.getElem?_cons_succ, Option.some.injEq, List.cons.injEq, exists_and_left, exists_eq_left', exists_eq_left, exists_false, exists_const, forall_eq', forall_eq, ints_inj, Prod.exists, reduceCtorEq, List.length_cons, List.length_nil, implies_true, forall_const, decide_eq_true_eq, decide_eq_false_iff_not, List.getElem?_nil, List.set_nil, if_true, if_false, ite_true, ite_false, eq_self, Prod.mk.injEq, Co.lst.injEq, Co.dct.injEq, Fr.mk.injEq, exists_eq, exists_eq', exists_eq_right, exists_and_right, Nat.zero_le, Nat.zero_add, Nat.reduceAdd, Nat.reduceLT, Nat.reduceLeDiff, Nat.reduceEqDiff, List.mem_cons, List.not_mem_nil, List.nodup_cons, List.nodup_nil, List.forall_mem_cons, forall_eq_or_imp, List.getD_cons_zero, List.getD_cons_succ, List.mem_singleton, ne_eq, List.append_assoc]
    refine ⟨pl_ints [], pl_ints [], ?_⟩
    (rw [d_seq0]; simp only [XS.whole, ↓runA, ↓runC, ↓reduceIte, runB, ite_and, Decidable.not_not, forall_eq, List.map_cons, List.map_nil, List.cons_append, List.nil_append, List.replicate_succ, List.replicate_zero, List.append_nil, List.set_cons_zero, List.set_cons_succ, List.getElem?_cons_zero, List.getElem?_cons_succ, Option.some.injEq, List.cons.injEq, exists_and_left, exists_eq_left', exists_eq_left, exists_false, exists_const, forall_eq', forall_eq, ints_inj, Prod.exists, reduceCtorEq, List.length_cons, List.length_nil, implies_true, forall_const, decide_eq_true_eq, decide_eq_false_iff_not, List.getElem?_nil, List.set_nil, if_true, if_false, ite_true, ite_false, eq_self, Prod.mk.injEq, Co.lst.injEq, Co.dct.injEq, Fr.mk.injEq, exists_eq, exists_eq', exists_eq_right, exists_and_right, Nat.zero_le, Nat.zero_add, Nat.reduceAdd, Nat.reduceLT, Nat.reduceLeDiff, Nat.reduceEqDiff, List.mem_cons, List.not_mem_nil, List.nodup_cons, List.nodup_nil, List.forall_mem_cons, forall_eq_or_imp, List.getD_cons_zero, List.getD_cons_succ, List.mem_singleton, ne_eq, List.append_assoc])
    (rw [d_seq0]; simp only [XS.whole, ↓runA, ↓runC, ↓reduceIte, runB, ite_and, Decidable.not_not, forall_eq, List.map_cons, List.map_nil, List.cons_append, List.nil_append, List.replicate_succ, List.replicate_zero, List.append_nil, List.set_cons_zero, List.set_cons_succ, List.getElem?_cons_zero, List.getElem?_cons_succ, Option.some.injEq, List.cons.injEq, exists_and_left, exists_eq_left', exists_eq_left, exists_false, exists_const, forall_eq', forall_eq, ints_inj, Prod.exists, reduceCtorEq, List.length_cons, List.length_nil, implies_true, forall_const, decide_eq_true_eq, decide_eq_false_iff_not, List.getElem?_nil, List.set_nil, if_true, if_false, ite_true, ite_false, eq_self, Prod.mk.injEq, Co.lst.injEq, Co.dct.injEq, Fr.mk.injEq, exists_eq, exists_eq', exists_eq_right, exists_and_right, Nat.zero_le, Nat.zero_add, Nat.reduceAdd, Nat.reduceLT, Nat.reduceLeDiff, Nat.reduceEqDiff, List.mem_cons, List.not_mem_nil, List.nodup_cons, List.nodup_nil, List.forall_mem_cons, forall_eq_or_imp, List.getD_cons_zero, List.getD_cons_succ, List.mem_singleton, ne_eq, List.append_assoc])
    refine ⟨fun j φ => ∃ a, φ = ⟨[some (.scr ns), some .src, some (.int (1 + hi)), some (.int low), none, some (.lst (row.map .int)), some (.mem (memF row)), some (.lst (rs.map fun r => .lst (r.map .int))), some (.int (0 + (i : Int))), a, some (.lst (((rs.take j).flatMap (growF low (1 + hi + 1 - low).toNat)).map fun r => .lst (r.map .int))), none, none], none⟩, ⟨_, rfl⟩, ?_, ?_⟩
    · rintro j w φ hw ⟨a, rfl⟩
      obtain ⟨r, hr0, rfl⟩ : ∃ r, rs[j]? = some r ∧ w = .lst (r.map .int) := by
        rw [List.getElem?_map] at hw
        cases e : rs[j]? with
        | none => rw [e] at hw; cases hw
        | some r => rw [e] at hw; exact ⟨r, rfl, (Option.some.inj hw).symm⟩
      have hr := hrs r (List.mem_of_getElem? hr0)
      have hj : j < rs.length := (List.getElem?_eq_some_iff.mp hr0).1
      have ll : ((rs.take j).flatMap (growF low (1 + hi + 1 - low).toNat)).length ≤ 216 * 6 := by
        rw [growF_len]
        exact Nat.mul_le_mul (by rw [List.length_take]; omega) (by omega)
      refine ⟨fun q e => (by cases e), ?_⟩
      simp only [↓d_gname, ↓setC_0, ↓setC_s]
      simp only [XS.whole, ↓runA, ↓runC, ↓reduceIte, runB, ite_and, Decidable.not_not, forall_eq, List.map_cons, List.map_nil, List.cons_append, List.nil_append, List.replicate_succ, List.replicate_zero, List.append_nil, List.set_cons_zero, List.set_cons_succ, List.getElem?_cons_zero, List.getElem?_cons_succ, Option.some.injEq, List.cons.injEq, exists_and_left, exists_eq_left', exists_eq_left, exists_false, exists_const, forall_eq', forall_eq, ints_inj, Prod.exists, reduceCtorEq, List.length_cons, List.length_nil, implies_true, forall_const, decide_eq_true_eq, decide_eq_false_iff_not, List.getElem?_nil, List.set_nil, if_true, if_false, ite_true, ite_false, eq_self, Prod.mk.injEq, Co.lst.injEq, Co.dct.injEq, Fr.mk.injEq, exists_eq, exists_eq', exists_eq_right, exists_and_right, Nat.zero_le, Nat.zero_add, Nat.reduceAdd, Nat.reduceLT, Nat.reduceLeDiff, Nat.reduceEqDiff, List.mem_cons, List.not_mem_nil, List.nodup_cons, List.nodup_nil, List.forall_mem_cons, forall_eq_or_imp, List.getD_cons_zero, List.getD_cons_succ, List.mem_singleton, ne_eq, List.append_assoc]
      refine ⟨by omega, by omega, by omega, by omega, by rw [rgW_len]; omega, ?_⟩
      refine comp_map (fun k => .lst ((r ++ [low + (k : Int)]).map .int)) (fun k w hw => ?_) ?_
      · obtain ⟨hk2, rfl⟩ := rgW_at hw
        simp only [XS.whole, ↓runA, ↓runC, ↓reduceIte, runB, ite_and, Decidable.not_not, forall_eq, List.map_cons, List.map_nil, List.cons_append, List.nil_append, List.replicate_succ, List.replicate_zero, List.append_nil, List.set_cons_zero, List.set_cons_succ, List.getElem?_cons_zero, List.getElem?_cons_succ, Option.some.injEq, List.cons.injEq, exists_and_left, exists_eq_left', exists_eq_left, exists_false, exists_const, forall_eq', forall_eq, ints_inj, Prod.exists, reduceCtorEq, List.length_cons, List.length_nil, implies_true, forall_const, decide_eq_true_eq, decide_eq_false_iff_not, List.getElem?_nil, List.set_nil, if_true, if_false, ite_true, ite_false, eq_self, Prod.mk.injEq, Co.lst.injEq, Co.dct.injEq, Fr.mk.injEq, exists_eq, exists_eq', exists_eq_right, exists_and_right, Nat.zero_le, Nat.zero_add, Nat.reduceAdd, Nat.reduceLT, Nat.reduceLeDiff, Nat.reduceEqDiff, List.mem_cons, List.not_mem_nil, List.nodup_cons, List.nodup_nil, List.forall_mem_cons, forall_eq_or_imp, List.getD_cons_zero, List.getD_cons_succ, List.mem_singleton, ne_eq, List.append_assoc]
        exact ⟨by rw [List.length_map]; omega, by rw [List.map_append]; rfl⟩
      · rw [rgW_len]
        simp only [XS.whole, ↓runA, ↓runC, ↓reduceIte, runB, ite_and, Decidable.not_not, forall_eq, List.map_cons, List.map_nil, List.cons_append, List.nil_append, List.replicate_succ, List.replicate_zero, List.append_nil, List.set_cons_zero, List.set_cons_succ, List.getElem?_cons_zero, List.getElem?_cons_succ, Option.some.injEq, List.cons.injEq, exists_and_left, exists_eq_left', exists_eq_left, exists_false, exists_const, forall_eq', forall_eq, ints_inj, Prod.exists, reduceCtorEq, List.length_cons, List.length_nil, implies_true, forall_const, decide_eq_true_eq, decide_eq_false_iff_not, List.getElem?_nil, List.set_nil, if_true, if_false, ite_true, ite_false, eq_self, Prod.mk.injEq, Co.lst.injEq, Co.dct.injEq, Fr.mk.injEq, exists_eq, exists_eq', exists_eq_right, exists_and_right, Nat.zero_le, Nat.zero_add, Nat.reduceAdd, Nat.reduceLT, Nat.reduceLeDiff, Nat.reduceEqDiff, List.mem_cons, List.not_mem_nil, List.nodup_cons, List.nodup_nil, List.forall_mem_cons, forall_eq_or_imp, List.getD_cons_zero, List.getD_cons_succ, List.mem_singleton, ne_eq, List.append_assoc]
        refine ⟨by rw [List.length_map, List.length_map, List.length_range]; omega, ?_⟩
        rw [List.take_add_one, hr0, List.flatMap_append, List.map_append]
        show _ = _ ++ List.map _ (growF low (1 + hi + 1 - low).toNat r ++ [])
        rw [List.append_nil]
        unfold growF
        rw [List.map_map]; rfl
    · rintro φ ⟨a, rfl⟩
      rw [List.length_map, List.take_length]
      dsimp only
      simp only [XS.whole, ↓runA, ↓runC, ↓reduceIte, runB, ite_and, Decidable.not_not, forall_eq, List.map_cons, List.map_nil, List.cons_append, List.nil_append, List.replicate_succ, List.replicate_zero, List.append_nil, List.set_cons_zero, List.set_cons_succ, List.getElem?_cons_zero, List.getElem?_cons_succ, Option.some.injEq, List.cons.injEq, exists_and_left, exists_eq_left', exists_eq_left, exists_false, exists_const, forall_eq', forall_eq, ints_inj, Prod.exists, reduceCtorEq, List.length_cons, List.length_nil, implies_true, forall_const, decide_eq_true_eq, decide_eq_false_iff_not, List.getElem?_nil, List.set_nil, if_true, if_false, ite_true, ite_false, eq_self, Prod.mk.injEq, Co.lst.injEq, Co.dct.injEq, Fr.mk.injEq, exists_eq, exists_eq', exists_eq_right, exists_and_right, Nat.zero_le, Nat.zero_add, Nat.reduceAdd, Nat.reduceLT, Nat.reduceLeDiff, Nat.reduceEqDiff, List.mem_cons, List.not_mem_nil, List.nodup_cons, List.nodup_nil, List.forall_mem_cons, forall_eq_or_imp, List.getD_cons_zero, List.getD_cons_succ, List.mem_singleton, ne_eq, List.append_assoc]
      refine ⟨rs.flatMap (growF low (1 + hi + 1 - low).toNat), fun r hr => ?_, ?_, ?_⟩
      · obtain ⟨r0, h0, h1⟩ := List.mem_flatMap.mp hr
        obtain ⟨k, hk, rfl⟩ := growF_mem h1
        have := hrs r0 h0
        refine ⟨by rw [List.length_append, List.length_singleton, this.1], fun x hx => ?_⟩
        rcases List.mem_append.mp hx with q | q
        · exact this.2 x q
        · rw [List.mem_singleton.mp q]
          omega
      · rw [growF_len, Nat.pow_succ]
        exact Nat.mul_le_mul hc (by omega)
      · rfl
  · rintro φ ⟨rs, a, b, d, hrs, hc, rfl⟩
    dsimp only
    (rw [d_seq0]; simp only [XS.whole, ↓runA, ↓runC, ↓reduceIte, runB, ite_and, Decidable.not_not, forall_eq, List.map_cons, List.map_nil, List.cons_append, List.nil_append, List.replicate_succ, List.replicate_zero, List.append_nil, List.set_cons_zero, List.set_cons_succ, List.getElem?_cons_zero, List.getElem?_cons_succ, Option.some.injEq, List.cons.injEq, exists_and_left, exists_eq_left', exists_eq_left, exists_false, exists_const, forall_eq', forall_eq, ints_inj, Prod.exists, reduceCtorEq, List.length_cons, List.length_nil, implies_true, forall_const, decide_eq_true_eq, decide_eq_false_iff_not, List.getElem?_nil, List.set_nil, if_true, if_false, ite_true, ite_false, eq_self, Prod.mk.injEq, Co.lst.injEq, Co.dct.injEq, Fr.mk.injEq, exists_eq, exists_eq', exists_eq_right, exists_and_right, Nat.zero_le, Nat.zero_add, Nat.reduceAdd, Nat.reduceLT, Nat.reduceLeDiff, Nat.reduceEqDiff, List.mem_cons, List.not_mem_nil, List.nodup_cons, List.nodup_nil, List.forall_mem_cons, forall_eq_or_imp, List.getD_cons_zero, List.getD_cons_succ, List.mem_singleton, ne_eq, List.append_assoc])
    refine ⟨hmem, by omega, ?_⟩
    rw [hG]
    (rw [d_seq0]; simp only [XS.whole, ↓runA, ↓runC, ↓reduceIte, runB, ite_and, Decidable.not_not, forall_eq, List.map_cons, List.map_nil, List.cons_append, List.nil_append, List.replicate_succ, List.replicate_zero, List.append_nil, List.set_cons_zero, List.set_cons_succ, List.getElem?_cons_zero, List.getElem?_cons_succ, Option.some.injEq, List.cons.injEq, exists_and_left, exists_eq_left', exists_eq_left, exists_false, exists_const, forall_eq', forall_eq, ints_inj, Prod.exists, reduceCtorEq, List.length_cons, List.length_nil, implies_true, forall_const, decide_eq_true_eq, decide_eq_false_iff_not, List.getElem?_nil, List.set_nil, if_true, if_false, ite_true, ite_false, eq_self, Prod.mk.injEq, Co.lst.injEq, Co.dct.injEq, Fr.mk.injEq, exists_eq, exists_eq', exists_eq_right, exists_and_right, Nat.zero_le, Nat.zero_add, Nat.reduceAdd, Nat.reduceLT, Nat.reduceLeDiff, Nat.reduceEqDiff, List.mem_cons, List.not_mem_nil, List.nodup_cons, List.nodup_nil, List.forall_mem_cons, forall_eq_or_imp, List.getD_cons_zero, List.getD_cons_succ, List.mem_singleton, ne_eq, List.append_assoc])
    rw [show ((G.map W.int).length : Int).toNat = G.length by rw [List.length_map]; omega]
    refine ⟨by rw [List.length_map]; omega, by rw [List.length_map]; omega, fun i φ => ∃ x y z u v, φ = ⟨[x, y, z, u, v, some (.lst (row.map .int)), some (.mem (memF row)), some (.lst (rs.map fun r => .lst (r.map .int))), a, b, d, some (.lst (G.map .int)), none], none⟩, ⟨_, _, _, _, _, rfl⟩, ?_, ?_⟩
    · rintro i w φ hw ⟨x, y, z, u, v, rfl⟩
      obtain ⟨hi1, rfl⟩ := rgW_at hw
      refine ⟨fun q e => (by cases e), ?_⟩
      simp only [↓d_gname, ↓setC_0, ↓setC_s]
      simp only [XS.whole, ↓runA, ↓runC, ↓reduceIte, runB, ite_and, Decidable.not_not, forall_eq, List.map_cons, List.map_nil, List.cons_append, List.nil_append, List.replicate_succ, List.replicate_zero, List.append_nil, List.set_cons_zero, List.set_cons_succ, List.getElem?_cons_zero, List.getElem?_cons_succ, Option.some.injEq, List.cons.injEq, exists_and_left, exists_eq_left', exists_eq_left, exists_false, exists_const, forall_eq', forall_eq, ints_inj, Prod.exists, reduceCtorEq, List.length_cons, List.length_nil, implies_true, forall_const, decide_eq_true_eq, decide_eq_false_iff_not, List.getElem?_nil, List.set_nil, if_true, if_false, ite_true, ite_false, eq_self, Prod.mk.injEq, Co.lst.injEq, Co.dct.injEq, Fr.mk.injEq, exists_eq, exists_eq', exists_eq_right, exists_and_right, Nat.zero_le, Nat.zero_add, Nat.reduceAdd, Nat.reduceLT, Nat.reduceLeDiff, Nat.reduceEqDiff, List.mem_cons, List.not_mem_nil, List.nodup_cons, List.nodup_nil, List.forall_mem_cons, forall_eq_or_imp, List.getD_cons_zero, List.getD_cons_succ, List.mem_singleton, ne_eq, List.append_assoc]
      have hlen : (G.take i ++ G.drop (i + 1)).length + 1 = G.length := by
        rw [List.length_append, List.length_take, List.length_drop]; omega
      rw [show (0 + (i : Int) + 1) = ((i + 1 : Nat) : Int) by omega, Int.zero_add, cutW_to, cutW_from, ← List.map_take, ← List.map_drop, ← List.map_append]
      refine ⟨by rw [List.length_map, List.length_map, ← List.length_append]; omega, _, rfl, by omega, fun x hx => ?_, fun q => ?_⟩
      · rcases List.mem_append.mp hx with q | q
        · exact hpR x (List.mem_of_mem_take q)
        · exact hpR x (List.mem_of_mem_drop q)
      · have := rmin _ q
        omega
    · rintro φ ⟨x, y, z, u, v, rfl⟩
      simp only [XS.whole, ↓runA, ↓runC, ↓reduceIte, runB, ite_and, Decidable.not_not, forall_eq, List.map_cons, List.map_nil, List.cons_append, List.nil_append, List.replicate_succ, List.replicate_zero, List.append_nil, List.set_cons_zero, List.set_cons_succ, List.getElem?_cons_zero, List.getElem?_cons_succ, Option.some.injEq, List.cons.injEq, exists_and_left, exists_eq_left', exists_eq_left, exists_false, exists_const, forall_eq', forall_eq, ints_inj, Prod.exists, reduceCtorEq, List.length_cons, List.length_nil, implies_true, forall_const, decide_eq_true_eq, decide_eq_false_iff_not, List.getElem?_nil, List.set_nil, if_true, if_false, ite_true, ite_false, eq_self, Prod.mk.injEq, Co.lst.injEq, Co.dct.injEq, Fr.mk.injEq, exists_eq, exists_eq', exists_eq_right, exists_and_right, Nat.zero_le, Nat.zero_add, Nat.reduceAdd, Nat.reduceLT, Nat.reduceLeDiff, Nat.reduceEqDiff, List.mem_cons, List.not_mem_nil, List.nodup_cons, List.nodup_nil, List.forall_mem_cons, forall_eq_or_imp, List.getD_cons_zero, List.getD_cons_succ, List.mem_singleton, ne_eq, List.append_assoc]
      have rm := rowM_len (memF row) hmem
      rw [hG] at rm
      refine ⟨_, rfl, by omega, _, at_getD (i := 0) m0, ?_⟩
      rw [List.length_map]
      rw [decide_eq_true]
      · exact k
      · exact rm
end
end L
abbrev spLaw (K : PySem.W.Frag) : Sp := Sv (fun ns : List Int => [Scr K ns]) (fun ns => ns.length ≤ 63) (fun _ => B K true)
theorem law_sp (K : PySem.W.Frag) (c : Z.Cl) : ∀ vs H Q E, spLaw K vs H Q E → L.F_law.sp K c vs H Q E := fun vs H Q E ⟨a, h, e, q, p, kk⟩ => ⟨a, h, e, q, p, fun v h1 H1 s ⟨w, hw, z⟩ => kk v h1 H1 s (by
  have hw : w = .bl true := hw
  subst hw; exact z)⟩

theorem all_mk {l : PySem.W.OpenLaw} {w : World} {K : PySem.W.Frag} {h : Heap} {mg : Str → Option Value} {fa f__law_random f__law_below f__law_memory f_is_whole_number f_is_number f_is_place f_check_row f__is_between f_count_kept f_after_move f__fits f__check_places f_memory_of f_law C_Memory f_Memory__init_ f_Memory__len_ f_Memory__eq_ f_Memory_places p_Memory_places f_Memory_row p_Memory_row : Addr} (X : K.In h) (G : h.Ns mainGlobals mg) (hfa : mg "law" = some (.ref fa))
    {od__law_random an__law_random : Option Addr} {sl__law_random : Array (Option Value)} {oc__law_random kV__law_random dc__law_random pm__law_random cd__law_random ct__law_random : Value}
    {od__law_below an__law_below : Option Addr} {sl__law_below : Array (Option Value)} {oc__law_below kV__law_below dc__law_below pm__law_below cd__law_below ct__law_below : Value}
    {od__law_memory an__law_memory : Option Addr} {sl__law_memory : Array (Option Value)} {oc__law_memory kV__law_memory dc__law_memory pm__law_memory cd__law_memory ct__law_memory : Value}
    {od_is_whole_number an_is_whole_number : Option Addr} {sl_is_whole_number : Array (Option Value)} {oc_is_whole_number kV_is_whole_number dc_is_whole_number pm_is_whole_number cd_is_whole_number ct_is_whole_number : Value}
    {od_is_number an_is_number : Option Addr} {sl_is_number : Array (Option Value)} {oc_is_number kV_is_number dc_is_number pm_is_number cd_is_number ct_is_number : Value}
    {od_is_place an_is_place : Option Addr} {sl_is_place : Array (Option Value)} {oc_is_place kV_is_place dc_is_place pm_is_place cd_is_place ct_is_place : Value}
    {od_check_row an_check_row : Option Addr} {sl_check_row : Array (Option Value)} {oc_check_row kV_check_row dc_check_row pm_check_row cd_check_row ct_check_row : Value}
    {od__is_between an__is_between : Option Addr} {sl__is_between : Array (Option Value)} {oc__is_between kV__is_between dc__is_between pm__is_between cd__is_between ct__is_between : Value}
    {od_count_kept an_count_kept : Option Addr} {sl_count_kept : Array (Option Value)} {oc_count_kept kV_count_kept dc_count_kept pm_count_kept cd_count_kept ct_count_kept : Value}
    {od_after_move an_after_move : Option Addr} {sl_after_move : Array (Option Value)} {oc_after_move kV_after_move dc_after_move pm_after_move cd_after_move ct_after_move : Value}
    {od__fits an__fits : Option Addr} {sl__fits : Array (Option Value)} {oc__fits kV__fits dc__fits pm__fits cd__fits ct__fits : Value}
    {od__check_places an__check_places : Option Addr} {sl__check_places : Array (Option Value)} {oc__check_places kV__check_places dc__check_places pm__check_places cd__check_places ct__check_places : Value}
    {od_memory_of an_memory_of : Option Addr} {sl_memory_of : Array (Option Value)} {oc_memory_of kV_memory_of dc_memory_of pm_memory_of cd_memory_of ct_memory_of : Value}
    {od_law an_law : Option Addr} {sl_law : Array (Option Value)} {oc_law kV_law dc_law pm_law cd_law ct_law : Value}
    {od_Memory__init_ an_Memory__init_ : Option Addr} {sl_Memory__init_ : Array (Option Value)} {oc_Memory__init_ kV_Memory__init_ dc_Memory__init_ pm_Memory__init_ cd_Memory__init_ ct_Memory__init_ : Value}
    {od_Memory__len_ an_Memory__len_ : Option Addr} {sl_Memory__len_ : Array (Option Value)} {oc_Memory__len_ kV_Memory__len_ dc_Memory__len_ pm_Memory__len_ cd_Memory__len_ ct_Memory__len_ : Value}
    {od_Memory__eq_ an_Memory__eq_ : Option Addr} {sl_Memory__eq_ : Array (Option Value)} {oc_Memory__eq_ kV_Memory__eq_ dc_Memory__eq_ pm_Memory__eq_ cd_Memory__eq_ ct_Memory__eq_ : Value}
    {r_Memory_places : List Value}
    {od_Memory_places an_Memory_places : Option Addr} {sl_Memory_places : Array (Option Value)} {oc_Memory_places kV_Memory_places dc_Memory_places pm_Memory_places cd_Memory_places ct_Memory_places : Value}
    {r_Memory_row : List Value}
    {od_Memory_row an_Memory_row : Option Addr} {sl_Memory_row : Array (Option Value)} {oc_Memory_row kV_Memory_row dc_Memory_row pm_Memory_row cd_Memory_row ct_Memory_row : Value}
    {u_FARTHEST : Value}
    {u_LONGEST_ROW : Value}
    (a__law_random : PySem.W.nsIn K mainGlobals "_law_random" = some (some (.ref f__law_random)))
    (l__law_random : K.lookup f__law_random = some ⟨oc__law_random, od__law_random, .func (PySem.W.fnOf "_law_random" "_law_random" (defArgs s__law_random) (defBody s__law_random) (defScope s__law_random) .none kV__law_random dc__law_random pm__law_random an__law_random cd__law_random ct__law_random), sl__law_random⟩)
    (c__law_random : PySem.W.codeIn K cd__law_random "_law_random" = true)
    (k__law_random : PySem.W.keepIn K (.ref f__law_random) = true)
    (a__law_below : PySem.W.nsIn K mainGlobals "_law_below" = some (some (.ref f__law_below)))
    (l__law_below : K.lookup f__law_below = some ⟨oc__law_below, od__law_below, .func (PySem.W.fnOf "_law_below" "_law_below" (defArgs s__law_below) (defBody s__law_below) (defScope s__law_below) .none kV__law_below dc__law_below pm__law_below an__law_below cd__law_below ct__law_below), sl__law_below⟩)
    (c__law_below : PySem.W.codeIn K cd__law_below "_law_below" = true)
    (k__law_below : PySem.W.keepIn K (.ref f__law_below) = true)
    (a__law_memory : PySem.W.nsIn K mainGlobals "_law_memory" = some (some (.ref f__law_memory)))
    (l__law_memory : K.lookup f__law_memory = some ⟨oc__law_memory, od__law_memory, .func (PySem.W.fnOf "_law_memory" "_law_memory" (defArgs s__law_memory) (defBody s__law_memory) (defScope s__law_memory) .none kV__law_memory dc__law_memory pm__law_memory an__law_memory cd__law_memory ct__law_memory), sl__law_memory⟩)
    (c__law_memory : PySem.W.codeIn K cd__law_memory "_law_memory" = true)
    (k__law_memory : PySem.W.keepIn K (.ref f__law_memory) = true)
    (a_is_whole_number : PySem.W.nsIn K mainGlobals "is_whole_number" = some (some (.ref f_is_whole_number)))
    (l_is_whole_number : K.lookup f_is_whole_number = some ⟨oc_is_whole_number, od_is_whole_number, .func (PySem.W.fnOf "is_whole_number" "is_whole_number" (defArgs s_is_whole_number) (defBody s_is_whole_number) (defScope s_is_whole_number) .none kV_is_whole_number dc_is_whole_number pm_is_whole_number an_is_whole_number cd_is_whole_number ct_is_whole_number), sl_is_whole_number⟩)
    (c_is_whole_number : PySem.W.codeIn K cd_is_whole_number "is_whole_number" = true)
    (k_is_whole_number : PySem.W.keepIn K (.ref f_is_whole_number) = true)
    (a_is_number : PySem.W.nsIn K mainGlobals "is_number" = some (some (.ref f_is_number)))
    (l_is_number : K.lookup f_is_number = some ⟨oc_is_number, od_is_number, .func (PySem.W.fnOf "is_number" "is_number" (defArgs s_is_number) (defBody s_is_number) (defScope s_is_number) .none kV_is_number dc_is_number pm_is_number an_is_number cd_is_number ct_is_number), sl_is_number⟩)
    (c_is_number : PySem.W.codeIn K cd_is_number "is_number" = true)
    (k_is_number : PySem.W.keepIn K (.ref f_is_number) = true)
    (a_is_place : PySem.W.nsIn K mainGlobals "is_place" = some (some (.ref f_is_place)))
    (l_is_place : K.lookup f_is_place = some ⟨oc_is_place, od_is_place, .func (PySem.W.fnOf "is_place" "is_place" (defArgs s_is_place) (defBody s_is_place) (defScope s_is_place) .none kV_is_place dc_is_place pm_is_place an_is_place cd_is_place ct_is_place), sl_is_place⟩)
    (c_is_place : PySem.W.codeIn K cd_is_place "is_place" = true)
    (k_is_place : PySem.W.keepIn K (.ref f_is_place) = true)
    (a_check_row : PySem.W.nsIn K mainGlobals "check_row" = some (some (.ref f_check_row)))
    (l_check_row : K.lookup f_check_row = some ⟨oc_check_row, od_check_row, .func (PySem.W.fnOf "check_row" "check_row" (defArgs s_check_row) (defBody s_check_row) (defScope s_check_row) .none kV_check_row dc_check_row pm_check_row an_check_row cd_check_row ct_check_row), sl_check_row⟩)
    (c_check_row : PySem.W.codeIn K cd_check_row "check_row" = true)
    (k_check_row : PySem.W.keepIn K (.ref f_check_row) = true)
    (a__is_between : PySem.W.nsIn K mainGlobals "_is_between" = some (some (.ref f__is_between)))
    (l__is_between : K.lookup f__is_between = some ⟨oc__is_between, od__is_between, .func (PySem.W.fnOf "_is_between" "_is_between" (defArgs s__is_between) (defBody s__is_between) (defScope s__is_between) .none kV__is_between dc__is_between pm__is_between an__is_between cd__is_between ct__is_between), sl__is_between⟩)
    (c__is_between : PySem.W.codeIn K cd__is_between "_is_between" = true)
    (k__is_between : PySem.W.keepIn K (.ref f__is_between) = true)
    (a_count_kept : PySem.W.nsIn K mainGlobals "count_kept" = some (some (.ref f_count_kept)))
    (l_count_kept : K.lookup f_count_kept = some ⟨oc_count_kept, od_count_kept, .func (PySem.W.fnOf "count_kept" "count_kept" (defArgs s_count_kept) (defBody s_count_kept) (defScope s_count_kept) .none kV_count_kept dc_count_kept pm_count_kept an_count_kept cd_count_kept ct_count_kept), sl_count_kept⟩)
    (c_count_kept : PySem.W.codeIn K cd_count_kept "count_kept" = true)
    (k_count_kept : PySem.W.keepIn K (.ref f_count_kept) = true)
    (a_after_move : PySem.W.nsIn K mainGlobals "after_move" = some (some (.ref f_after_move)))
    (l_after_move : K.lookup f_after_move = some ⟨oc_after_move, od_after_move, .func (PySem.W.fnOf "after_move" "after_move" (defArgs s_after_move) (defBody s_after_move) (defScope s_after_move) .none kV_after_move dc_after_move pm_after_move an_after_move cd_after_move ct_after_move), sl_after_move⟩)
    (c_after_move : PySem.W.codeIn K cd_after_move "after_move" = true)
    (k_after_move : PySem.W.keepIn K (.ref f_after_move) = true)
    (a__fits : PySem.W.nsIn K mainGlobals "_fits" = some (some (.ref f__fits)))
    (l__fits : K.lookup f__fits = some ⟨oc__fits, od__fits, .func (PySem.W.fnOf "_fits" "_fits" (defArgs s__fits) (defBody s__fits) (defScope s__fits) .none kV__fits dc__fits pm__fits an__fits cd__fits ct__fits), sl__fits⟩)
    (c__fits : PySem.W.codeIn K cd__fits "_fits" = true)
    (k__fits : PySem.W.keepIn K (.ref f__fits) = true)
    (a__check_places : PySem.W.nsIn K mainGlobals "_check_places" = some (some (.ref f__check_places)))
    (l__check_places : K.lookup f__check_places = some ⟨oc__check_places, od__check_places, .func (PySem.W.fnOf "_check_places" "_check_places" (defArgs s__check_places) (defBody s__check_places) (defScope s__check_places) .none kV__check_places dc__check_places pm__check_places an__check_places cd__check_places ct__check_places), sl__check_places⟩)
    (c__check_places : PySem.W.codeIn K cd__check_places "_check_places" = true)
    (k__check_places : PySem.W.keepIn K (.ref f__check_places) = true)
    (a_memory_of : PySem.W.nsIn K mainGlobals "memory_of" = some (some (.ref f_memory_of)))
    (l_memory_of : K.lookup f_memory_of = some ⟨oc_memory_of, od_memory_of, .func (PySem.W.fnOf "memory_of" "memory_of" (defArgs s_memory_of) (defBody s_memory_of) (defScope s_memory_of) .none kV_memory_of dc_memory_of pm_memory_of an_memory_of cd_memory_of ct_memory_of), sl_memory_of⟩)
    (c_memory_of : PySem.W.codeIn K cd_memory_of "memory_of" = true)
    (k_memory_of : PySem.W.keepIn K (.ref f_memory_of) = true)
    (a_law : PySem.W.nsIn K mainGlobals "law" = some (some (.ref f_law)))
    (l_law : K.lookup f_law = some ⟨oc_law, od_law, .func (PySem.W.fnOf "law" "law" (defArgs s_law) (defBody s_law) (defScope s_law) .none kV_law dc_law pm_law an_law cd_law ct_law), sl_law⟩)
    (c_law : PySem.W.codeIn K cd_law "law" = true)
    (k_law : PySem.W.keepIn K (.ref f_law) = true)
    (aC_Memory : PySem.W.nsIn K mainGlobals "Memory" = some (some (.ref C_Memory)))
    (pg_Memory : PySem.W.plainGet K C_Memory Str.empty = true)
    (hd_Memory : PySem.W.hasDictIn K C_Memory = true)
    (po_Memory : PySem.W.plainOver K C_Memory = true)
    (sa_Memory : PySem.W.findIn K (.ref C_Memory) "__setattr__" = some (some (.builtin "object.__setattr__")))
    (na_Memory : PySem.W.findIn K (.ref C_Memory) "_places" = some none)
    (ha_Memory : PySem.W.findIn K (.ref C_Memory) "__class__" = some (some (.builtin "object.__class__")))
    (hn_Memory : PySem.W.specialIn K (.builtin "object.__class__") "__get__" = some (some (.builtin "getset_descriptor.__get__")))
    (ht_Memory : PySem.W.takesIn K (.builtin "object.__class__") = some true)
    (hm_Memory : PySem.W.mroIn K C_Memory (.type "object") = some true)
    (ne_Memory : PySem.W.findIn K (.ref C_Memory) "__ne__" = some (some (.builtin "object.__ne__")))
    (ic_Memory : PySem.W.isClsIn K C_Memory = true)
    (ty_Memory : PySem.W.typeIn K (.ref C_Memory) = some (.type "type"))
    (st_Memory : PySem.W.subIn K (.type "tuple") (.ref C_Memory) = some false)
    (mk_Memory : PySem.W.makesIn K C_Memory = true)
    (kc_Memory : PySem.W.keepIn K (.ref C_Memory) = true)
    (a_Memory__init_ : PySem.W.findIn K (.ref C_Memory) "__init__" = some (some (.ref f_Memory__init_)))
    (i_Memory__init_ : PySem.W.isFn K (.ref f_Memory__init_) = true)
    (fi_Memory__init_ : PySem.W.fnIn K f_Memory__init_ = true)
    (l_Memory__init_ : K.lookup f_Memory__init_ = some ⟨oc_Memory__init_, od_Memory__init_, .func (PySem.W.fnOf "__init__" "Memory.__init__" (defArgs s_Memory__init_) (defBody s_Memory__init_) (defScope s_Memory__init_) .none kV_Memory__init_ dc_Memory__init_ pm_Memory__init_ an_Memory__init_ cd_Memory__init_ ct_Memory__init_), sl_Memory__init_⟩)
    (c_Memory__init_ : PySem.W.codeIn K cd_Memory__init_ "Memory.__init__" = true)
    (k_Memory__init_ : PySem.W.keepIn K (.ref f_Memory__init_) = true)
    (a_Memory__len_ : PySem.W.findIn K (.ref C_Memory) "__len__" = some (some (.ref f_Memory__len_)))
    (i_Memory__len_ : PySem.W.isFn K (.ref f_Memory__len_) = true)
    (fi_Memory__len_ : PySem.W.fnIn K f_Memory__len_ = true)
    (l_Memory__len_ : K.lookup f_Memory__len_ = some ⟨oc_Memory__len_, od_Memory__len_, .func (PySem.W.fnOf "__len__" "Memory.__len__" (defArgs s_Memory__len_) (defBody s_Memory__len_) (defScope s_Memory__len_) .none kV_Memory__len_ dc_Memory__len_ pm_Memory__len_ an_Memory__len_ cd_Memory__len_ ct_Memory__len_), sl_Memory__len_⟩)
    (c_Memory__len_ : PySem.W.codeIn K cd_Memory__len_ "Memory.__len__" = true)
    (k_Memory__len_ : PySem.W.keepIn K (.ref f_Memory__len_) = true)
    (a_Memory__eq_ : PySem.W.findIn K (.ref C_Memory) "__eq__" = some (some (.ref f_Memory__eq_)))
    (i_Memory__eq_ : PySem.W.isFn K (.ref f_Memory__eq_) = true)
    (fi_Memory__eq_ : PySem.W.fnIn K f_Memory__eq_ = true)
    (l_Memory__eq_ : K.lookup f_Memory__eq_ = some ⟨oc_Memory__eq_, od_Memory__eq_, .func (PySem.W.fnOf "__eq__" "Memory.__eq__" (defArgs s_Memory__eq_) (defBody s_Memory__eq_) (defScope s_Memory__eq_) .none kV_Memory__eq_ dc_Memory__eq_ pm_Memory__eq_ an_Memory__eq_ cd_Memory__eq_ ct_Memory__eq_), sl_Memory__eq_⟩)
    (c_Memory__eq_ : PySem.W.codeIn K cd_Memory__eq_ "Memory.__eq__" = true)
    (k_Memory__eq_ : PySem.W.keepIn K (.ref f_Memory__eq_) = true)
    (a_Memory_places : PySem.W.findIn K (.ref C_Memory) "places" = some (some (.ref p_Memory_places)))
    (g_Memory_places : PySem.W.specialIn K (.ref p_Memory_places) "__get__" = some (some (.builtin "property.__get__")))
    (t_Memory_places : PySem.W.takesIn K (.ref p_Memory_places) = some true)
    (r_Memory_places_ : PySem.W.recIn K p_Memory_places "property" = some (.ref f_Memory_places :: r_Memory_places))
    (l_Memory_places : K.lookup f_Memory_places = some ⟨oc_Memory_places, od_Memory_places, .func (PySem.W.fnOf "places" "Memory.places" (defArgs s_Memory_places) (defBody s_Memory_places) (defScope s_Memory_places) .none kV_Memory_places dc_Memory_places pm_Memory_places an_Memory_places cd_Memory_places ct_Memory_places), sl_Memory_places⟩)
    (c_Memory_places : PySem.W.codeIn K cd_Memory_places "Memory.places" = true)
    (k_Memory_places : PySem.W.keepIn K (.ref f_Memory_places) = true)
    (a_Memory_row : PySem.W.findIn K (.ref C_Memory) "row" = some (some (.ref p_Memory_row)))
    (g_Memory_row : PySem.W.specialIn K (.ref p_Memory_row) "__get__" = some (some (.builtin "property.__get__")))
    (t_Memory_row : PySem.W.takesIn K (.ref p_Memory_row) = some true)
    (r_Memory_row_ : PySem.W.recIn K p_Memory_row "property" = some (.ref f_Memory_row :: r_Memory_row))
    (l_Memory_row : K.lookup f_Memory_row = some ⟨oc_Memory_row, od_Memory_row, .func (PySem.W.fnOf "row" "Memory.row" (defArgs s_Memory_row) (defBody s_Memory_row) (defScope s_Memory_row) .none kV_Memory_row dc_Memory_row pm_Memory_row an_Memory_row cd_Memory_row ct_Memory_row), sl_Memory_row⟩)
    (c_Memory_row : PySem.W.codeIn K cd_Memory_row "Memory.row" = true)
    (k_Memory_row : PySem.W.keepIn K (.ref f_Memory_row) = true)
    (z_len : PySem.W.nsIn K mainGlobals "len" = some none)
    (z_isinstance : PySem.W.nsIn K mainGlobals "isinstance" = some none)
    (z_min : PySem.W.nsIn K mainGlobals "min" = some none)
    (z_max : PySem.W.nsIn K mainGlobals "max" = some none)
    (z_abs : PySem.W.nsIn K mainGlobals "abs" = some none)
    (z_int : PySem.W.nsIn K mainGlobals "int" = some none)
    (z_bool : PySem.W.nsIn K mainGlobals "bool" = some none)
    (z_list : PySem.W.nsIn K mainGlobals "list" = some none)
    (z_tuple : PySem.W.nsIn K mainGlobals "tuple" = some none)
    (z_range : PySem.W.nsIn K mainGlobals "range" = some none)
    (z_enumerate : PySem.W.nsIn K mainGlobals "enumerate" = some none)
    (z_FARTHEST : PySem.W.nsIn K mainGlobals "FARTHEST" = some (some u_FARTHEST))
    (v_FARTHEST : RelV (.int 1000000) u_FARTHEST)
    (z_LONGEST_ROW : PySem.W.nsIn K mainGlobals "LONGEST_ROW" = some (some u_LONGEST_ROW))
    (v_LONGEST_ROW : RelV (.int 1000) u_LONGEST_ROW)
    : ∃ fd : FuncData, (∀ (s : Shared) (u : Value), BindsTo s fd ⟨[u], []⟩ [("_law_script", u)]) ∧ ∀ base : Heap, K.In base → base.Ns mainGlobals mg → FnOk l.prog w K mg base CX0 12 fa fd ["_law_script"] (spLaw K) := by
  have e := hfa.symm.trans (PySem.W.mg_of X G a_law)
  cases e
  have d__law_random : Dn K mg "_law_random" s__law_random P__law_random := ⟨f__law_random, _, fun_mk (st := s__law_random) l__law_random c__law_random k__law_random, PySem.W.mg_of X G a__law_random, (fun_mk (st := s__law_random) l__law_random c__law_random k__law_random).binds (ps := P__law_random) fun _ _ _ _ _ _ us hl => match us, hl with | [_, _], _ => rfl⟩
  have d__law_below : Dn K mg "_law_below" s__law_below P__law_below := ⟨f__law_below, _, fun_mk (st := s__law_below) l__law_below c__law_below k__law_below, PySem.W.mg_of X G a__law_below, (fun_mk (st := s__law_below) l__law_below c__law_below k__law_below).binds (ps := P__law_below) fun _ _ _ _ _ _ us hl => match us, hl with | [_, _], _ => rfl⟩
  have d__law_memory : Dn K mg "_law_memory" s__law_memory P__law_memory := ⟨f__law_memory, _, fun_mk (st := s__law_memory) l__law_memory c__law_memory k__law_memory, PySem.W.mg_of X G a__law_memory, (fun_mk (st := s__law_memory) l__law_memory c__law_memory k__law_memory).binds (ps := P__law_memory) fun _ _ _ _ _ _ us hl => match us, hl with | [_], _ => rfl⟩
  have d_is_whole_number : Dn K mg "is_whole_number" s_is_whole_number P_is_whole_number := ⟨f_is_whole_number, _, fun_mk (st := s_is_whole_number) l_is_whole_number c_is_whole_number k_is_whole_number, PySem.W.mg_of X G a_is_whole_number, (fun_mk (st := s_is_whole_number) l_is_whole_number c_is_whole_number k_is_whole_number).binds (ps := P_is_whole_number) fun _ _ _ _ _ _ us hl => match us, hl with | [_], _ => rfl⟩
  have d_is_number : Dn K mg "is_number" s_is_number P_is_number := ⟨f_is_number, _, fun_mk (st := s_is_number) l_is_number c_is_number k_is_number, PySem.W.mg_of X G a_is_number, (fun_mk (st := s_is_number) l_is_number c_is_number k_is_number).binds (ps := P_is_number) fun _ _ _ _ _ _ us hl => match us, hl with | [_, _, _], _ => rfl⟩
  have d_is_place : Dn K mg "is_place" s_is_place P_is_place := ⟨f_is_place, _, fun_mk (st := s_is_place) l_is_place c_is_place k_is_place, PySem.W.mg_of X G a_is_place, (fun_mk (st := s_is_place) l_is_place c_is_place k_is_place).binds (ps := P_is_place) fun _ _ _ _ _ _ us hl => match us, hl with | [_], _ => rfl⟩
  have d_check_row : Dn K mg "check_row" s_check_row P_check_row := ⟨f_check_row, _, fun_mk (st := s_check_row) l_check_row c_check_row k_check_row, PySem.W.mg_of X G a_check_row, (fun_mk (st := s_check_row) l_check_row c_check_row k_check_row).binds (ps := P_check_row) fun _ _ _ _ _ _ us hl => match us, hl with | [_], _ => rfl⟩
  have d__is_between : Dn K mg "_is_between" s__is_between P__is_between := ⟨f__is_between, _, fun_mk (st := s__is_between) l__is_between c__is_between k__is_between, PySem.W.mg_of X G a__is_between, (fun_mk (st := s__is_between) l__is_between c__is_between k__is_between).binds (ps := P__is_between) fun _ _ _ _ _ _ us hl => match us, hl with | [_, _, _], _ => rfl⟩
  have d_count_kept : Dn K mg "count_kept" s_count_kept P_count_kept := ⟨f_count_kept, _, fun_mk (st := s_count_kept) l_count_kept c_count_kept k_count_kept, PySem.W.mg_of X G a_count_kept, (fun_mk (st := s_count_kept) l_count_kept c_count_kept k_count_kept).binds (ps := P_count_kept) fun _ _ _ _ _ _ us hl => match us, hl with | [_, _], _ => rfl⟩
  have d_after_move : Dn K mg "after_move" s_after_move P_after_move := ⟨f_after_move, _, fun_mk (st := s_after_move) l_after_move c_after_move k_after_move, PySem.W.mg_of X G a_after_move, (fun_mk (st := s_after_move) l_after_move c_after_move k_after_move).binds (ps := P_after_move) fun _ _ _ _ _ _ us hl => match us, hl with | [_, _], _ => rfl⟩
  have d__fits : Dn K mg "_fits" s__fits P__fits := ⟨f__fits, _, fun_mk (st := s__fits) l__fits c__fits k__fits, PySem.W.mg_of X G a__fits, (fun_mk (st := s__fits) l__fits c__fits k__fits).binds (ps := P__fits) fun _ _ _ _ _ _ us hl => match us, hl with | [_, _], _ => rfl⟩
  have d__check_places : Dn K mg "_check_places" s__check_places P__check_places := ⟨f__check_places, _, fun_mk (st := s__check_places) l__check_places c__check_places k__check_places, PySem.W.mg_of X G a__check_places, (fun_mk (st := s__check_places) l__check_places c__check_places k__check_places).binds (ps := P__check_places) fun _ _ _ _ _ _ us hl => match us, hl with | [_], _ => rfl⟩
  have d_memory_of : Dn K mg "memory_of" s_memory_of P_memory_of := ⟨f_memory_of, _, fun_mk (st := s_memory_of) l_memory_of c_memory_of k_memory_of, PySem.W.mg_of X G a_memory_of, (fun_mk (st := s_memory_of) l_memory_of c_memory_of k_memory_of).binds (ps := P_memory_of) fun _ _ _ _ _ _ us hl => match us, hl with | [_], _ => rfl⟩
  have ck_Memory : CK K C_Memory "_places" := ⟨⟨pg_Memory, hd_Memory, po_Memory, sa_Memory⟩, na_Memory, ha_Memory, hn_Memory, ht_Memory, hm_Memory, ne_Memory, ic_Memory, ty_Memory, st_Memory⟩
  have g_Memory : mg "Memory" = some (.ref C_Memory) := PySem.W.mg_of X G aC_Memory
  have d_Memory__init_ : Dm K "__init__" "Memory.__init__" s_Memory__init_ P_Memory__init_ f_Memory__init_ := ⟨_, fun_mk (st := s_Memory__init_) l_Memory__init_ c_Memory__init_ k_Memory__init_, (fun_mk (st := s_Memory__init_) l_Memory__init_ c_Memory__init_ k_Memory__init_).binds (ps := P_Memory__init_) fun _ _ _ _ _ _ us hl => match us, hl with | [_, _], _ => rfl⟩
  have mk_Memory_ : Mk K C_Memory f_Memory__init_ := ⟨mk_Memory, a_Memory__init_, i_Memory__init_, kc_Memory⟩
  have d_Memory__len_ : Dm K "__len__" "Memory.__len__" s_Memory__len_ P_Memory__len_ f_Memory__len_ := ⟨_, fun_mk (st := s_Memory__len_) l_Memory__len_ c_Memory__len_ k_Memory__len_, (fun_mk (st := s_Memory__len_) l_Memory__len_ c_Memory__len_ k_Memory__len_).binds (ps := P_Memory__len_) fun _ _ _ _ _ _ us hl => match us, hl with | [_], _ => rfl⟩
  have mt_Memory__len_ : Mt K C_Memory "__len__" f_Memory__len_ := ⟨a_Memory__len_, i_Memory__len_, fi_Memory__len_⟩
  have d_Memory__eq_ : Dm K "__eq__" "Memory.__eq__" s_Memory__eq_ P_Memory__eq_ f_Memory__eq_ := ⟨_, fun_mk (st := s_Memory__eq_) l_Memory__eq_ c_Memory__eq_ k_Memory__eq_, (fun_mk (st := s_Memory__eq_) l_Memory__eq_ c_Memory__eq_ k_Memory__eq_).binds (ps := P_Memory__eq_) fun _ _ _ _ _ _ us hl => match us, hl with | [_, _], _ => rfl⟩
  have mt_Memory__eq_ : Mt K C_Memory "__eq__" f_Memory__eq_ := ⟨a_Memory__eq_, i_Memory__eq_, fi_Memory__eq_⟩
  have po_Memory_places : PropOf K C_Memory "places" p_Memory_places f_Memory_places := ⟨a_Memory_places, g_Memory_places, t_Memory_places, ⟨_, r_Memory_places_⟩⟩
  have d_Memory_places : Dm K "places" "Memory.places" s_Memory_places P_Memory_places f_Memory_places := ⟨_, fun_mk (st := s_Memory_places) l_Memory_places c_Memory_places k_Memory_places, (fun_mk (st := s_Memory_places) l_Memory_places c_Memory_places k_Memory_places).binds (ps := P_Memory_places) fun _ _ _ _ _ _ us hl => match us, hl with | [_], _ => rfl⟩
  have po_Memory_row : PropOf K C_Memory "row" p_Memory_row f_Memory_row := ⟨a_Memory_row, g_Memory_row, t_Memory_row, ⟨_, r_Memory_row_⟩⟩
  have d_Memory_row : Dm K "row" "Memory.row" s_Memory_row P_Memory_row f_Memory_row := ⟨_, fun_mk (st := s_Memory_row) l_Memory_row c_Memory_row k_Memory_row, (fun_mk (st := s_Memory_row) l_Memory_row c_Memory_row k_Memory_row).binds (ps := P_Memory_row) fun _ _ _ _ _ _ us hl => match us, hl with | [_], _ => rfl⟩
  have tx : Tx mg := ⟨PySem.W.mg_none_of X G z_len, PySem.W.mg_none_of X G z_isinstance, PySem.W.mg_none_of X G z_min, PySem.W.mg_none_of X G z_max, PySem.W.mg_none_of X G z_abs, PySem.W.mg_none_of X G z_int, PySem.W.mg_none_of X G z_bool, PySem.W.mg_none_of X G z_list, PySem.W.mg_none_of X G z_tuple, PySem.W.mg_none_of X G z_range, PySem.W.mg_none_of X G z_enumerate, ⟨_, PySem.W.mg_of X G z_FARTHEST, v_FARTHEST⟩, ⟨_, PySem.W.mg_of X G z_LONGEST_ROW, v_LONGEST_ROW⟩⟩
  refine ⟨PySem.W.fnOf "law" "law" (defArgs s_law) (defBody s_law) (defScope s_law) .none kV_law dc_law pm_law an_law cd_law ct_law, fun s v => .of_eq rfl, fun base _ _ => ?_⟩
  let c : Z.Cl := ⟨C_Memory, C_Memory⟩
  have ckM : CK K c.C "_places" := ck_Memory
  have okM : OkEq K c false := ckOkEq ckM
  have c__law_random := L.ok_law_random (P := l.prog) (w := w) (base := base) (c := c) tx d__law_random
  have c__law_below := L.ok_law_below (P := l.prog) (w := w) (base := base) (c := c) tx d__law_below
  have c__law_memory := L.ok_law_memory (P := l.prog) (w := w) (base := base) (c := c) tx d__law_memory
  have c_is_whole_number := ok_is_whole (P := l.prog) (w := w) (base := base) (c := c) tx d_is_whole_number
  have c_is_number := ok_is_number tx d_is_number c_is_whole_number
  have c_is_place := ok_is_place tx d_is_place c_is_number
  have c_check_row := ok_check_row tx d_check_row c_is_place
  have c__is_between := ok_is_between (P := l.prog) (w := w) (base := base) (c := c) tx d__is_between
  have c_count_kept := ok_count_kept tx d_count_kept c__is_between
  have c_after_move := ok_after_move tx d_after_move c_count_kept
  have c__fits := ok_fits tx d__fits c_is_place c__is_between
  have c__check_places := ok_check_places tx d__check_places c__fits
  have m_Memory := ix_of (x := "Memory") mk_Memory_ g_Memory (ok_mem_init ckM d_Memory__init_ c__check_places)
  have c_memory_of := ok_memory_of tx d_memory_of c_check_row c_after_move m_Memory
  have m_len := mt_Memory__len_.mx (ok_mem_len (P := l.prog) (w := w) (mg := mg) (base := base) tx ckM d_Memory__len_)
  have isM : OkIs K c false := ckOkIs ckM
  have m_eq := mt_Memory__eq_.mx (ok_mem_eq (P := l.prog) (w := w) (mg := mg) (base := base) tx g_Memory ckM isM d_Memory__eq_)
  have gx_places := gx_of po_Memory_places (ok_mem_places (P := l.prog) (w := w) (mg := mg) (base := base) tx ckM d_Memory_places)
  have gx_row := gx_of po_Memory_row (ok_mem_row (P := l.prog) (w := w) (mg := mg) (base := base) tx ckM d_Memory_row)
  exact (L.ok_law tx ckM okM (fun_mk (st := s_law) l_law c_law k_law) c__law_random c__law_below c__law_memory c_memory_of m_len m_eq gx_places gx_row).imp (law_sp K c)
end Pf
open PySem PySem.W PyProof.Rows in
set_option maxRecDepth 100000 in
set_option maxHeartbeats 0 in
theorem PySem.Challenge.cw_slackrods_k16_whole_no_shorter_row_holds : PySem.Challenge.rw_slackrods_k16_whole_no_shorter_row.Holds := by
  w_on; o_law; k_head; (case hw => w_witness2)
  k_fill
  refine Z.walk_sv (k := 12) (l := PySem.Challenge.rw_slackrods_k16_whole_no_shorter_row) rfl rfl ⟨rfl, by decide, by decide⟩ (fun w h Y => PySem.W.kIn_of Y) ?F
  case F =>
    intro w mg fa h KX G hmg
    refine' Pf.all_mk KX G hmg ?a__law_random ?l__law_random ?c__law_random ?k__law_random ?a__law_below ?l__law_below ?c__law_below ?k__law_below ?a__law_memory ?l__law_memory ?c__law_memory ?k__law_memory ?a_is_whole_number ?l_is_whole_number ?c_is_whole_number ?k_is_whole_number ?a_is_number ?l_is_number ?c_is_number ?k_is_number ?a_is_place ?l_is_place ?c_is_place ?k_is_place ?a_check_row ?l_check_row ?c_check_row ?k_check_row ?a__is_between ?l__is_between ?c__is_between ?k__is_between ?a_count_kept ?l_count_kept ?c_count_kept ?k_count_kept ?a_after_move ?l_after_move ?c_after_move ?k_after_move ?a__fits ?l__fits ?c__fits ?k__fits ?a__check_places ?l__check_places ?c__check_places ?k__check_places ?a_memory_of ?l_memory_of ?c_memory_of ?k_memory_of ?a_law ?l_law ?c_law ?k_law ?aC_Memory ?pg_Memory ?hd_Memory ?po_Memory ?sa_Memory ?na_Memory ?ha_Memory ?hn_Memory ?ht_Memory ?hm_Memory ?ne_Memory ?ic_Memory ?ty_Memory ?st_Memory ?mk_Memory ?kc_Memory ?a_Memory__init_ ?i_Memory__init_ ?fi_Memory__init_ ?l_Memory__init_ ?c_Memory__init_ ?k_Memory__init_ ?a_Memory__len_ ?i_Memory__len_ ?fi_Memory__len_ ?l_Memory__len_ ?c_Memory__len_ ?k_Memory__len_ ?a_Memory__eq_ ?i_Memory__eq_ ?fi_Memory__eq_ ?l_Memory__eq_ ?c_Memory__eq_ ?k_Memory__eq_ ?a_Memory_places ?g_Memory_places ?t_Memory_places ?r_Memory_places_ ?l_Memory_places ?c_Memory_places ?k_Memory_places ?a_Memory_row ?g_Memory_row ?t_Memory_row ?r_Memory_row_ ?l_Memory_row ?c_Memory_row ?k_Memory_row ?z_len ?z_isinstance ?z_min ?z_max ?z_abs ?z_int ?z_bool ?z_list ?z_tuple ?z_range ?z_enumerate ?z_FARTHEST ?v_FARTHEST ?z_LONGEST_ROW ?v_LONGEST_ROW
    (case a__law_random => k_is)
    (case l__law_random => k_is)
    (case c__law_random => k_is)
    (case k__law_random => k_is)
    (case a__law_below => k_is)
    (case l__law_below => k_is)
    (case c__law_below => k_is)
    (case k__law_below => k_is)
    (case a__law_memory => k_is)
    (case l__law_memory => k_is)
    (case c__law_memory => k_is)
    (case k__law_memory => k_is)
    (case a_is_whole_number => k_is)
    (case l_is_whole_number => k_is)
    (case c_is_whole_number => k_is)
    (case k_is_whole_number => k_is)
    (case a_is_number => k_is)
    (case l_is_number => k_is)
    (case c_is_number => k_is)
    (case k_is_number => k_is)
    (case a_is_place => k_is)
    (case l_is_place => k_is)
    (case c_is_place => k_is)
    (case k_is_place => k_is)
    (case a_check_row => k_is)
    (case l_check_row => k_is)
    (case c_check_row => k_is)
    (case k_check_row => k_is)
    (case a__is_between => k_is)
    (case l__is_between => k_is)
    (case c__is_between => k_is)
    (case k__is_between => k_is)
    (case a_count_kept => k_is)
    (case l_count_kept => k_is)
    (case c_count_kept => k_is)
    (case k_count_kept => k_is)
    (case a_after_move => k_is)
    (case l_after_move => k_is)
    (case c_after_move => k_is)
    (case k_after_move => k_is)
    (case a__fits => k_is)
    (case l__fits => k_is)
    (case c__fits => k_is)
    (case k__fits => k_is)
    (case a__check_places => k_is)
    (case l__check_places => k_is)
    (case c__check_places => k_is)
    (case k__check_places => k_is)
    (case a_memory_of => k_is)
    (case l_memory_of => k_is)
    (case c_memory_of => k_is)
    (case k_memory_of => k_is)
    (case a_law => k_is)
    (case l_law => k_is)
    (case c_law => k_is)
    (case k_law => k_is)
    (case aC_Memory => k_is)
    (case pg_Memory => k_is)
    (case hd_Memory => k_is)
    (case po_Memory => k_is)
    (case sa_Memory => k_is)
    (case na_Memory => k_is)
    (case ha_Memory => k_is)
    (case hn_Memory => k_is)
    (case ht_Memory => k_is)
    (case hm_Memory => k_is)
    (case ne_Memory => k_is)
    (case ic_Memory => k_is)
    (case ty_Memory => k_is)
    (case st_Memory => k_is)
    (case mk_Memory => k_is)
    (case kc_Memory => k_is)
    (case a_Memory__init_ => k_is)
    (case i_Memory__init_ => k_is)
    (case fi_Memory__init_ => k_is)
    (case l_Memory__init_ => k_is)
    (case c_Memory__init_ => k_is)
    (case k_Memory__init_ => k_is)
    (case a_Memory__len_ => k_is)
    (case i_Memory__len_ => k_is)
    (case fi_Memory__len_ => k_is)
    (case l_Memory__len_ => k_is)
    (case c_Memory__len_ => k_is)
    (case k_Memory__len_ => k_is)
    (case a_Memory__eq_ => k_is)
    (case i_Memory__eq_ => k_is)
    (case fi_Memory__eq_ => k_is)
    (case l_Memory__eq_ => k_is)
    (case c_Memory__eq_ => k_is)
    (case k_Memory__eq_ => k_is)
    (case a_Memory_places => k_is)
    (case g_Memory_places => k_is)
    (case t_Memory_places => k_is)
    (case r_Memory_places_ => k_is)
    (case l_Memory_places => k_is)
    (case c_Memory_places => k_is)
    (case k_Memory_places => k_is)
    (case a_Memory_row => k_is)
    (case g_Memory_row => k_is)
    (case t_Memory_row => k_is)
    (case r_Memory_row_ => k_is)
    (case l_Memory_row => k_is)
    (case c_Memory_row => k_is)
    (case k_Memory_row => k_is)
    (case z_len => k_is)
    (case z_isinstance => k_is)
    (case z_min => k_is)
    (case z_max => k_is)
    (case z_abs => k_is)
    (case z_int => k_is)
    (case z_bool => k_is)
    (case z_list => k_is)
    (case z_tuple => k_is)
    (case z_range => k_is)
    (case z_enumerate => k_is)
    (case z_FARTHEST => k_is)
    (case v_FARTHEST => exact ⟨_, rfl⟩)
    (case z_LONGEST_ROW => k_is)
    (case v_LONGEST_ROW => exact ⟨_, rfl⟩)
#print axioms PySem.Challenge.cw_slackrods_k16_whole_no_shorter_row_holds

