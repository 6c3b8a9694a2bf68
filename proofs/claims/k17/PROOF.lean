import PyProof.Rows.All
import Wide.All
import OpenK.AllK
import Wide.FinOn
import HandS.ForMost
import HandS.Evl
import HandS.Codes
import HandS.Conv
import HandS.IsInst
import HandS.Property
import HandS.Star
import HandS.TupAny
import HandS.Wide
import PySem.Challenge.RW_slackrods_k17_whole_unlike_memories_are
set_option Elab.async false
set_option linter.all false
set_option maxRecDepth 100000
set_option maxHeartbeats 4000000
namespace Z
open PySem L2
abbrev Ex := Evl.Ex
theorem Ex.rfl' {H : Hp} : Ex H H := fun _ _ h => h
/-- from the part h of the heap H to the part h' of H': all stands, what was outside of h is outside of h' -/
structure Stp (h H h' H' : Hp) : Prop where
  e : Ex H H'
  s : Ex h h'
  i : Ex h' H'
  f : ∀ b o, H b = some o → h b = none → h' b = none
theorem Stp.refl {h H : Hp} (x : Ex h H) : Stp h H h H := ⟨fun _ _ q => q, fun _ _ q => q, x, fun _ _ _ n => n⟩
theorem Stp.trans {h H h1 H1 h2 H2 : Hp} (a : Stp h H h1 H1) (b : Stp h1 H1 h2 H2) : Stp h H h2 H2 :=
  ⟨fun x o q => b.e x o (a.e x o q), fun x o q => b.s x o (a.s x o q), b.i, fun x o q n => b.f x o (a.e x o q) (a.f x o q n)⟩
/-- a new object -/
theorem Stp.new {h H : Hp} {p : Addr} {o : HO} (x : Ex h H) (n : H p = none) : Stp h H (upd h p o) (upd H p o) := by
  have hn : h p = none := by
    cases q : h p with
    | none => rfl
    | some u => rw [x p u q] at n; cases n
  refine ⟨fun b u q => ?_, fun b u q => ?_, fun b u q => ?_, fun b u q z => ?_⟩
  · rw [upd_ne (ne_of_none q n)]; exact q
  · rw [upd_ne (ne_of_none q hn)]; exact q
  · by_cases e : b = p
    · subst e; rw [upd_same] at q ⊢; exact q
    · rw [upd_ne e] at q ⊢; exact x b u q
  · rw [upd_ne (ne_of_none q n)]; exact z
structure Pr where
  p : V → Hp → Prop
  mono : ∀ {v : V} {h h' : Hp}, Ex h h' → p v h → p v h'
/-- there is an a such that -/
def Pr.some {α : Sort _} (f : α → Pr) : Pr := ⟨fun v h => ∃ a, (f a).p v h, fun e ⟨a, q⟩ => ⟨a, (f a).mono e q⟩⟩
def Pr.and (C : Prop) (P : Pr) : Pr := ⟨fun v h => C ∧ P.p v h, fun e ⟨c, q⟩ => ⟨c, P.mono e q⟩⟩
def Pr.any : Pr := ⟨fun _ _ => True, fun _ q => q⟩
def Pr.is (v : V) : Pr := ⟨fun u _ => u = v, fun _ q => q⟩

/-! ### data -/
theorem sqL_ex {K : PySem.W.Frag} {h h' : Hp} {a : Addr} {xs : List V} (e : Ex h h') (q : SqL K h a xs) : SqL K h' a xs := Evl.ex_l e q
theorem sqT_ex {K : PySem.W.Frag} {h h' : Hp} {a : Addr} {xs : List V} (e : Ex h h') (q : SqT K h a xs) : SqT K h' a xs := Evl.ex_t e q
mutual
/-- the value stands for the data; lists are the run's own -/
inductive Dq (K : PySem.W.Frag) (H : Hp) : V → PyData → Prop
  | non : Dq K H .non .none
  | bl (b : Bool) : Dq K H (.bl b) (.bool b)
  | int (i : Int) : Dq K H (.int i) (.int i)
  | str (x : Str) : Dq K H (.str x) (.str x)
  | lst {a : Addr} {xs : List V} {ds : List PyData} : H a = some (.lst xs) → DqAll K H xs ds → Dq K H (.ref a) (.list ds)
  | tup {a : Addr} {xs : List V} {ds : List PyData} : SqT K H a xs → DqAll K H xs ds → Dq K H (.ref a) (.tuple ds)
inductive DqAll (K : PySem.W.Frag) (H : Hp) : List V → List PyData → Prop
  | nil : DqAll K H [] []
  | cons {v : V} {vs : List V} {d : PyData} {ds : List PyData} : Dq K H v d → DqAll K H vs ds → DqAll K H (v :: vs) (d :: ds)
end
mutual
theorem dq_dp {K : PySem.W.Frag} {h : Hp} : ∀ {v : V} {d : PyData}, Dq K h v d → Dp K h v d
  | _, _, .non => .non
  | _, _, .bl b => .bl b
  | _, _, .int i => .int i
  | _, _, .str x => .str x
  | _, _, .lst q a => .lst (.inl (.inl q)) (dqa_dpa a)
  | _, _, .tup q a => .tup q (dqa_dpa a)
theorem dqa_dpa {K : PySem.W.Frag} {h : Hp} : ∀ {vs : List V} {ds : List PyData}, DqAll K h vs ds → DpAll K h vs ds
  | _, _, .nil => .nil
  | _, _, .cons a b => .cons (dq_dp a) (dqa_dpa b)
end
mutual
theorem dp_ex {K : PySem.W.Frag} {h h' : Hp} (e : Ex h h') : ∀ {v : V} {d : PyData}, Dq K h v d → Dq K h' v d
  | _, _, .non => .non
  | _, _, .bl b => .bl b
  | _, _, .int i => .int i
  | _, _, .str x => .str x
  | _, _, .lst q a => .lst (e _ _ q) (dpa_ex e a)
  | _, _, .tup q a => .tup (sqT_ex e q) (dpa_ex e a)
theorem dpa_ex {K : PySem.W.Frag} {h h' : Hp} (e : Ex h h') : ∀ {vs : List V} {ds : List PyData}, DqAll K h vs ds → DqAll K h' vs ds
  | _, _, .nil => .nil
  | _, _, .cons a b => .cons (dp_ex e a) (dpa_ex e b)
end
/-- the value stands for the data -/
def D (K : PySem.W.Frag) (d : PyData) : Pr := ⟨fun v h => Dq K h v d, fun e q => dp_ex e q⟩
abbrev I (K : PySem.W.Frag) (i : Int) : Pr := D K (.int i)
abbrev B (K : PySem.W.Frag) (b : Bool) : Pr := D K (.bool b)
abbrev dI (ns : List Int) : PyData := .list (ns.map PyData.int)
abbrev dT (ns : List Int) : PyData := .tuple (ns.map PyData.int)
section
variable {K : PySem.W.Frag} {h : Hp} {v : V}
theorem dp_int {i : Int} (q : Dq K h v (.int i)) : v = .int i := by cases q; rfl
theorem dp_bl {b : Bool} (q : Dq K h v (.bool b)) : v = .bl b := by cases q; rfl
theorem dp_str {x : Str} (q : Dq K h v (.str x)) : v = .str x := by cases q; rfl
theorem dp_non (q : Dq K h v .none) : v = .non := by cases q; rfl
theorem dp_lst {ds : List PyData} (q : Dq K h v (.list ds)) : ∃ a xs, v = .ref a ∧ h a = some (.lst xs) ∧ DqAll K h xs ds := by cases q with | lst a b => exact ⟨_, _, rfl, a, b⟩
theorem dp_tup {ds : List PyData} (q : Dq K h v (.tuple ds)) : ∃ a xs, v = .ref a ∧ SqT K h a xs ∧ DqAll K h xs ds := by cases q with | tup a b => exact ⟨_, _, rfl, a, b⟩
theorem dpa_len : ∀ {vs : List V} {ds : List PyData}, DqAll K h vs ds → vs.length = ds.length
  | _, _, .nil => rfl
  | _, _, .cons _ b => by rw [List.length_cons, List.length_cons, dpa_len b]
theorem dpa_ints : ∀ {vs : List V} {ns : List Int}, DqAll K h vs (ns.map PyData.int) → vs = ns.map V.int
  | _, [], q => by cases q; rfl
  | _, n :: ns, q => by
    cases q with
    | cons a b => rw [dp_int a, dpa_ints b]; rfl
theorem ints_dpa : ∀ (ns : List Int), DqAll K h (ns.map V.int) (ns.map PyData.int)
  | [] => .nil
  | n :: ns => .cons (.int n) (ints_dpa ns)
theorem dp_ints {ns : List Int} (q : Dq K h v (dI ns)) : ∃ a, v = .ref a ∧ h a = some (.lst (ns.map V.int)) := by
  obtain ⟨a, xs, e, s, d⟩ := dp_lst q
  rw [dpa_ints d] at s
  exact ⟨a, e, s⟩
theorem dp_intsT {ns : List Int} (q : Dq K h v (dT ns)) : ∃ a, v = .ref a ∧ SqT K h a (ns.map V.int) := by
  obtain ⟨a, xs, e, s, d⟩ := dp_tup q
  rw [dpa_ints d] at s
  exact ⟨a, e, s⟩
theorem ints_dp {a : Addr} {ns : List Int} (s : h a = some (.lst (ns.map V.int))) : Dq K h (.ref a) (dI ns) := .lst s (ints_dpa ns)
theorem intsT_dp {a : Addr} {ns : List Int} (s : SqT K h a (ns.map V.int)) : Dq K h (.ref a) (dT ns) := .tup s (ints_dpa ns)
theorem dpa_get : ∀ {vs : List V} {ds : List PyData} {j : Nat} {d : PyData}, DqAll K h vs ds → ds[j]? = some d → ∃ v, vs[j]? = some v ∧ Dq K h v d
  | _, _, _, _, .nil, e => by simp at e
  | _, _, 0, d, .cons a b, e => by simp at e; subst e; exact ⟨_, rfl, a⟩
  | _, _, j + 1, d, .cons a b, e => by
    obtain ⟨v, h1, h2⟩ := dpa_get (j := j) b (by simpa using e)
    exact ⟨v, by simpa using h1, h2⟩
theorem dpa_get' : ∀ {vs : List V} {ds : List PyData} {j : Nat} {v : V}, DqAll K h vs ds → vs[j]? = some v → ∃ d, ds[j]? = some d ∧ Dq K h v d
  | _, _, _, _, .nil, e => by simp at e
  | _, _, 0, v, .cons a b, e => by simp at e; subst e; exact ⟨_, rfl, a⟩
  | _, _, j + 1, v, .cons a b, e => by
    obtain ⟨d, h1, h2⟩ := dpa_get' (j := j) b (by simpa using e)
    exact ⟨d, by simpa using h1, h2⟩
theorem dpa_app : ∀ {vs us : List V} {ds es : List PyData}, DqAll K h vs ds → DqAll K h us es → DqAll K h (vs ++ us) (ds ++ es)
  | _, _, _, _, .nil, b => b
  | _, _, _, _, .cons a r, b => .cons a (dpa_app r b)
theorem dpa_drop : ∀ {vs : List V} {ds : List PyData} (n : Nat), DqAll K h vs ds → DqAll K h (vs.drop n) (ds.drop n)
  | _, _, 0, r => r
  | _, _, _ + 1, .nil => .nil
  | _, _, n + 1, .cons _ r => dpa_drop n r
theorem dpa_take : ∀ {vs : List V} {ds : List PyData} (n : Nat), DqAll K h vs ds → DqAll K h (vs.take n) (ds.take n)
  | _, _, 0, _ => .nil
  | _, _, _ + 1, .nil => .nil
  | _, _, n + 1, .cons a r => .cons a (dpa_take n r)
end
theorem atI_map {α β : Type} {f : α → β} {xs : List α} {i : Int} {x : α} (e : atI xs i = some x) : atI (xs.map f) i = some (f x) := by
  unfold atI at e ⊢
  rw [List.length_map]
  cases q : ixN xs.length i with
  | none => rw [q] at e; cases e
  | some j =>
    rw [q] at e
    have e' : xs[j]? = some x := e
    show (xs.map f)[j]? = some (f x)
    rw [List.getElem?_map, e']; rfl
theorem dpa_atI {K : PySem.W.Frag} {h : Hp} {vs : List V} {ds : List PyData} {i : Int} {d : PyData} (q : DqAll K h vs ds) (e : atI ds i = some d) : ∃ v, atI vs i = some v ∧ Dq K h v d := by
  unfold atI at e ⊢
  rw [dpa_len q]
  cases z : ixN ds.length i with
  | none => rw [z] at e; cases e
  | some j =>
    rw [z] at e
    have e' : ds[j]? = some d := e
    exact dpa_get q e'

/-! ### the frame's slots -/
abbrev Ctx := List (Option Pr)
structure En (Γ : Ctx) (σ : St) (h : Hp) : Prop where
  len : σ.length = Γ.length
  at_ : ∀ (i : Nat) (P : Pr), Γ[i]? = some (some P) → ∃ v, σ[i]? = some (some v) ∧ P.p v h
theorem En.mono {Γ : Ctx} {σ : St} {h h' : Hp} (x : En Γ σ h) (e : Ex h h') : En Γ σ h' := ⟨x.len, fun i P q => let ⟨v, a, b⟩ := x.at_ i P q; ⟨v, a, P.mono e b⟩⟩
theorem En.set {Γ : Ctx} {σ : St} {h : Hp} {P : Pr} {v : V} (x : En Γ σ h) (i : Nat) (q : P.p v h) : En (Γ.set i (some P)) (σ.set i (some v)) h := by
  refine ⟨by rw [List.length_set, List.length_set]; exact x.len, fun j R e => ?_⟩
  by_cases c : i = j
  · subst c
    have hl : i < Γ.length := by
      have := (List.getElem?_eq_some_iff.mp e).1
      rw [List.length_set] at this; exact this
    rw [List.getElem?_set_self hl] at e
    have e' : P = R := Option.some.inj (Option.some.inj e)
    subst e'
    exact ⟨v, List.getElem?_set_self (by rw [x.len]; exact hl), q⟩
  · rw [List.getElem?_set_ne c] at e
    obtain ⟨u, a, b⟩ := x.at_ j R e
    exact ⟨u, by rw [List.getElem?_set_ne c]; exact a, b⟩
theorem En.wipe {Γ : Ctx} {σ : St} {h : Hp} (x : En Γ σ h) (i : Nat) : En (Γ.set i none) (σ.set i none) h := by
  refine ⟨by rw [List.length_set, List.length_set]; exact x.len, fun j R e => ?_⟩
  by_cases c : i = j
  · subst c
    have hl : i < Γ.length := by
      have := (List.getElem?_eq_some_iff.mp e).1
      rw [List.length_set] at this; exact this
    rw [List.getElem?_set_self hl] at e
    cases e
  · rw [List.getElem?_set_ne c] at e
    obtain ⟨u, a, b⟩ := x.at_ j R e
    exact ⟨u, by rw [List.getElem?_set_ne c]; exact a, b⟩
theorem En.set_open {Γ : Ctx} {σ : St} {h : Hp} {P : Pr} {v : V} (x : En Γ σ h) (i : Nat) (hl : i < Γ.length) (q : P.p v h) (e : σ[i]? = some (some v)) : En (Γ.set i (some P)) σ h := by
  have y := x.set i q
  have z : σ.set i (some v) = σ := by
    apply List.ext_getElem?
    intro j
    by_cases c : i = j
    · subst c
      rw [List.getElem?_set_self (by rw [x.len]; exact hl), e]
    · rw [List.getElem?_set_ne c]
  rw [z] at y
  exact y

/-! ### expressions -/
def T (Γ : Ctx) (te : TE) (P : Pr) : Prop := ∀ (σ : St) (h H : Hp), En Γ σ h → Ex h H → ∀ Q : VK, (∀ v h' H', Stp h H h' H' → P.p v h' → Q v H') → te σ H Q
/-- a test whose answer c is as φ says -/
def TB (Γ : Ctx) (tt : TT) (φ : Bool → Prop) : Prop := ∀ (σ : St) (h H : Hp), En Γ σ h → Ex h H → ∀ Q : Bool → Hp → Prop, (∀ c h' H', Stp h H h' H' → φ c → Q c H') → tt σ H Q
/-- arguments -/
inductive Vs : List Pr → List V → Hp → Prop
  | nil {h : Hp} : Vs [] [] h
  | cons {P : Pr} {Ps : List Pr} {v : V} {vs : List V} {h : Hp} : P.p v h → Vs Ps vs h → Vs (P :: Ps) (v :: vs) h
theorem Vs.mono {h h' : Hp} (e : Ex h h') : ∀ {Ps : List Pr} {vs : List V}, Vs Ps vs h → Vs Ps vs h'
  | _, _, .nil => .nil
  | _, _, .cons (P := P) a b => .cons (P.mono e a) (b.mono e)
theorem Vs.len {h : Hp} : ∀ {Ps : List Pr} {vs : List V}, Vs Ps vs h → vs.length = Ps.length
  | _, _, .nil => rfl
  | _, _, .cons _ b => by rw [List.length_cons, List.length_cons, b.len]
theorem Vs.app {h : Hp} {P : Pr} {v : V} (q : P.p v h) : ∀ {Ps : List Pr} {vs : List V}, Vs Ps vs h → Vs (Ps ++ [P]) (vs ++ [v]) h
  | _, _, .nil => .cons q .nil
  | _, _, .cons a b => .cons a (Vs.app q b)
def TAs (Γ : Ctx) (ta : TA) (Ps : List Pr) : Prop := ∀ (σ : St) (h H : Hp), En Γ σ h → Ex h H → ∀ Q : List V → Hp → Prop, (∀ vs h' H', Stp h H h' H' → Vs Ps vs h' → Q vs H') → ta σ H Q
def OpP (r : R2) (A C : Pr) (P : Pr) : Prop := ∀ (x y : V) (h H : Hp), A.p x h → C.p y h → Ex h H → ∀ Q : VK, (∀ v h' H', Stp h H h' H' → P.p v h' → Q v H') → r x y H Q
def UnP (r : V → Hp → VK → Prop) (A : Pr) (P : Pr) : Prop := ∀ (x : V) (h H : Hp), A.p x h → Ex h H → ∀ Q : VK, (∀ v h' H', Stp h H h' H' → P.p v h' → Q v H') → r x H Q
def FnP (r : List V → Hp → VK → Prop) (As : List Pr) (P : Pr) : Prop := ∀ (vs : List V) (h H : Hp), Vs As vs h → Ex h H → ∀ Q : VK, (∀ v h' H', Stp h H h' H' → P.p v h' → Q v H') → r vs H Q
section
variable {K : PySem.W.Frag} {Γ : Ctx} {te ta tb tc : TE} {t u : TT} {P A C R : Pr} {r : R2} {As : List Pr} {tr : TA}
theorem t_var {i : Nat} (q : Γ[i]? = some (some P)) : T Γ (tVar i) P := fun σ h H x e Q k =>
  let ⟨v, a, b⟩ := x.at_ i P q; ⟨v, a, k v h H (Stp.refl e) b⟩
theorem t_c {v : V} (q : ∀ h, P.p v h) : T Γ (tC v) P := fun σ h H x e Q k => k v h H (Stp.refl e) (q h)
theorem t_int {i : Int} : T Γ (tC (.int i)) (I K i) := t_c fun _ => .int i
theorem t_bl {b : Bool} : T Γ (tC (.bl b)) (B K b) := t_c fun _ => .bl b
theorem t_non : T Γ (tC .non) (D K .none) := t_c fun _ => .non
theorem t_str {s : Str} : T Γ (tC (.str s)) (D K (.str s)) := t_c fun _ => .str s
theorem t_weak (a : T Γ te P) (w : ∀ v h, P.p v h → R.p v h) : T Γ te R := fun σ h H x e Q k => a σ h H x e Q fun v h' H' s q => k v h' H' s (w v h' q)
theorem t_some {α : Sort _} {f : α → Pr} (a : α) (q : T Γ te (f a)) : T Γ te (Pr.some f) := t_weak q fun _ _ z => ⟨a, z⟩
theorem t_and {c : Prop} (hc : c) (q : T Γ te P) : T Γ te (Pr.and c P) := t_weak q fun _ _ z => ⟨hc, z⟩
theorem t_eqI {i j : Int} (q : T Γ te (I K i)) (e : i = j) : T Γ te (I K j) := e ▸ q
theorem t_op (a : T Γ ta A) (b : T Γ tb C) (o : OpP r A C P) : T Γ (tOp r ta tb) P := fun σ h H x e Q k =>
  a σ h H x e _ fun v h1 H1 s1 q1 => b σ h1 H1 (x.mono s1.s) s1.i _ fun y h2 H2 s2 q2 => o v y h2 H2 (A.mono s2.s q1) q2 s2.i Q fun z h3 H3 s3 q3 => k z h3 H3 ((s1.trans s2).trans s3) q3
theorem t_un {r : V → Hp → VK → Prop} (a : T Γ ta A) (o : UnP r A P) : T Γ (tUn r ta) P := fun σ h H x e Q k =>
  a σ h H x e _ fun v h1 H1 s1 q1 => o v h1 H1 q1 s1.i Q fun z h2 H2 s2 q2 => k z h2 H2 (s1.trans s2) q2
theorem ta_nil : TAs Γ tNil [] := fun σ h H x e Q k => k [] h H (Stp.refl e) .nil
theorem ta_cons (a : T Γ ta A) (b : TAs Γ tr As) : TAs Γ (tCons ta tr) (A :: As) := fun σ h H x e Q k =>
  a σ h H x e _ fun v h1 H1 s1 q1 => b σ h1 H1 (x.mono s1.s) s1.i _ fun vs h2 H2 s2 q2 => k _ h2 H2 (s1.trans s2) (.cons (A.mono s2.s q1) q2)
theorem t_cb {r : List V → Hp → VK → Prop} (a : TAs Γ tr As) (o : FnP r As P) : T Γ (tCB r tr) P := fun σ h H x e Q k =>
  a σ h H x e _ fun vs h1 H1 s1 q1 => o vs h1 H1 q1 s1.i Q fun z h2 H2 s2 q2 => k z h2 H2 (s1.trans s2) q2
theorem opp_someL {α : Sort _} {f : α → Pr} (q : ∀ a, OpP r (f a) C P) : OpP r (Pr.some f) C P := fun x y h H ⟨a, z⟩ => q a x y h H z
theorem opp_someR {α : Sort _} {f : α → Pr} (q : ∀ a, OpP r A (f a) P) : OpP r A (Pr.some f) P := fun x y h H z1 ⟨a, z⟩ => q a x y h H z1 z
theorem opp_andL {c : Prop} (q : c → OpP r A C P) : OpP r (Pr.and c A) C P := fun x y h H ⟨a, z⟩ => q a x y h H z
theorem opp_andR {c : Prop} (q : c → OpP r A C P) : OpP r A (Pr.and c C) P := fun x y h H z1 ⟨a, z⟩ => q a x y h H z1 z
theorem opp_to {P' : Pr} (q : OpP r A C P) (w : ∀ v h, P.p v h → P'.p v h) : OpP r A C P' := fun x y h H a c e Q k => q x y h H a c e Q fun v h' H' s z => k v h' H' s (w v h' z)
theorem opp_I {g : Int → Int → Int} {i j : Int} : OpP (rI0 fun i j => .int (g i j)) (I K i) (I K j) (I K (g i j)) := fun x y h H a c e Q k => ⟨i, j, dp_int a, dp_int c, k _ h H (Stp.refl e) (.int _)⟩
theorem opp_B {g : Int → Int → Bool} {i j : Int} : OpP (rI0 fun i j => .bl (g i j)) (I K i) (I K j) (B K (g i j)) := fun x y h H a c e Q k => ⟨i, j, dp_int a, dp_int c, k _ h H (Stp.refl e) (.bl _)⟩
theorem opp_IC {c : Int → Int → Prop} {g : Int → Int → Int} {i j : Int} (q : c i j) : OpP (rI c fun i j => .int (g i j)) (I K i) (I K j) (I K (g i j)) := fun x y h H a z e Q k => ⟨i, j, dp_int a, dp_int z, q, k _ h H (Stp.refl e) (.int _)⟩
theorem unp_neg {i : Int} : UnP (rU fun i => .int (-i)) (I K i) (I K (-i)) := fun x h H a e Q k => ⟨i, dp_int a, k _ h H (Stp.refl e) (.int _)⟩
/-- xs[i] -/
theorem opp_ixL {ds : List PyData} {i : Int} {d : PyData} (q : atI ds i = some d) : OpP (rIxL K) (D K (.list ds)) (I K i) (D K d) := fun x y h H a c e Q k => by
  obtain ⟨p, xs, ex, s, z⟩ := dp_lst a
  obtain ⟨v, hv, dv⟩ := dpa_atI z q
  exact ⟨p, xs, i, v, ex, dp_int c, .inl (.inl (e _ _ s)), hv, k v h H (Stp.refl e) dv⟩
theorem opp_ixT {ds : List PyData} {i : Int} {d : PyData} (q : atI ds i = some d) : OpP (rIxT K) (D K (.tuple ds)) (I K i) (D K d) := fun x y h H a c e Q k => by
  obtain ⟨p, xs, ex, s, z⟩ := dp_tup a
  obtain ⟨v, hv, dv⟩ := dpa_atI z q
  exact ⟨p, xs, i, v, ex, dp_int c, sqT_ex e s, hv, k v h H (Stp.refl e) dv⟩
theorem opp_ixLI {ns : List Int} {i z : Int} (q : atI ns i = some z) : OpP (rIxL K) (D K (dI ns)) (I K i) (I K z) := opp_ixL (atI_map q)
theorem opp_ixTI {ns : List Int} {i z : Int} (q : atI ns i = some z) : OpP (rIxT K) (D K (dT ns)) (I K i) (I K z) := opp_ixT (atI_map q)
/-- == and != of data -/
theorem opp_eq {d e : PyData} (hd : SeqAt.shaped d = true) (he : SeqAt.shaped e = true) : OpP (rEqD K) (D K d) (D K e) (B K (PyData.eqv d e)) := fun x y h H a c z Q k =>
  ⟨d, e, dq_dp (dp_ex z a), dq_dp (dp_ex z c), hd, he, k _ h H (Stp.refl z) (.bl _)⟩
theorem opp_ne {d e : PyData} (hd : SeqAt.shaped d = true) (he : SeqAt.shaped e = true) : OpP (rNeD K) (D K d) (D K e) (B K (!PyData.eqv d e)) := fun x y h H a c z Q k =>
  ⟨d, e, dq_dp (dp_ex z a), dq_dp (dp_ex z c), hd, he, k _ h H (Stp.refl z) (.bl _)⟩
theorem opp_eqI {i j : Int} : OpP rEq (I K i) (I K j) (B K (decide (i = j))) := fun x y h H a c z Q k => by
  rw [dp_int a, dp_int c]
  refine ⟨rfl, ?_⟩
  have q := k (.bl (decide (i = j))) h H (Stp.refl z) (.bl _)
  rw [L2.dec_int]
  exact q
theorem opp_neI {i j : Int} : OpP rNe (I K i) (I K j) (B K (!decide (i = j))) := fun x y h H a c z Q k => by
  rw [dp_int a, dp_int c]
  refine ⟨rfl, ?_⟩
  have q := k (.bl (!decide (i = j))) h H (Stp.refl z) (.bl _)
  rw [L2.dec_int]
  exact q

/-! ### tests -/
theorem tb_val {b : Bool} (a : T Γ te (B K b)) : TB Γ (tB te) (fun c => c = b) := fun σ h H x e Q k => a σ h H x e _ fun v h' H' s q => ⟨b, dp_bl q, k b h' H' s rfl⟩
theorem tb_some {b : Bool} {φ : Bool → Prop} (a : T Γ te (Pr.some fun b => Pr.and (φ b) (B K b))) : TB Γ (tB te) φ := fun σ h H x e Q k => a σ h H x e _ fun v h' H' s ⟨b, f, q⟩ => ⟨b, dp_bl q, k b h' H' s f⟩
theorem tb_test {b : Bool} (a : T Γ te (B K b)) : TB Γ (tTest te) (fun c => c = b) := fun σ h H x e Q k => a σ h H x e _ fun v h' H' s q => ⟨b, dp_bl q, k b h' H' s rfl⟩
theorem tb_weak {φ ψ : Bool → Prop} (a : TB Γ t φ) (w : ∀ c, φ c → ψ c) : TB Γ t ψ := fun σ h H x e Q k => a σ h H x e Q fun c h' H' s q => k c h' H' s (w c q)
theorem tb_not {b : Bool} (a : TB Γ t (fun c => c = b)) : TB Γ (tNot t) (fun c => c = !b) := fun σ h H x e Q k => a σ h H x e _ fun c h' H' s q => by subst q; exact k _ h' H' s rfl
theorem tb_and {a b : Bool} (x : TB Γ t (fun c => c = a)) (y : a = true → TB Γ u (fun c => c = b)) : TB Γ (tAnd t u) (fun c => c = (a && b)) := fun σ h H n e Q k => x σ h H n e _ fun c h1 H1 s1 q => by
  subst q
  cases c with
  | true => exact y rfl σ h1 H1 (n.mono s1.s) s1.i Q fun c h2 H2 s2 q => k c h2 H2 (s1.trans s2) (by subst q; rfl)
  | false => exact k false h1 H1 s1 rfl
theorem tb_or {a b : Bool} (x : TB Γ t (fun c => c = a)) (y : a = false → TB Γ u (fun c => c = b)) : TB Γ (tOr t u) (fun c => c = (a || b)) := fun σ h H n e Q k => x σ h H n e _ fun c h1 H1 s1 q => by
  subst q
  cases c with
  | true => exact k true h1 H1 s1 rfl
  | false => exact y rfl σ h1 H1 (n.mono s1.s) s1.i Q fun c h2 H2 s2 q => k c h2 H2 (s1.trans s2) (by subst q; rfl)
theorem t_andV {a b : Bool} (x : T Γ ta (B K a)) (y : a = true → T Γ tb (B K b)) : T Γ (tAndV ta tb) (B K (a && b)) := fun σ h H n e Q k => x σ h H n e _ fun v h1 H1 s1 q => ⟨a, dp_bl q, by
  cases a with
  | true => exact y rfl σ h1 H1 (n.mono s1.s) s1.i Q fun c h2 H2 s2 q => k c h2 H2 (s1.trans s2) q
  | false => exact k _ h1 H1 s1 (.bl _)⟩
theorem t_orV {a b : Bool} (x : T Γ ta (B K a)) (y : a = false → T Γ tb (B K b)) : T Γ (tOrV ta tb) (B K (a || b)) := fun σ h H n e Q k => x σ h H n e _ fun v h1 H1 s1 q => ⟨a, dp_bl q, by
  cases a with
  | true => exact k _ h1 H1 s1 (.bl _)
  | false => exact y rfl σ h1 H1 (n.mono s1.s) s1.i Q fun c h2 H2 s2 q => k c h2 H2 (s1.trans s2) q⟩
theorem t_notV {a : Bool} (x : T Γ ta (B K a)) : T Γ (tNotV ta) (B K (!a)) := fun σ h H n e Q k => x σ h H n e _ fun v h1 H1 s1 q => ⟨a, dp_bl q, k _ h1 H1 s1 (.bl _)⟩
theorem t_if {φ : Bool → Prop} (x : TB Γ t φ) (y : φ true → T Γ ta P) (z : φ false → T Γ tb P) : T Γ (tIf t ta tb) P := fun σ h H n e Q k => x σ h H n e _ fun c h1 H1 s1 q => by
  cases c with
  | true => exact y q σ h1 H1 (n.mono s1.s) s1.i Q fun c h2 H2 s2 q => k c h2 H2 (s1.trans s2) q
  | false => exact z q σ h1 H1 (n.mono s1.s) s1.i Q fun c h2 H2 s2 q => k c h2 H2 (s1.trans s2) q
theorem t_eqB {a b : Bool} (q : T Γ te (B K a)) (e : a = b) : T Γ te (B K b) := e ▸ q
theorem t_eqD {a b : PyData} (q : T Γ te (D K a)) (e : a = b) : T Γ te (D K b) := e ▸ q

/-! ### made lists and tuples -/
theorem vs_dpa : ∀ {ds : List PyData} {vs : List V} {h : Hp}, Vs (ds.map (D K)) vs h → DqAll K h vs ds
  | [], _, _, .nil => .nil
  | _ :: _, _, _, .cons a b => .cons a (vs_dpa b)
theorem t_lst {ds : List PyData} (a : TAs Γ tr (ds.map (D K))) (hz : ds.length ≤ 100000) : T Γ (tLst tr) (D K (.list ds)) := fun σ h H x e Q k => a σ h H x e _ fun vs h1 H1 s1 q =>
  ⟨by rw [q.len, List.length_map]; exact Evl.sz_of hz, fun p np => k _ (upd h1 p (.lst vs)) _ (s1.trans (Stp.new s1.i np)) (.lst upd_same (vs_dpa (q.mono (Stp.new (o := .lst vs) s1.i np).s)))⟩
theorem t_tup {ds : List PyData} (a : TAs Γ tr (ds.map (D K))) (hz : ds.length ≤ 100000) : T Γ (tTup tr) (D K (.tuple ds)) := fun σ h H x e Q k => a σ h H x e _ fun vs h1 H1 s1 q =>
  ⟨by rw [q.len, List.length_map]; exact Evl.sz_of hz, fun p np => k _ (upd h1 p (.tup vs)) _ (s1.trans (Stp.new s1.i np)) (.tup (.inl (.inl upd_same)) (vs_dpa (q.mono (Stp.new (o := .tup vs) s1.i np).s)))⟩
/-- a list of anything -/
def L (K : PySem.W.Frag) (Ps : List Pr) : Pr := ⟨fun v h => ∃ a vs, v = .ref a ∧ h a = some (.lst vs) ∧ Vs Ps vs h, fun e ⟨a, vs, x, s, q⟩ => ⟨a, vs, x, e _ _ s, q.mono e⟩⟩
def U (K : PySem.W.Frag) (Ps : List Pr) : Pr := ⟨fun v h => ∃ a vs, v = .ref a ∧ SqT K h a vs ∧ Vs Ps vs h, fun e ⟨a, vs, x, s, q⟩ => ⟨a, vs, x, sqT_ex e s, q.mono e⟩⟩
theorem t_lstP {Ps : List Pr} (a : TAs Γ tr Ps) (hz : Ps.length ≤ 100000) : T Γ (tLst tr) (L K Ps) := fun σ h H x e Q k => a σ h H x e _ fun vs h1 H1 s1 q =>
  ⟨by rw [q.len]; exact Evl.sz_of hz, fun p np => k _ (upd h1 p (.lst vs)) _ (s1.trans (Stp.new s1.i np)) ⟨p, vs, rfl, upd_same, q.mono (Stp.new (o := .lst vs) s1.i np).s⟩⟩
theorem t_tupP {Ps : List Pr} (a : TAs Γ tr Ps) (hz : Ps.length ≤ 100000) : T Γ (tTup tr) (U K Ps) := fun σ h H x e Q k => a σ h H x e _ fun vs h1 H1 s1 q =>
  ⟨by rw [q.len]; exact Evl.sz_of hz, fun p np => k _ (upd h1 p (.tup vs)) _ (s1.trans (Stp.new s1.i np)) ⟨p, vs, rfl, .inl (.inl upd_same), q.mono (Stp.new (o := .tup vs) s1.i np).s⟩⟩
theorem vs_get : ∀ {Ps : List Pr} {vs : List V} {h : Hp} {j : Nat} {P : Pr}, Vs Ps vs h → Ps[j]? = some P → ∃ v, vs[j]? = some v ∧ P.p v h
  | _, _, _, _, _, .nil, e => by simp at e
  | _, _, _, 0, _, .cons a b, e => by simp at e; subst e; exact ⟨_, rfl, a⟩
  | _, _, _, j + 1, _, .cons a b, e => by
    obtain ⟨v, h1, h2⟩ := vs_get (j := j) b (by simpa using e)
    exact ⟨v, by simpa using h1, h2⟩
theorem vs_atI {Ps : List Pr} {vs : List V} {h : Hp} {i : Int} {P : Pr} (q : Vs Ps vs h) (e : atI Ps i = some P) : ∃ v, atI vs i = some v ∧ P.p v h := by
  unfold atI at e ⊢
  rw [q.len]
  cases z : ixN Ps.length i with
  | none => rw [z] at e; cases e
  | some j =>
    rw [z] at e
    have e' : Ps[j]? = some P := e
    exact vs_get q e'
theorem opp_ixLP {Ps : List Pr} {i : Int} (q : atI Ps i = some P) : OpP (rIxL K) (L K Ps) (I K i) P := fun x y h H a c e Q k => by
  obtain ⟨p, xs, ex, s, z⟩ := a
  obtain ⟨v, hv, dv⟩ := vs_atI z q
  exact ⟨p, xs, i, v, ex, dp_int c, .inl (.inl (e _ _ s)), hv, k v h H (Stp.refl e) dv⟩
theorem opp_ixTP {Ps : List Pr} {i : Int} (q : atI Ps i = some P) : OpP (rIxT K) (U K Ps) (I K i) P := fun x y h H a c e Q k => by
  obtain ⟨p, xs, ex, s, z⟩ := a
  obtain ⟨v, hv, dv⟩ := vs_atI z q
  exact ⟨p, xs, i, v, ex, dp_int c, sqT_ex e s, hv, k v h H (Stp.refl e) dv⟩
end

/-! ### promises -/
/-- for arguments as a says, from a part h of the heap: the answer is as res says, in a part that grew by new things alone -/
def Sv {α : Type _} (args : α → List Pr) (pre : α → Prop) (res : α → Pr) : Sp := fun vs H Q _ => ∃ (a : α) (h : Hp), Ex h H ∧ Vs (args a) vs h ∧ pre a ∧ ∀ v h' H', Stp h H h' H' → (res a).p v h' → Q v H'
theorem Sv.len {α : Type _} {args : α → List Pr} {pre : α → Prop} {res : α → Pr} {n : Nat} (hn : ∀ a, (args a).length = n) : ∀ vs H Q E, Sv args pre res vs H Q E → vs.length = n := fun vs H Q E ⟨a, h, _, q, _⟩ => by rw [q.len, hn]
theorem t_call {α : Type _} {Γ : Ctx} {args : α → List Pr} {pre : α → Prop} {res : α → Pr} {E : XK} {tr : TA} (a : α) (x : TAs Γ tr (args a)) (p : pre a) : T Γ (tCall (Sv args pre res) [] E tr) (res a) := fun σ h H n e Q k =>
  x σ h H n e _ fun vs h1 H1 s1 q => ⟨a, h1, s1.i, by rw [List.append_nil]; exact q, p, fun v h2 H2 s2 z => k v h2 H2 (s1.trans s2) z⟩

/-! ### statements -/
/-- a mutable object's content -/
structure Ct where
  p : HO → Hp → Prop
  mono : ∀ {o : HO} {h h' : Hp}, Ex h h' → p o h → p o h'
def Ct.lst (Ps : List Pr) : Ct := ⟨fun o h => ∃ vs, o = .lst vs ∧ Vs Ps vs h, fun e ⟨vs, x, q⟩ => ⟨vs, x, q.mono e⟩⟩
def Ct.dict (kvs : List (Key × V)) : Ct := ⟨fun o _ => o = .dK kvs, fun _ q => q⟩
abbrev Mo := Option (Nat × Ct)
/-- where we stand: the start (h0, H0), and a part that is known -/
structure Bs where
  h0 : Hp
  H0 : Hp
  hb : Hp
structure Bs.Ok (b : Bs) (h H : Hp) : Prop where
  st : Stp b.h0 b.H0 h H
  kn : Ex b.hb h
theorem Bs.Ok.go {b : Bs} {h H h' H' : Hp} (x : b.Ok h H) (s : Stp h H h' H') : b.Ok h' H' := ⟨x.st.trans s, fun a o q => s.s a o (x.kn a o q)⟩
structure Mu1 (b : Bs) (i : Nat) (C : Ct) (σ : St) (h H : Hp) (l : Addr) (o : HO) : Prop where
  at_ : σ[i]? = some (some (.ref l))
  nh : h l = none
  n0 : b.H0 l = none
  oH : H l = some o
  ct : C.p o h
def Mu (b : Bs) : Mo → St → Hp → Hp → Prop
  | none, _, _, _ => True
  | some (i, C), σ, h, H => ∃ l o, Mu1 b i C σ h H l o
theorem Mu.go {b : Bs} {μ : Mo} {σ : St} {h H h' H' : Hp} (m : Mu b μ σ h H) (s : Stp h H h' H') : Mu b μ σ h' H' := by
  cases μ with
  | none => trivial
  | some p =>
    obtain ⟨l, o, m⟩ := m
    exact ⟨l, o, m.at_, s.f l o m.oH m.nh, m.n0, s.e l o m.oH, p.2.mono s.s m.ct⟩
def mok (μ : Mo) (j : Nat) : Bool := match μ with | none => true | some (i, _) => i != j
theorem Mu.set {b : Bs} {μ : Mo} {σ : St} {h H : Hp} {j : Nat} {v : Option V} (m : Mu b μ σ h H) (k : mok μ j = true) : Mu b μ (σ.set j v) h H := by
  cases μ with
  | none => trivial
  | some p =>
    obtain ⟨l, o, m⟩ := m
    have c : j ≠ p.1 := fun e => by
      subst e
      have z : (p.1 != p.1) = true := k
      simp at z
    exact ⟨l, o, by rw [List.getElem?_set_ne c]; exact m.at_, m.nh, m.n0, m.oH, m.ct⟩
/-- f holds wherever the slots are as Γ says, the one mutable thing as μ says -/
def Nx (b : Bs) (Γ : Ctx) (μ : Mo) (f : St → Hp → Prop) : Prop := ∀ (σ : St) (h H : Hp), En Γ σ h → b.Ok h H → Mu b μ σ h H → f σ H
/-- a fact that does not hang on the heap -/
def Flat (P : Pr) : Prop := ∀ v h h', P.p v h → P.p v h'
theorem flat_int {K : PySem.W.Frag} {i : Int} : Flat (I K i) := fun v h h' q => by rw [dp_int q]; exact .int i
theorem flat_bl {K : PySem.W.Frag} {i : Bool} : Flat (B K i) := fun v h h' q => by rw [dp_bl q]; exact .bl i
theorem flat_some {α : Sort _} {f : α → Pr} (q : ∀ a, Flat (f a)) : Flat (Pr.some f) := fun v h h' ⟨a, z⟩ => ⟨a, q a v h h' z⟩
section
variable {K : PySem.W.Frag} {b : Bs} {Γ Γ' : Ctx} {μ : Mo} {te ta tb : TE} {t : TT} {P R : Pr} {Dd : Ends} {tu tw tz : TS} {ff : St → Hp → Prop} {rr : VK} {bb cc : St → Hp → Prop}
theorem n_asg {i : Nat} (a : T Γ te P) (k : Nx b (Γ.set i (some P)) μ ff) (hm : mok μ i = true := by rfl) : Nx b Γ μ (tAsg te (gName i) ⟨ff, rr, bb, cc⟩) := fun σ h H x s m => a σ h H x s.st.i _ fun v h1 H1 s1 q => k _ h1 H1 ((x.mono s1.s).set i q) (s.go s1) ((m.go s1).set hm)
theorem q_asg {i : Nat} (a : T Γ te P) (k : Nx b (Γ.set i (some P)) μ (tz Dd)) (hm : mok μ i = true := by rfl) : Nx b Γ μ (tSeq (tAsg te (gName i)) tz Dd) := n_asg a k hm
theorem n_par {i j : Nat} {A C : Pr} (a : TAs Γ (tCons ta (tCons tb tNil)) [A, C]) (k : Nx b ((Γ.set i (some A)).set j (some C)) μ ff) (hm : mok μ i = true := by rfl) (hm2 : mok μ j = true := by rfl) : Nx b Γ μ (tPar i j (tCons ta (tCons tb tNil)) ⟨ff, rr, bb, cc⟩) := fun σ h H x s m => a σ h H x s.st.i _ fun vs h1 H1 s1 q => by
  cases q with
  | cons a1 q =>
    cases q with
    | cons a2 q =>
      cases q
      exact ⟨_, _, rfl, k _ h1 H1 (((x.mono s1.s).set i a1).set j a2) (s.go s1) (((m.go s1).set hm).set hm2)⟩
theorem q_par {i j : Nat} {A C : Pr} (a : TAs Γ (tCons ta (tCons tb tNil)) [A, C]) (k : Nx b ((Γ.set i (some A)).set j (some C)) μ (tz Dd)) (hm : mok μ i = true := by rfl) (hm2 : mok μ j = true := by rfl) : Nx b Γ μ (tSeq (tPar i j (tCons ta (tCons tb tNil))) tz Dd) := n_par a k hm hm2
theorem n_ret (a : T Γ te P) (k : ∀ v h H, Stp b.h0 b.H0 h H → P.p v h → Dd.rt v H) : Nx b Γ μ (tRet te Dd) := fun σ h H x s _ => a σ h H x s.st.i _ fun v h1 H1 s1 q => k v h1 H1 (s.st.trans s1) q
theorem n_if {φ : Bool → Prop} (a : TB Γ t φ) (y : φ true → Nx b Γ μ (tu Dd)) (z : φ false → Nx b Γ μ (tw Dd)) : Nx b Γ μ (tIfS t tu tw Dd) := fun σ h H x s m => a σ h H x s.st.i _ fun c h1 H1 s1 q => by
  cases c with
  | true => exact y q σ h1 H1 (x.mono s1.s) (s.go s1) (m.go s1)
  | false => exact z q σ h1 H1 (x.mono s1.s) (s.go s1) (m.go s1)
theorem q_if {φ : Bool → Prop} (a : TB Γ t φ) (y : φ true → Nx b Γ μ (tu { Dd with nx := tz Dd })) (z : φ false → Nx b Γ μ (tw { Dd with nx := tz Dd })) : Nx b Γ μ (tSeq (tIfS t tu tw) tz Dd) := n_if (Dd := { Dd with nx := tz Dd }) a y z
theorem n_next (k : Nx b Γ μ ff) : Nx b Γ μ (tNext ⟨ff, rr, bb, cc⟩) := k
theorem n_drop (a : T Γ te P) (k : Nx b Γ μ ff) : Nx b Γ μ (tDrop te ⟨ff, rr, bb, cc⟩) := fun σ h H x s m => a σ h H x s.st.i _ fun v h1 H1 s1 q => k _ h1 H1 (x.mono s1.s) (s.go s1) (m.go s1)
theorem q_drop (a : T Γ te P) (k : Nx b Γ μ (tz Dd)) : Nx b Γ μ (tSeq (tDrop te) tz Dd) := n_drop a k
/-- name op= e, ints -/
theorem n_aug {i : Nat} {f : Int → Int → Int} {a c : Int} (hx : Γ[i]? = some (some (I K a))) (e : T Γ te (I K c)) (k : Nx b (Γ.set i (some (I K (f a c)))) μ ff) (hm : mok μ i = true := by rfl) : Nx b Γ μ (tAug i te (ipI f) ⟨ff, rr, bb, cc⟩) := fun σ h H x s m => by
  obtain ⟨v, e1, e2⟩ := x.at_ i _ hx
  rw [dp_int e2] at e1
  exact ⟨_, e1, e σ h H x s.st.i _ fun v h1 H1 s1 q => ⟨a, c, rfl, dp_int q, k _ h1 H1 ((x.mono s1.s).set i (.int _)) (s.go s1) ((m.go s1).set hm)⟩⟩
/-- what is there is opened -/
theorem n_open {α : Sort _} {f : α → Pr} {F : St → Hp → Prop} (i : Nat) (k : ∀ a, Nx b (Γ.set i (some (f a))) μ F) (hi : Γ[i]? = some (some (Pr.some f)) := by rfl) : Nx b Γ μ F := fun σ h H x s m => by
  obtain ⟨v, e, a, q⟩ := x.at_ i _ hi
  exact k a σ h H (x.set_open i (List.getElem?_eq_some_iff.mp hi).1 q e) s m
theorem n_openA {c : Prop} {F : St → Hp → Prop} (i : Nat) (k : c → Nx b (Γ.set i (some P)) μ F) (hi : Γ[i]? = some (some (Pr.and c P)) := by rfl) : Nx b Γ μ F := fun σ h H x s m => by
  obtain ⟨v, e, a, q⟩ := x.at_ i _ hi
  exact k a σ h H (x.set_open i (List.getElem?_eq_some_iff.mp hi).1 q e) s m
/-- fewer things known -/
def Le (Γ Γ' : Ctx) : Prop := Γ.length = Γ'.length ∧ ∀ (i : Nat) (P : Pr), Γ'[i]? = some (some P) → ∃ R : Pr, Γ[i]? = some (some R) ∧ ∀ v h, R.p v h → P.p v h
theorem Le.rfl' : Le Γ Γ := ⟨rfl, fun i P q => ⟨P, q, fun _ _ z => z⟩⟩
theorem le_nil : Le [] [] := Le.rfl'
theorem le_skip {o : Option Pr} {Γ Γ' : Ctx} (a : Le Γ Γ') : Le (o :: Γ) (none :: Γ') := by
  refine ⟨by rw [List.length_cons, List.length_cons, a.1], fun i P q => ?_⟩
  cases i with
  | zero => simp at q
  | succ i => simpa using a.2 i P (by simpa using q)
theorem le_same {o : Option Pr} {Γ Γ' : Ctx} (a : Le Γ Γ') : Le (o :: Γ) (o :: Γ') := by
  refine ⟨by rw [List.length_cons, List.length_cons, a.1], fun i P q => ?_⟩
  cases i with
  | zero => exact ⟨P, q, fun _ _ z => z⟩
  | succ i => simpa using a.2 i P (by simpa using q)
theorem le_imp {P R : Pr} {Γ Γ' : Ctx} (w : ∀ v h, R.p v h → P.p v h) (a : Le Γ Γ') : Le (some R :: Γ) (some P :: Γ') := by
  refine ⟨by rw [List.length_cons, List.length_cons, a.1], fun i S q => ?_⟩
  cases i with
  | zero =>
    have e : P = S := by simpa using q
    subst e
    exact ⟨R, rfl, w⟩
  | succ i => simpa using a.2 i S (by simpa using q)
theorem le_eqD {d e : PyData} {Γ Γ' : Ctx} (w : d = e) (a : Le Γ Γ') : Le (some (D K d) :: Γ) (some (D K e) :: Γ') := by
  subst w
  exact le_same a
theorem le_eqI {d e : Int} {Γ Γ' : Ctx} (w : d = e) (a : Le Γ Γ') : Le (some (I K d) :: Γ) (some (I K e) :: Γ') := by
  subst w
  exact le_same a
theorem le_eqB {d e : Bool} {Γ Γ' : Ctx} (w : d = e) (a : Le Γ Γ') : Le (some (B K d) :: Γ) (some (B K e) :: Γ') := by
  subst w
  exact le_same a
theorem En.le {Γ Γ' : Ctx} {σ : St} {h : Hp} (x : En Γ σ h) (l : Le Γ Γ') : En Γ' σ h := ⟨by rw [x.len, l.1], fun i P q => by
  obtain ⟨R, e, w⟩ := l.2 i P q
  obtain ⟨v, a, b⟩ := x.at_ i R e
  exact ⟨v, a, w v h b⟩⟩
theorem n_le {F : St → Hp → Prop} (l : Le Γ Γ') (k : Nx b Γ' μ F) : Nx b Γ μ F := fun σ h H x s m => k σ h H (x.le l) s m

/-! ### one mutable list -/
/-- x = [..], to be changed -/
theorem m_new {i : Nat} {tr : TA} {Ps : List Pr} (a : TAs Γ tr Ps) (hz : Ps.length ≤ 100000) (k : Nx b (Γ.set i none) (some (i, Ct.lst Ps)) ff) (hl : i < Γ.length := by decide) : Nx b Γ none (tAsg (tLst tr) (gName i) ⟨ff, rr, bb, cc⟩) := fun σ h H x s m => a σ h H x s.st.i _ fun vs h1 H1 s1 q => by
  refine ⟨by rw [q.len]; exact Evl.sz_of hz, fun p np => ?_⟩
  have s2 := s.go s1
  have np1 : h1 p = none := by
    cases e : h1 p with
    | none => rfl
    | some o => rw [s1.i p o e] at np; cases np
  have np0 : b.H0 p = none := by
    cases e : b.H0 p with
    | none => rfl
    | some o => rw [s2.st.e p o e] at np; cases np
  have en : En (Γ.set i none) (σ.set i (some (.ref p))) h1 := by
    have y := (x.mono s1.s).wipe i
    refine ⟨by rw [List.length_set, List.length_set]; exact x.len, fun j R e => ?_⟩
    by_cases c : i = j
    · subst c
      rw [List.getElem?_set_self hl] at e
      cases e
    · rw [List.getElem?_set_ne c] at e
      obtain ⟨u, e1, e2⟩ := x.at_ j R e
      exact ⟨u, by rw [List.getElem?_set_ne c]; exact e1, R.mono s1.s e2⟩
  refine k _ h1 _ en ⟨⟨?_, s2.st.s, ?_, s2.st.f⟩, s2.kn⟩ ⟨p, .lst vs, List.getElem?_set_self (by rw [x.len]; exact hl), np1, np0, upd_same, vs, rfl, q⟩
  · intro a o e
    rw [upd_ne (ne_of_none e np0)]
    exact s2.st.e a o e
  · intro a o e
    rw [upd_ne (ne_of_none e np1)]
    exact s2.st.i a o e
theorem qm_new {i : Nat} {tr : TA} {Ps : List Pr} (a : TAs Γ tr Ps) (hz : Ps.length ≤ 100000) (k : Nx b (Γ.set i none) (some (i, Ct.lst Ps)) (tz Dd)) (hl : i < Γ.length := by decide) : Nx b Γ none (tSeq (tAsg (tLst tr) (gName i)) tz Dd) := m_new a hz k hl
/-- x.append(e) -/
theorem m_app {i : Nat} {Ps : List Pr} (a : T Γ te P) (hz : Ps.length < 100000) (k : Nx b Γ (some (i, Ct.lst (Ps ++ [P]))) ff) : Nx b Γ (some (i, Ct.lst Ps)) (tDrop (tBM K "list" rAppend (tVar i) (tCons te tNil)) ⟨ff, rr, bb, cc⟩) := fun σ h H x s m => by
  obtain ⟨l, o, m⟩ := m
  obtain ⟨vs, rfl, hv⟩ := m.ct
  refine ⟨.ref l, m.at_, .inl ⟨rfl, vs, .inl (.inl m.oH)⟩, ?_⟩
  refine a σ h H x s.st.i _ fun v h1 H1 s1 q => ?_
  have m1 := s1.f l _ m.oH m.nh
  refine ⟨l, vs, v, rfl, rfl, s1.e l _ m.oH, Evl.sz_lt (by rw [hv.len]; exact hz), ?_⟩
  have s2 := s.go s1
  refine k σ h1 _ (x.mono s1.s) ⟨⟨?_, s2.st.s, ?_, s2.st.f⟩, s2.kn⟩ ⟨l, _, m.at_, m1, m.n0, upd_same, _, rfl, (hv.mono s1.s).app q⟩
  · intro a o e
    rw [upd_ne (ne_of_none e m.n0)]
    exact s2.st.e a o e
  · intro a o e
    rw [upd_ne (ne_of_none e m1)]
    exact s2.st.i a o e
theorem qm_app {i : Nat} {Ps : List Pr} (a : T Γ te P) (hz : Ps.length < 100000) (k : Nx b Γ (some (i, Ct.lst (Ps ++ [P]))) (tz Dd)) : Nx b Γ (some (i, Ct.lst Ps)) (tSeq (tDrop (tBM K "list" rAppend (tVar i) (tCons te tNil))) tz Dd) := m_app a hz k
/-- it is not changed any more -/
theorem m_freeze {i : Nat} {Ps : List Pr} {F : St → Hp → Prop} (k : Nx b (Γ.set i (some (L K Ps))) none F) (hl : i < Γ.length := by decide) : Nx b Γ (some (i, Ct.lst Ps)) F := fun σ h H x s m => by
  obtain ⟨l, o, m⟩ := m
  obtain ⟨vs, rfl, hv⟩ := m.ct
  have e1 : Ex h (upd h l (.lst vs)) := fun a o e => by rw [upd_ne (ne_of_none e m.nh)]; exact e
  refine k σ (upd h l (.lst vs)) H ((x.mono e1).set_open i hl ⟨l, vs, rfl, upd_same, hv.mono e1⟩ m.at_) ⟨⟨s.st.e, fun a o e => e1 a o (s.st.s a o e), fun a o e => ?_, fun a o e n => ?_⟩, fun a o e => e1 a o (s.kn a o e)⟩ trivial
  · by_cases c : a = l
    · subst c; rw [upd_same] at e; cases e; exact m.oH
    · rw [upd_ne c] at e; exact s.st.i a o e
  · rw [upd_ne (ne_of_none e m.n0)]
    exact s.st.f a o e n
/-- e read while the list is known: a flat answer -/
theorem m_asgV {i j : Nat} {Ps : List Pr} (a : T (Γ.set i (some (L K Ps))) te P) (fl : Flat P) (k : Nx b (Γ.set j (some P)) (some (i, Ct.lst Ps)) ff) (hij : i ≠ j := by decide) (hl : i < Γ.length := by decide) : Nx b Γ (some (i, Ct.lst Ps)) (tAsg te (gName j) ⟨ff, rr, bb, cc⟩) := fun σ h H x s m => by
  obtain ⟨l, o, m⟩ := m
  obtain ⟨vs, rfl, hv⟩ := m.ct
  have e1 : Ex h (upd h l (.lst vs)) := fun a o e => by rw [upd_ne (ne_of_none e m.nh)]; exact e
  have i1 : Ex (upd h l (.lst vs)) H := fun a o e => by
    by_cases c : a = l
    · subst c; rw [upd_same] at e; cases e; exact m.oH
    · rw [upd_ne c] at e; exact s.st.i a o e
  refine a σ (upd h l (.lst vs)) H ((x.mono e1).set_open i hl ⟨l, vs, rfl, upd_same, hv.mono e1⟩ m.at_) i1 _ fun v h1 H1 s1 q => ?_
  -- the known part without the list
  have e2 : Ex h (fun c => if c = l then none else h1 c) := fun a o e => by
    show (if a = l then none else h1 a) = some o
    rw [if_neg (ne_of_none e m.nh)]
    exact s1.s a o (e1 a o e)
  have st : Stp h H (fun c => if c = l then none else h1 c) H1 := by
    refine ⟨s1.e, e2, fun a o e => ?_, fun a o e n => ?_⟩
    · have e' : (if a = l then none else h1 a) = some o := e
      by_cases c : a = l
      · rw [if_pos c] at e'; cases e'
      · rw [if_neg c] at e'; exact s1.i a o e'
    · show (if a = l then none else h1 a) = none
      by_cases c : a = l
      · rw [if_pos c]
      · rw [if_neg c]
        exact s1.f a o e (by rw [upd_ne c]; exact n)
  have q' : P.p v (fun c => if c = l then none else h1 c) := fl v _ _ q
  have mm : Mu b (some (i, Ct.lst Ps)) σ h H := ⟨l, .lst vs, m⟩
  exact k _ _ H1 ((x.mono e2).set j q') (s.go st) ((mm.go st).set (by show (i != j) = true; simp [hij]))
theorem qm_asgV {i j : Nat} {Ps : List Pr} (a : T (Γ.set i (some (L K Ps))) te P) (fl : Flat P) (k : Nx b (Γ.set j (some P)) (some (i, Ct.lst Ps)) (tz Dd)) (hij : i ≠ j := by decide) (hl : i < Γ.length := by decide) : Nx b Γ (some (i, Ct.lst Ps)) (tSeq (tAsg te (gName j)) tz Dd) := m_asgV a fl k hij hl
theorem l_data {ds : List PyData} {v : V} {h : Hp} (q : (L K (ds.map (D K))).p v h) : (D K (.list ds)).p v h := by
  obtain ⟨a, vs, rfl, s, z⟩ := q
  exact .lst s (vs_dpa z)
theorem dpa_vs : ∀ {ds : List PyData} {vs : List V} {h : Hp}, DqAll K h vs ds → Vs (ds.map (D K)) vs h
  | _, _, _, .nil => .nil
  | _, _, _, .cons a b => .cons a (dpa_vs b)
theorem data_l {ds : List PyData} {v : V} {h : Hp} (q : (D K (.list ds)).p v h) : (L K (ds.map (D K))).p v h := by
  obtain ⟨a, vs, rfl, s, z⟩ := dp_lst q
  exact ⟨a, vs, rfl, s, dpa_vs z⟩
theorem data_t {ds : List PyData} {v : V} {h : Hp} (q : (D K (.tuple ds)).p v h) : (U K (ds.map (D K))).p v h := by
  obtain ⟨a, vs, rfl, s, z⟩ := dp_tup q
  exact ⟨a, vs, rfl, s, dpa_vs z⟩

/-! ### loops -/
/-- the invariant: behind i turns there is a g as G says, the slots as Γi i g say, the mutable thing as μi i g says -/
def Pv {γ : Type _} (b : Bs) (G : Nat → γ → Prop) (Γi : Nat → γ → Ctx) (μi : Nat → γ → Mo) (i : Nat) : St → Hp → Prop := fun σ H => ∃ g h, G i g ∧ En (Γi i g) σ h ∧ b.Ok h H ∧ Mu b (μi i g) σ h H
theorem n_pv {γ : Type _} {G : Nat → γ → Prop} {Γi : Nat → γ → Ctx} {μi : Nat → γ → Mo} {i : Nat} (g : γ) (q : G i g) (hm : μ = μi i g) (l : Le Γ (Γi i g)) : Nx b Γ μ (Pv b G Γi μi i) := fun σ h H x s m => ⟨g, h, q, x.le l, s, hm ▸ m⟩
theorem n_forR1 {γ : Type _} {tr : TA} {j : Nat} {n : Int} (G : Nat → γ → Prop) (Γi : Nat → γ → Ctx) (μi : Nat → γ → Mo) (g0 : γ) (a : TAs Γ tr [I K n]) (hn : -1000000 ≤ n ∧ n ≤ 1000000) (q0 : G 0 g0) (l0 : Le Γ (Γi 0 g0))
    (hs : ∀ (i : Nat) (g : γ), (i : Int) < n → G i g → Nx b ((Γi i g).set j (some (I K (i : Int)))) (μi i g) (tu ⟨Pv b G Γi μi (i + 1), rr, ff, Pv b G Γi μi (i + 1)⟩))
    (hd : ∀ g, G n.toNat g → Nx b (Γi n.toNat g) (μi n.toNat g) ff) (hm : μ = μi 0 g0 := by rfl) (hj : ∀ i g, mok (μi i g) j = true := by intros; rfl) : Nx b Γ μ (tFor (iRng1 tr) (gName j) tu ⟨ff, rr, bb, cc⟩) := fun σ h H x s m => a σ h H x s.st.i _ fun vs h1 H1 s1 q => by
  cases q with
  | cons a1 q =>
    cases q
    rw [dp_int a1]
    subst hm
    refine ⟨n, rfl, by omega, by omega, for_range (lo := 0) (n := n.toNat) (Pv b G Γi μi) ⟨g0, h1, q0, (x.mono s1.s).le l0, s.go s1, m.go s1⟩ (fun i σ' H' hi p => ?_) (fun σ' H' p => ?_)⟩
    · have e0 : (0 : Int) + (i : Int) = (i : Int) := Int.zero_add _
      rw [e0]
      obtain ⟨g, h', q, x', s', m'⟩ := p
      exact hs i g (by omega) q _ h' H' (x'.set j (.int _)) s' (m'.set (hj i g))
    · obtain ⟨g, h', q, x', s', m'⟩ := p
      exact hd g q σ' h' H' x' s' m'
/-- what is read as a list of data -/
def IsL (K : PySem.W.Frag) (A : Pr) (ds : List PyData) : Prop := ∀ v h, A.p v h → ∃ a xs, v = .ref a ∧ SqL K h a xs ∧ DqAll K h xs ds
theorem isL_D {ds : List PyData} : IsL K (D K (.list ds)) ds := fun v h q => by
  obtain ⟨a, xs, e, s, z⟩ := dp_lst q
  exact ⟨a, xs, e, .inl (.inl s), z⟩
/-- over a list of data -/
theorem n_forLA {γ : Type _} {A : Pr} {tl : TE} {j : Nat} {ds : List PyData} (G : Nat → γ → Prop) (Γi : Nat → γ → Ctx) (μi : Nat → γ → Mo) (g0 : γ) (hA : IsL K A ds) (a : T Γ tl A) (q0 : G 0 g0) (l0 : Le Γ (Γi 0 g0))
    (hs : ∀ (hb : Hp) (i : Nat) (d : PyData) (g : γ), ds[i]? = some d → G i g → Nx ⟨b.h0, b.H0, hb⟩ ((Γi i g).set j (some (D K d))) (μi i g) (tu ⟨Pv ⟨b.h0, b.H0, hb⟩ G Γi μi (i + 1), rr, ff, Pv ⟨b.h0, b.H0, hb⟩ G Γi μi (i + 1)⟩))
    (hd : ∀ (hb : Hp) g, G ds.length g → Nx ⟨b.h0, b.H0, hb⟩ (Γi ds.length g) (μi ds.length g) ff) (hm : μ = μi 0 g0 := by rfl) (hj : ∀ i g, mok (μi i g) j = true := by intros; rfl) : Nx b Γ μ (tFor (iList K tl) (gName j) tu ⟨ff, rr, bb, cc⟩) := fun σ h H x s m => a σ h H x s.st.i _ fun v h1 H1 s1 q => by
  obtain ⟨p, xs, rfl, sq, dp⟩ := hA _ _ q
  subst hm
  have muI : ∀ {μ : Mo} {σ : St} {h H : Hp}, Mu b μ σ h H → Mu ⟨b.h0, b.H0, h1⟩ μ σ h H := fun {μ σ h H} m => by
    cases μ with
    | none => trivial
    | some p =>
      obtain ⟨l, o, m⟩ := m
      exact ⟨l, o, m.at_, m.nh, m.n0, m.oH, m.ct⟩
  refine ⟨p, rfl, ⟨xs, sqL_ex s1.i sq⟩, for_list (K := K) (a := p) (xs := xs) (Pv ⟨b.h0, b.H0, h1⟩ G Γi μi) ⟨g0, h1, q0, (x.mono s1.s).le l0, ⟨(s.go s1).st, fun _ _ q => q⟩, muI (m.go s1)⟩ (fun i σ' H' hi p => ?_) (fun i y σ' H' hi p => ?_) (fun σ' H' p => ?_)⟩
  · obtain ⟨g, h', q, x', s', m'⟩ := p
    exact sqL_ex s'.st.i (sqL_ex s'.kn sq)
  · obtain ⟨g, h', q, x', s', m'⟩ := p
    obtain ⟨d, hd', dd⟩ := dpa_get' dp hi
    exact hs h1 i d g hd' q _ h' H' (x'.set j (dp_ex s'.kn dd)) s' (m'.set (hj i g))
  · obtain ⟨g, h', q, x', s', m'⟩ := p
    rw [dpa_len dp] at q x' m'
    exact hd h1 g q σ' h' H' x' s' m'
theorem n_forL {γ : Type _} {tl : TE} {j : Nat} {ds : List PyData} (G : Nat → γ → Prop) (Γi : Nat → γ → Ctx) (μi : Nat → γ → Mo) (g0 : γ) (a : T Γ tl (D K (.list ds))) (q0 : G 0 g0) (l0 : Le Γ (Γi 0 g0))
    (hs : ∀ (hb : Hp) (i : Nat) (d : PyData) (g : γ), ds[i]? = some d → G i g → Nx ⟨b.h0, b.H0, hb⟩ ((Γi i g).set j (some (D K d))) (μi i g) (tu ⟨Pv ⟨b.h0, b.H0, hb⟩ G Γi μi (i + 1), rr, ff, Pv ⟨b.h0, b.H0, hb⟩ G Γi μi (i + 1)⟩))
    (hd : ∀ (hb : Hp) g, G ds.length g → Nx ⟨b.h0, b.H0, hb⟩ (Γi ds.length g) (μi ds.length g) ff) (hm : μ = μi 0 g0 := by rfl) (hj : ∀ i g, mok (μi i g) j = true := by intros; rfl) : Nx b Γ μ (tFor (iList K tl) (gName j) tu ⟨ff, rr, bb, cc⟩) :=
  n_forLA G Γi μi g0 isL_D a q0 l0 hs hd hm hj
/-- while: G holds, m falls -/
def Wn {γ : Type _} (b : Bs) (G : γ → Prop) (ms : γ → Nat) (Γi : γ → Ctx) (μi : γ → Mo) (k : Nat) : St → Hp → Prop := fun σ H => ∃ g h, G g ∧ ms g < k ∧ En (Γi g) σ h ∧ b.Ok h H ∧ Mu b (μi g) σ h H
theorem n_wn {γ : Type _} {G : γ → Prop} {ms : γ → Nat} {Γi : γ → Ctx} {μi : γ → Mo} {k : Nat} (g : γ) (q : G g) (hk : ms g < k) (hm : μ = μi g) (l : Le Γ (Γi g)) : Nx b Γ μ (Wn b G ms Γi μi k) := fun σ h H x s m => ⟨g, h, q, hk, x.le l, s, hm ▸ m⟩
theorem n_while {γ : Type _} {φ : γ → Bool → Prop} (G : γ → Prop) (ms : γ → Nat) (Γi : γ → Ctx) (μi : γ → Mo) (g0 : γ) (q0 : G g0) (l0 : Le Γ (Γi g0)) (ht : ∀ g, G g → TB (Γi g) t (φ g))
    (hs : ∀ g, G g → φ g true → Nx b (Γi g) (μi g) (tu ⟨Wn b G ms Γi μi (ms g), rr, ff, Wn b G ms Γi μi (ms g)⟩))
    (hd : ∀ g, G g → φ g false → Nx b (Γi g) (μi g) ff) (hm : μ = μi g0 := by rfl) : Nx b Γ μ (tWhile t tu ⟨ff, rr, bb, cc⟩) := fun σ h H x s m => by
  subst hm
  refine ⟨fun k σ H => ∃ g h, G g ∧ ms g = k ∧ En (Γi g) σ h ∧ b.Ok h H ∧ Mu b (μi g) σ h H, ⟨ms g0, g0, h, q0, rfl, x.le l0, s, m⟩, fun k σ' H' p => ?_⟩
  obtain ⟨g, h', q, e, x', s', m'⟩ := p
  subst e
  refine ht g q σ' h' H' x' s'.st.i _ fun c h1 H1 s1 f => ?_
  cases c with
  | true => exact ⟨Wn b G ms Γi μi (ms g), fun σ2 H2 ⟨g2, h2, q2, k2, x2, s2, m2⟩ => ⟨ms g2, k2, g2, h2, q2, rfl, x2, s2, m2⟩, hs g q f σ' h1 H1 (x'.mono s1.s) (s'.go s1) (m'.go s1)⟩
  | false => exact hd g q f σ' h1 H1 (x'.mono s1.s) (s'.go s1) (m'.go s1)
theorem q_seq (k : Nx b Γ μ (tu { Dd with nx := tz Dd })) : Nx b Γ μ (tSeq tu tz Dd) := k

/-! ### comprehensions -/
def wpΓ (Γ : Ctx) : List Nat → Ctx
  | [] => Γ
  | v :: vs => (wpΓ Γ vs).set v none
theorem En.wp {σ : St} {h : Hp} (x : En Γ σ h) : ∀ vs, En (wpΓ Γ vs) (L2.wipe σ vs) h
  | [] => x
  | v :: vs => (En.wp x vs).wipe v
/-- the list made so far: items as Ps say, as G says -/
structure Lw (h0 H0 : Hp) (G : Nat → List Pr → Prop) (Dl : Addr) (i : Nat) (H' : Hp) : Prop where
  ex : ∃ h Ps vs, G i Ps ∧ Vs Ps vs h ∧ H' Dl = some (.lst vs) ∧ h Dl = none ∧ Stp h0 H0 h (fun a => if a = Dl then none else H' a)
/-- [te for x in range(n) if t] -/
theorem lc_turn {h0 H0 : Hp} {G : Nat → List Pr → Prop} {Dl : Addr} {i : Nat} {H' : Hp} {σ2 : St} {Γ2 : Ctx} {φ : Bool → Prop} (p : Lw h0 H0 G Dl i H') (hD : H0 Dl = none) (hz : ∀ Ps, G i Ps → Ps.length < 100000)
    (xe : ∀ h, Ex h0 h → En Γ2 σ2 h) (ht : TB Γ2 t φ) (hy : φ true → ∀ Ps, G i Ps → ∃ (α : Type) (f : α → Pr), T Γ2 te (Pr.some f) ∧ ∀ a, G (i + 1) (Ps ++ [f a])) (hn : φ false → ∀ Ps, G i Ps → G (i + 1) Ps) :
    t σ2 H' fun b H3 => if b = true then te σ2 H3 fun y H4 => ∃ acc, H4 Dl = some (.lst acc) ∧ acc.length < sizeLine ∧ Lw h0 H0 G Dl (i + 1) (upd H4 Dl (.lst (acc ++ [y]))) else Lw h0 H0 G Dl (i + 1) H3 := by
  obtain ⟨h, Ps, vs, g, hv, hl, hn', st⟩ := p.ex
  have iE : Ex h H' := fun a o e => by
    have z := st.i a o e
    have z' : (if a = Dl then none else H' a) = some o := z
    by_cases c : a = Dl
    · rw [if_pos c] at z'; cases z'
    · rw [if_neg c] at z'; exact z'
  -- behind a step from (h, H') all is as before
  have step : ∀ {h1 H1 : Hp}, Stp h H' h1 H1 → H1 Dl = some (.lst vs) ∧ h1 Dl = none ∧ Stp h0 H0 h1 (fun a => if a = Dl then none else H1 a) := fun {h1 H1} s => by
    have n1 := s.f Dl _ hl hn'
    refine ⟨s.e _ _ hl, n1, fun a o e => ?_, fun a o e => s.s a o (st.s a o e), fun a o e => ?_, fun a o e n => ?_⟩
    · have z := st.e a o e
      have z' : (if a = Dl then none else H' a) = some o := z
      show (if a = Dl then none else H1 a) = some o
      by_cases c : a = Dl
      · rw [if_pos c] at z'; cases z'
      · rw [if_neg c] at z' ⊢; exact s.e a o z'
    · show (if a = Dl then none else H1 a) = some o
      rw [if_neg (ne_of_none e n1)]
      exact s.i a o e
    · have z := st.e a o e
      have z' : (if a = Dl then none else H' a) = some o := z
      by_cases c : a = Dl
      · rw [if_pos c] at z'; cases z'
      · rw [if_neg c] at z'
        exact s.f a o z' (st.f a o e n)
  refine ht σ2 h H' (xe h st.s) iE _ fun c h1 H1 s1 f => ?_
  obtain ⟨l1, n1, st1⟩ := step s1
  cases c with
  | true =>
    obtain ⟨α, f', hT, hG⟩ := hy f Ps g
    show te σ2 H1 _
    refine hT σ2 h1 H1 (xe h1 st1.s) s1.i _ fun y h2 H2 s2 ⟨a, q⟩ => ?_
    have s12 := s1.trans s2
    obtain ⟨l2, n2, st2⟩ := step s12
    refine ⟨vs, l2, Evl.sz_lt (by rw [hv.len]; exact hz Ps g), ⟨h2, Ps ++ [f' a], vs ++ [y], hG a, ?_, upd_same, n2, ?_⟩⟩
    · exact (hv.mono s12.s).app q
    · have e : (fun a => if a = Dl then none else upd H2 Dl (.lst (vs ++ [y])) a) = (fun a => if a = Dl then none else H2 a) := by
        funext a
        by_cases c : a = Dl
        · rw [if_pos c, if_pos c]
        · rw [if_neg c, if_neg c, upd_ne c]
      rw [e]
      exact st2
  | false => exact ⟨h1, Ps, vs, hn f Ps g, hv.mono s1.s, l1, n1, st1⟩
theorem lw_end {h0 H0 : Hp} {G : Nat → List Pr → Prop} {Dl : Addr} {i : Nat} {H' : Hp} (p : Lw h0 H0 G Dl i H') (hD : H0 Dl = none) (i0 : Ex h0 H0) : ∃ h Ps, G i Ps ∧ Stp h0 H0 h H' ∧ (L K Ps).p (.ref Dl) h := by
  obtain ⟨h, Ps, vs, g, hv, hl, hn', st⟩ := p.ex
  have e1 : Ex h (upd h Dl (.lst vs)) := fun a o e => by rw [upd_ne (ne_of_none e hn')]; exact e
  refine ⟨upd h Dl (.lst vs), Ps, g, ⟨fun a o e => ?_, fun a o e => e1 a o (st.s a o e), fun a o e => ?_, fun a o e n => ?_⟩, Dl, vs, rfl, upd_same, hv.mono e1⟩
  · have z' : (if a = Dl then none else H' a) = some o := st.e a o e
    by_cases c : a = Dl
    · rw [if_pos c] at z'; cases z'
    · rw [if_neg c] at z'; exact z'
  · by_cases c : a = Dl
    · subst c; rw [upd_same] at e; cases e; exact hl
    · rw [upd_ne c] at e
      have z' : (if a = Dl then none else H' a) = some o := st.i a o e
      rw [if_neg c] at z'; exact z'
  · rw [upd_ne (ne_of_none e hD)]
    exact st.f a o e n
theorem wipe1 {σ : St} {j : Nat} {x : V} : wipe ((wipe σ [j]).set j (some x)) [j] = wipe σ [j] := by
  show ((σ.set j none).set j (some x)).set j none = σ.set j none
  rw [List.set_set, List.set_set]
theorem lw_start {h H : Hp} {G : Nat → List Pr → Prop} {Dl : Addr} (e : Ex h H) (hD : H Dl = none) (g : G 0 []) : Lw h H G Dl 0 (upd H Dl (.lst [])) := by
  have hn : h Dl = none := by
    cases q : h Dl with
    | none => rfl
    | some o => rw [e Dl o q] at hD; cases hD
  refine ⟨h, [], [], g, .nil, upd_same, hn, ?_⟩
  have z : (fun a => if a = Dl then none else upd H Dl (.lst []) a) = H := by
    funext a
    by_cases c : a = Dl
    · subst c; rw [if_pos rfl]; exact hD.symm
    · rw [if_neg c, upd_ne c]
  rw [z]
  exact Stp.refl e
theorem t_lcR1 {tr : TA} {j : Nat} {n : Int} {φ : Nat → Bool → Prop} (G : Nat → List Pr → Prop) (a : TAs Γ tr [I K n]) (hn : -1000000 ≤ n ∧ n ≤ 50000) (g0 : G 0 []) (hz : ∀ i Ps, G i Ps → Ps.length ≤ i)
    (ht : ∀ i : Nat, (i : Int) < n → TB ((wpΓ Γ [j]).set j (some (I K (i : Int)))) t (φ i))
    (hy : ∀ i : Nat, (i : Int) < n → φ i true → ∀ Ps, G i Ps → ∃ (α : Type) (f : α → Pr), T ((wpΓ Γ [j]).set j (some (I K (i : Int)))) te (Pr.some f) ∧ ∀ a, G (i + 1) (Ps ++ [f a]))
    (hno : ∀ i : Nat, (i : Int) < n → φ i false → ∀ Ps, G i Ps → G (i + 1) Ps) : T Γ (tLc (iRng1 tr) (gName j) t te [j]) (Pr.some fun Ps : { Ps // G n.toNat Ps } => L K Ps.1) := fun σ h H x e Q k => a σ h H x e _ fun vs h1 H1 s1 q => by
  cases q with
  | cons a1 q =>
    cases q
    rw [dp_int a1]
    refine ⟨n, rfl, by omega, by omega, fun Dl hD => ?_⟩
    refine lc_range (lo := 0) (n := n.toNat) (Lw h1 H1 G Dl) (lw_start s1.i hD g0) (fun i H' hi p => ?_) (fun H' p => ?_)
    · have e0 : (0 : Int) + (i : Int) = (i : Int) := Int.zero_add _
      rw [e0]
      exact ⟨wipe1, lc_turn p hD (fun Ps g => by have := hz i Ps g; omega) (fun h2 e2 => ((x.mono s1.s).mono e2).wp [j] |>.set j (show (I K (i : Int)).p (.int (i : Int)) _ from Dq.int _)) (ht i (by omega)) (hy i (by omega)) (hno i (by omega))⟩
    · obtain ⟨h', Ps, g, st, q⟩ := lw_end (K := K) p hD s1.i
      exact k _ h' H' (s1.trans st) ⟨⟨Ps, g⟩, q⟩
/-- .. over range(n), n one of many -/
theorem t_lcR1S {tr : TA} {j : Nat} {ψ : Int → Prop} {φ : Int → Nat → Bool → Prop} (G : Int → Nat → List Pr → Prop) (a : TAs Γ tr [Pr.some fun n : { n : Int // ψ n } => I K n.1]) (hn : ∀ n, ψ n → -1000000 ≤ n ∧ n ≤ 50000) (g0 : ∀ n, ψ n → G n 0 []) (hz : ∀ n i Ps, G n i Ps → Ps.length ≤ i)
    (ht : ∀ n, ∀ i : Nat, ψ n → (i : Int) < n → TB ((wpΓ Γ [j]).set j (some (I K (i : Int)))) t (φ n i))
    (hy : ∀ n, ∀ i : Nat, ψ n → (i : Int) < n → φ n i true → ∀ Ps, G n i Ps → ∃ (α : Type) (f : α → Pr), T ((wpΓ Γ [j]).set j (some (I K (i : Int)))) te (Pr.some f) ∧ ∀ a, G n (i + 1) (Ps ++ [f a]))
    (hno : ∀ n, ∀ i : Nat, ψ n → (i : Int) < n → φ n i false → ∀ Ps, G n i Ps → G n (i + 1) Ps) (hd : ∀ n Ps, ψ n → G n n.toNat Ps → ∀ v h, (L K Ps).p v h → P.p v h) : T Γ (tLc (iRng1 tr) (gName j) t te [j]) P := fun σ h H x e Q k => a σ h H x e _ fun vs h1 H1 s1 q => by
  cases q with
  | cons a1 q =>
    cases q
    obtain ⟨⟨n, pn⟩, a1⟩ := a1
    rw [dp_int a1]
    have hb := hn n pn
    refine ⟨n, rfl, by omega, by omega, fun Dl hD => ?_⟩
    refine lc_range (lo := 0) (n := n.toNat) (Lw h1 H1 (G n) Dl) (lw_start s1.i hD (g0 n pn)) (fun i H' hi p => ?_) (fun H' p => ?_)
    · have e0 : (0 : Int) + (i : Int) = (i : Int) := Int.zero_add _
      rw [e0]
      exact ⟨wipe1, lc_turn p hD (fun Ps g => by have := hz n i Ps g; omega) (fun h2 e2 => ((x.mono s1.s).mono e2).wp [j] |>.set j (show (I K (i : Int)).p (.int (i : Int)) _ from Dq.int _)) (ht n i pn (by omega)) (hy n i pn (by omega)) (hno n i pn (by omega))⟩
    · obtain ⟨h', Ps, g, st, q⟩ := lw_end (K := K) p hD s1.i
      exact k _ h' H' (s1.trans st) (hd n Ps pn g _ _ q)
theorem tb_yes : TB Γ tYes (fun c => c = true) := fun σ h H x e Q k => k true h H (Stp.refl e) rfl
theorem t_lcLA {A : Pr} {tl : TE} {j : Nat} {ds : List PyData} {φ : Nat → Bool → Prop} (G : Nat → List Pr → Prop) (hA : IsL K A ds) (a : T Γ tl A) (hn : ds.length ≤ 50000) (g0 : G 0 []) (hz : ∀ i Ps, G i Ps → Ps.length ≤ i)
    (ht : ∀ (i : Nat) d, ds[i]? = some d → TB ((wpΓ Γ [j]).set j (some (D K d))) t (φ i))
    (hy : ∀ (i : Nat) d, ds[i]? = some d → φ i true → ∀ Ps, G i Ps → ∃ (α : Type) (f : α → Pr), T ((wpΓ Γ [j]).set j (some (D K d))) te (Pr.some f) ∧ ∀ a, G (i + 1) (Ps ++ [f a]))
    (hno : ∀ (i : Nat) d, ds[i]? = some d → φ i false → ∀ Ps, G i Ps → G (i + 1) Ps) : T Γ (tLc (iList K tl) (gName j) t te [j]) (Pr.some fun Ps : { Ps // G ds.length Ps } => L K Ps.1) := fun σ h H x e Q k => a σ h H x e _ fun v h1 H1 s1 q => by
  obtain ⟨ad, xs, rfl, sq, dp⟩ := hA _ _ q
  refine ⟨ad, rfl, ⟨xs, sqL_ex s1.i sq⟩, fun Dl hD => ?_⟩
  refine lc_list (K := K) (a := ad) (xs := xs) (Lw h1 H1 G Dl) (lw_start s1.i hD g0) (fun i H' hi p => ?_) (fun i y H' hi p => ?_) (fun H' p => ?_)
  · obtain ⟨h, Ps, vs, g, hv, hl, hn', st⟩ := p.ex
    refine sqL_ex (h := h) (fun a o e => ?_) (sqL_ex st.s sq)
    have z' : (if a = Dl then none else H' a) = some o := st.i _ _ e
    by_cases c : a = Dl
    · rw [if_pos c] at z'; cases z'
    · rw [if_neg c] at z'; exact z'
  · obtain ⟨d, hd', dd⟩ := dpa_get' dp hi
    have hi' := (List.getElem?_eq_some_iff.mp hd').1
    exact ⟨wipe1, lc_turn p hD (fun Ps g => by have := hz i Ps g; omega) (fun h2 e2 => ((x.mono s1.s).mono e2).wp [j] |>.set j (dp_ex e2 dd)) (ht i d hd') (hy i d hd') (hno i d hd')⟩
  · rw [dpa_len dp] at p
    obtain ⟨h', Ps, g, st, q⟩ := lw_end (K := K) p hD s1.i
    exact k _ h' H' (s1.trans st) ⟨⟨Ps, g⟩, q⟩
theorem t_lcL {tl : TE} {j : Nat} {ds : List PyData} {φ : Nat → Bool → Prop} (G : Nat → List Pr → Prop) (a : T Γ tl (D K (.list ds))) (hn : ds.length ≤ 50000) (g0 : G 0 []) (hz : ∀ i Ps, G i Ps → Ps.length ≤ i)
    (ht : ∀ (i : Nat) d, ds[i]? = some d → TB ((wpΓ Γ [j]).set j (some (D K d))) t (φ i))
    (hy : ∀ (i : Nat) d, ds[i]? = some d → φ i true → ∀ Ps, G i Ps → ∃ (α : Type) (f : α → Pr), T ((wpΓ Γ [j]).set j (some (D K d))) te (Pr.some f) ∧ ∀ a, G (i + 1) (Ps ++ [f a]))
    (hno : ∀ (i : Nat) d, ds[i]? = some d → φ i false → ∀ Ps, G i Ps → G (i + 1) Ps) : T Γ (tLc (iList K tl) (gName j) t te [j]) (Pr.some fun Ps : { Ps // G ds.length Ps } => L K Ps.1) :=
  t_lcLA G isL_D a hn g0 hz ht hy hno
end
end Z

namespace Z
open PySem L2
/-! ### defs as they stand behind the top -/
/-- a def of the module keeps the promise sp, by at most level k -/
structure Fx (P : Program) (w : World) (K : PySem.W.Frag) (mg : Str → Option Value) (base : Heap) (k : Nat) (x : Str) (sp : Sp) : Prop where
  ex : ∃ f, mg x = some (.ref f) ∧ PySem.W.keepIn K (.ref f) = true ∧ FnR P w K mg base CX0 k f sp
/-- the def's text and place -/
structure Dn (K : PySem.W.Frag) (mg : Str → Option Value) (x : Str) (st : Stmt) (ps : List Str) : Prop where
  ex : ∃ f fd, L2.Fun K x x st f fd ∧ mg x = some (.ref f) ∧ Binds K fd ps []
theorem raw0 {P : Program} {w : World} {K : PySem.W.Frag} {mg : Str → Option Value} {base : Heap} {k : Nat} {f : Addr} {fd : FuncData} {ps : List Str} {sp : Sp} (F : FnOk P w K mg base CX0 k f fd ps sp) (hb : Binds K fd ps []) : FnR P w K mg base CX0 k f sp :=
  (F.raw hb (dvs := []) .nil).imp fun vs H Q E h => by
    show sp (vs ++ []) H Q E
    rw [List.append_nil]
    exact h
section
variable {P : Program} {w : World} {K : PySem.W.Frag} {mg : Str → Option Value} {base : Heap}
theorem Dn.fx {x : Str} {st : Stmt} {ps N : List Str} {k : Nat} {sp : Sp} (d : Dn K mg x st ps) (S : FnScope N ps (defScope st)) (len : ∀ vs H Q E, sp vs H Q E → vs.length = ps.length)
    (hbody : ∀ (f : Addr) (cdv : Value) (A : Around) (outer : List Env) (s : Shared) (H : Hp) (vs : List V) (Q : VK) (E : XK), Room k (A.deeper (PyProof.Rows.envOfC x (defScope st) s.heap.objs.size f cdv)) → sp vs H Q E →
      ∃ t, PSs (cxOf CX0 P w K mg base N x (defScope st) f cdv A outer s H E).nox (defBody st) t ∧ t { nx := fun _ H' => Q .non H', rt := Q } (start N vs) H) : Fx P w K mg base (k + 1) x sp := by
  obtain ⟨f, fd, F, hm, hb⟩ := d.ex
  exact ⟨f, hm, F.kp, raw0 (F.ok S len fun cdv A outer s H vs Q E => hbody f cdv A outer s H vs Q E) hb⟩
theorem Fx.imp {k : Nat} {x : Str} {sp sp' : Sp} (c : Fx P w K mg base k x sp) (h : ∀ vs H Q E, sp' vs H Q E → sp vs H Q E) : Fx P w K mg base k x sp' := by
  obtain ⟨f, a, b, F⟩ := c.ex
  exact ⟨f, a, b, F.imp h⟩
theorem Fx.mono {k j : Nat} {x : Str} {sp : Sp} (c : Fx P w K mg base k x sp) (h : k ≤ j) : Fx P w K mg base j x sp := by
  obtain ⟨f, a, b, F⟩ := c.ex
  exact ⟨f, a, b, F.mono h⟩
/-- a def with the promise Sv: its body from the slots -/
theorem Dn.sv {α : Type _} {args : α → List Pr} {pre : α → Prop} {res : α → Pr} {x : Str} {st : Stmt} {ps N : List Str} {k : Nat} (d : Dn K mg x st ps) (S : FnScope N ps (defScope st)) (hn : ∀ a, (args a).length = ps.length) (hN : ps.length ≤ N.length)
    (ht : ∀ (f : Addr) (cdv : Value) (A : Around) (outer : List Env) (s : Shared) (H : Hp) (E : XK), Room k (A.deeper (PyProof.Rows.envOfC x (defScope st) s.heap.objs.size f cdv)) → ∃ t : TS, PSs (cxOf CX0 P w K mg base N x (defScope st) f cdv A outer s H E).nox (defBody st) t ∧
      ∀ (a : α) (b : Bs), pre a → ∀ (Q : VK), (∀ v h H, Stp b.h0 b.H0 h H → (res a).p v h → Q v H) → Nx b ((args a).map some ++ List.replicate (N.length - ps.length) none) none (t { nx := fun _ H' => Q .non H', rt := Q })) :
    Fx P w K mg base (k + 1) x (Sv args pre res) := by
  refine d.fx S (Sv.len hn) fun f cdv A outer s H vs Q E hr h => ?_
  obtain ⟨t, ht, hb⟩ := ht f cdv A outer s H E hr
  refine ⟨t, ht, ?_⟩
  obtain ⟨a, h, e, q, p, kk⟩ := h
  refine hb a ⟨h, H, h⟩ p Q (fun v h' H' st z => kk v h' H' st z) _ h H ?_ ⟨Stp.refl e, fun _ _ q => q⟩ trivial
  have l1 : vs.length = ps.length := by rw [q.len, hn]
  have l2 : ((args a).map some).length = vs.length := by rw [List.length_map, q.len]
  have go : ∀ (Ps : List Pr) (vs : List V), Vs Ps vs h → ∀ (n : Nat), En (Ps.map some ++ List.replicate n none) (vs.map some ++ List.replicate n none) h := by
    intro Ps
    induction Ps with
    | nil =>
      intro vs q n
      cases q
      refine ⟨by simp, fun i P e => ?_⟩
      have e' : (List.replicate n (none : Option Pr))[i]? = some (some P) := e
      rw [List.getElem?_replicate] at e'
      split at e' <;> cases e'
    | cons P Ps ih =>
      intro vs q n
      cases q with
      | cons a q =>
        have z := ih _ q n
        refine ⟨by simpa using z.len, fun i R e => ?_⟩
        cases i with
        | zero =>
          have e' : P = R := by simpa using e
          subst e'
          exact ⟨_, rfl, a⟩
        | succ i =>
          obtain ⟨v, h1, h2⟩ := z.at_ i R (by simpa using e)
          exact ⟨v, by simpa using h1, h2⟩
  have st : L2.start N vs = vs.map some ++ List.replicate (N.length - ps.length) none := by
    unfold L2.start
    rw [l1]
  rw [st]
  exact go _ _ q _
end
def tF (sp : Sp) (t : TA) : TE := fun σ H Q => t σ H fun vs H1 => sp vs H1 Q E0
section
variable {X : Cx} {k j : Nat} {x : Str} {sp : Sp} {p pos : Pos} {e : Expr} {es : List Expr} {t : TA}
theorem pe_f (c : Fx X.prog X.w X.K X.mg X.base k x sp) (hr : Room j X.A) (hk : k ≤ j) (hg : Gl X x) (ha : PA X (e :: es) t)
    (hdb : (x == ("__debug__" : Str)) = false := by decide) (he : starEach (e :: es) X.env = (false, eval e X.env) :: starEach es X.env := by rfl) (hpl : (backTo pos (starEach es X.env)).any (·.1) = false := by rfl) :
    PE X (.Call (.Name x p) (e :: es) [] pos) (tF sp t) := by
  obtain ⟨f, hm, kp, F⟩ := c.ex
  refine ⟨fun pins s σ H Q I h => ?_⟩
  refine wpAny_Call_Name_kw (ld_glob I hg hm ?_ hdb)
  refine PySem.W.callWith_K (h₀ := X.base) I.ok.mod.kin kp (thn (ha.run pos pins s σ H _ I h) fun us s1 ⟨vs, H1, I1, r, q⟩ => ⟨I1.kIn, ?_⟩) he hpl
  exact wpAny_call (run_fnR (F.mono hk) hr pass0 I1 r q)
end
theorem t_f {α : Type _} {Γ : Ctx} {args : α → List Pr} {pre : α → Prop} {res : α → Pr} {tr : TA} (a : α) (x : TAs Γ tr (args a)) (p : pre a) : T Γ (tF (Sv args pre res) tr) (res a) := fun σ h H n e Q k =>
  x σ h H n e _ fun vs h1 H1 s1 q => ⟨a, h1, s1.i, q, p, fun v h2 H2 s2 z => k v h2 H2 (s1.trans s2) z⟩
/-- a module's constant int -/
def Gk (mg : Str → Option Value) (x : Str) (i : Int) : Prop := ∃ u, mg x = some u ∧ RelV (.int i) u
theorem pe_gK {X : Cx} {x : Str} {i : Int} {pos : Pos} (hg : Gl X x) (h : Gk X.mg x i) (hd : (x == ("__debug__" : Str)) = false := by decide) : PE X (.Name x pos) (tC (.int i)) := by
  obtain ⟨u, a, b⟩ := h
  exact pe_glob hg a b hd
theorem pe_cls {X : Cx} {x : Str} {C : Addr} {pos : Pos} (hg : Gl X x) (hm : X.mg x = some (.ref C)) (hd : (x == ("__debug__" : Str)) = false := by decide) : PE X (.Name x pos) (tC (.ref C)) := pe_glob (v := .ref C) hg hm rfl hd
/-- isinstance with a built-in class -/
def tyOf : PyData → Option String
  | .none => some "NoneType" | .bool _ => some "bool" | .int _ => some "int" | .str _ => some "str" | .list _ => some "list" | .tuple _ => some "tuple" | .dict _ => none
section
variable {K : PySem.W.Frag} {Γ : Ctx} {tr : TA}
theorem tyX_of {H : Hp} {v : V} {d : PyData} (q : Dq K H v d) {n : String} (hn : tyOf d = some n) : TyX K H v (.type n) := by
  cases q with
  | non => cases hn; exact .base .non
  | bl b => cases hn; exact .base (.bl b)
  | int i => cases hn; exact .base (.int i)
  | str x => cases hn; exact .base (.str x)
  | lst s a =>
    cases hn
    exact .base (.lst s)
  | tup s a =>
    cases hn
    rcases s with (s | ⟨o, s⟩) | ⟨o, its, m, s, c, _⟩
    · exact .base (.tup s)
    · exact .fTuple s
    · exact .kTuple s c
theorem fnp_isi {d : PyData} {n c : String} {r : Bool} (hn : tyOf d = some n) (hk : L2.kitB n c = some r) : FnP (rIsi K) [D K d, Pr.is (.ty c)] (B K r) := fun vs h H q e Q k => by
  cases q with
  | cons a q =>
    cases q with
    | cons b q =>
      cases q
      have b' : _ = V.ty c := b
      subst b'
      exact ⟨_, _, .type n, .type c, r, rfl, .ty c, tyX_of (dp_ex e a) hn, kit_ty hk, k _ h H (Stp.refl e) (.bl r)⟩
theorem t_ty {c : String} : T Γ (tC (.ty c)) (Pr.is (.ty c)) := t_c fun _ => rfl
/-- len -/
theorem fnp_lenL {ds : List PyData} : FnP (fun xs H Q => ∃ p ys, xs = [.ref p] ∧ (SqL K H p ys ∨ SqT K H p ys) ∧ Q (.int ys.length) H) [D K (.list ds)] (I K ds.length) := fun vs h H q e Q k => by
  cases q with
  | cons a q =>
    cases q
    obtain ⟨p, xs, rfl, s, z⟩ := dp_lst a
    exact ⟨p, xs, rfl, .inl (.inl (.inl (e _ _ s))), k _ h H (Stp.refl e) (by rw [dpa_len z]; exact .int _)⟩
theorem fnp_lenT {ds : List PyData} : FnP (fun xs H Q => ∃ p ys, xs = [.ref p] ∧ (SqL K H p ys ∨ SqT K H p ys) ∧ Q (.int ys.length) H) [D K (.tuple ds)] (I K ds.length) := fun vs h H q e Q k => by
  cases q with
  | cons a q =>
    cases q
    obtain ⟨p, xs, rfl, s, z⟩ := dp_tup a
    exact ⟨p, xs, rfl, .inr (sqT_ex e s), k _ h H (Stp.refl e) (by rw [dpa_len z]; exact .int _)⟩
theorem fnp_min2 {i j : Int} : FnP (fun xs H Q => ∃ i j, xs = [.int i, .int j] ∧ Q (.int (if j < i then j else i)) H) [I K i, I K j] (I K (min i j)) := fun vs h H q e Q k => by
  cases q with
  | cons a q =>
    cases q with
    | cons b q =>
      cases q
      rw [dp_int a, dp_int b]
      refine ⟨i, j, rfl, k _ h H (Stp.refl e) ?_⟩
      have z : (if j < i then j else i) = min i j := by
        rw [Int.min_def]; split <;> split <;> omega
      rw [z]; exact .int _
theorem fnp_max2 {i j : Int} : FnP (fun xs H Q => ∃ i j, xs = [.int i, .int j] ∧ Q (.int (if j > i then j else i)) H) [I K i, I K j] (I K (max i j)) := fun vs h H q e Q k => by
  cases q with
  | cons a q =>
    cases q with
    | cons b q =>
      cases q
      rw [dp_int a, dp_int b]
      refine ⟨i, j, rfl, k _ h H (Stp.refl e) ?_⟩
      have z : (if j > i then j else i) = max i j := by
        rw [Int.max_def]; split <;> split <;> omega
      rw [z]; exact .int _
theorem fnp_int1 {i : Int} {r : List V → Hp → VK → Prop} (hr : ∀ H Q, Q (.int i) H → r [.int i] H Q) : FnP r [I K i] (I K i) := fun vs h H q e Q k => by
  cases q with
  | cons a q =>
    cases q
    rw [dp_int a]
    exact hr H Q (k _ h H (Stp.refl e) (.int _))
theorem fnp_abs {i : Int} : FnP (fun xs H Q => ∃ i, xs = [.int i] ∧ Q (.int (if i < 0 then -i else i)) H) [I K i] (I K (if i < 0 then -i else i)) := fun vs h H q e Q k => by
  cases q with
  | cons a q =>
    cases q
    rw [dp_int a]
    exact ⟨i, rfl, k _ h H (Stp.refl e) (.int _)⟩
/-- a < b < c -/
theorem t_chain {g g' : Int → Int → Bool} {ta tb tc : TE} {i j k : Int} (a : T Γ ta (I K i)) (b : T Γ tb (I K j)) (c : T Γ tc (I K k)) : T Γ (tChain (rI0 fun i j => .bl (g i j)) (rI0 fun i j => .bl (g' i j)) ta tb tc) (B K (g i j && g' j k)) := fun σ h H x e Q kk =>
  a σ h H x e _ fun v h1 H1 s1 q1 => b σ h1 H1 (x.mono s1.s) s1.i _ fun y h2 H2 s2 q2 => by
    refine ⟨i, j, dp_int q1, dp_int q2, g i j, rfl, ?_⟩
    cases hg : g i j with
    | true =>
      refine c σ h2 H2 (x.mono (s1.trans s2).s) s2.i _ fun z h3 H3 s3 q3 => ⟨j, k, dp_int q2, dp_int q3, kk _ h3 H3 ((s1.trans s2).trans s3) (by rw [hg, Bool.true_and]; exact Dq.bl _)⟩
    | false => exact kk _ h2 H2 (s1.trans s2) (by rw [hg, Bool.false_and]; exact Dq.bl _)
end
end Z

namespace Z
open PySem L2
section
variable {K : PySem.W.Frag} {Γ : Ctx} {te ta tb : TE} {tr : TA} {P A C : Pr}
/-! ### slices, + -/
def TO' (Γ : Ctx) (to : TO) (o : Option Int) : Prop := ∀ (σ : St) (h H : Hp), En Γ σ h → Ex h H → ∀ Q : Option Int → Hp → Prop, (∀ h' H', Stp h H h' H' → Q o H') → to σ H Q
theorem to_none : TO' Γ tNoPart none := fun σ h H x e Q k => k h H (Stp.refl e)
theorem to_some {i : Int} (a : T Γ te (I K i)) : TO' Γ (tPart te) (some i) := fun σ h H x e Q k => a σ h H x e _ fun v h' H' s q => ⟨i, dp_int q, k h' H' s⟩
/-- the items that are cut out -/
def cutD {α : Type _} (xs : List α) (lo hi : Option Int) : List α := (xs.drop (HT.sIx xs.length 0 lo)).take (HT.sIx xs.length xs.length hi - HT.sIx xs.length 0 lo)
theorem cutD_to {α : Type _} (xs : List α) (k : Nat) : cutD xs none (some (k : Int)) = xs.take k := by
  unfold cutD
  rw [HT.sIx_none, HT.sIx_nat, List.drop_zero, Nat.sub_zero]
  by_cases h : k ≤ xs.length
  · rw [Nat.min_eq_left h]
  · rw [Nat.min_eq_right (by omega), List.take_of_length_le (Nat.le_refl _), List.take_of_length_le (by omega)]
theorem cutD_from {α : Type _} (xs : List α) (k : Nat) : cutD xs (some (k : Int)) none = xs.drop k := by
  unfold cutD
  rw [HT.sIx_none, HT.sIx_nat]
  by_cases h : k ≤ xs.length
  · rw [Nat.min_eq_left h, List.take_of_length_le (by rw [List.length_drop] <;> omega)]
  · rw [Nat.min_eq_right (by omega), List.drop_eq_nil_of_le (Nat.le_refl _), List.drop_eq_nil_of_le (by omega), List.take_nil]
theorem cutD_map {α β : Type _} (f : α → β) (xs : List α) (lo hi : Option Int) : cutD (xs.map f) lo hi = (cutD xs lo hi).map f := by
  unfold cutD
  rw [List.length_map, List.map_take, List.map_drop]
theorem cutV_D (xs : List V) (lo hi : Option Int) : cutV xs lo hi = cutD xs lo hi := rfl
theorem dqa_cut {h : Hp} {vs : List V} {ds : List PyData} (q : DqAll K h vs ds) (lo hi : Option Int) : DqAll K h (cutD vs lo hi) (cutD ds lo hi) := by
  unfold cutD
  rw [dpa_len q]
  exact dpa_take _ (dpa_drop _ q)
theorem t_slL {ds : List PyData} {tl th : TO} {lo hi : Option Int} (a : T Γ te (D K (.list ds))) (b : TO' Γ tl lo) (c : TO' Γ th hi) : T Γ (tSl (rSlL K) te tl th) (D K (.list (cutD ds lo hi))) := fun σ h H x e Q k =>
  a σ h H x e _ fun v h1 H1 s1 q => b σ h1 H1 (x.mono s1.s) s1.i _ fun h2 H2 s2 => c σ h2 H2 (x.mono (s1.trans s2).s) s2.i _ fun h3 H3 s3 => by
    obtain ⟨p, xs, rfl, hs, dq⟩ := dp_lst q
    have s := (s1.trans s2).trans s3
    have s23 := s2.trans s3
    refine ⟨p, xs, rfl, .inl (.inl (s3.i _ _ (s23.s _ _ hs))), fun p' np => k _ (upd h3 p' (.lst (cutV xs lo hi))) _ (s.trans (Stp.new s3.i np)) ?_⟩
    exact .lst upd_same (dqa_cut (dpa_ex (Stp.new (o := .lst (cutV xs lo hi)) s3.i np).s (dpa_ex s23.s dq)) lo hi)
theorem t_slT {ds : List PyData} {tl th : TO} {lo hi : Option Int} (a : T Γ te (D K (.tuple ds))) (b : TO' Γ tl lo) (c : TO' Γ th hi) : T Γ (tSl (rSlA K) te tl th) (D K (.tuple (cutD ds lo hi))) := fun σ h H x e Q k =>
  a σ h H x e _ fun v h1 H1 s1 q => b σ h1 H1 (x.mono s1.s) s1.i _ fun h2 H2 s2 => c σ h2 H2 (x.mono (s1.trans s2).s) s2.i _ fun h3 H3 s3 => by
    obtain ⟨p, xs, rfl, hs, dq⟩ := dp_tup q
    have s := (s1.trans s2).trans s3
    have s23 := s2.trans s3
    have hs3 := sqT_ex s23.s hs
    refine ⟨p, xs, rfl, sqT_ex s3.i hs3, fun w => k _ h3 H3 s ?_, fun _ p' np => k _ (upd h3 p' (.tup (cutV xs lo hi))) _ (s.trans (Stp.new s3.i np)) ?_⟩
    · have e : cutD ds lo hi = ds := by
        unfold cutD
        rw [← dpa_len dq, w.1, w.2, List.drop_zero, Nat.sub_zero, dpa_len dq, List.take_length]
      rw [e]
      exact .tup hs3 (dpa_ex s23.s dq)
    · exact .tup (.inl (.inl upd_same)) (dqa_cut (dpa_ex (Stp.new (o := .tup (cutV xs lo hi)) s3.i np).s (dpa_ex s23.s dq)) lo hi)
theorem opp_catL {ds es : List PyData} (hz : ds.length + es.length ≤ 100000) : OpP rCat (D K (.list ds)) (D K (.list es)) (D K (.list (ds ++ es))) := fun x y h H a c e Q k => by
  obtain ⟨p, xs, rfl, hp, dp⟩ := dp_lst a
  obtain ⟨q, ys, rfl, hq, dq⟩ := dp_lst c
  refine ⟨p, q, xs, ys, rfl, rfl, e _ _ hp, e _ _ hq, by rw [dpa_len dp, dpa_len dq]; exact Evl.sz_of hz, fun r nr => k _ (upd h r (.lst (xs ++ ys))) _ (Stp.new e nr) ?_⟩
  have st := (Stp.new (o := .lst (xs ++ ys)) e nr).s
  exact .lst upd_same (dpa_app (dpa_ex st dp) (dpa_ex st dq))
theorem opp_catA {ds es : List PyData} (hz : ds.length + es.length ≤ 100000) : OpP (rCatA K) (D K (.tuple ds)) (D K (.tuple es)) (D K (.tuple (ds ++ es))) := fun x y h H a c e Q k => by
  obtain ⟨p, xs, rfl, hp, dp⟩ := dp_tup a
  obtain ⟨q, ys, rfl, hq, dq⟩ := dp_tup c
  refine ⟨p, q, xs, ys, rfl, rfl, sqT_ex e hp, sqT_ex e hq, by rw [dpa_len dp, dpa_len dq]; exact Evl.sz_of hz, fun z => k _ h H (Stp.refl e) ?_, fun _ z => k _ h H (Stp.refl e) ?_, fun _ _ r nr => k _ (upd h r (.tup (xs ++ ys))) _ (Stp.new e nr) ?_⟩
  · subst z
    cases dp
    exact .tup hq dq
  · subst z
    cases dq
    rw [List.append_nil]
    exact .tup hp dp
  · have st := (Stp.new (o := .tup (xs ++ ys)) e nr).s
    exact .tup (.inl (.inl upd_same)) (dpa_app (dpa_ex st dp) (dpa_ex st dq))
/-- list(x), tuple(x) -/
theorem fnp_listT {ds : List PyData} : FnP (fun xs H Q => ∃ p ys, xs = [.ref p] ∧ (SqL K H p ys ∨ SqT K H p ys) ∧ ∀ l, H l = none → Q (.ref l) (upd H l (.lst ys))) [D K (.tuple ds)] (D K (.list ds)) := fun vs h H q e Q k => by
  cases q with
  | cons a q =>
    cases q
    obtain ⟨p, xs, rfl, s, z⟩ := dp_tup a
    exact ⟨p, xs, rfl, .inr (sqT_ex e s), fun l nl => k _ (upd h l (.lst xs)) _ (Stp.new e nl) (.lst upd_same (dpa_ex (Stp.new (o := .lst xs) e nl).s z))⟩
theorem fnp_listL {ds : List PyData} : FnP (fun xs H Q => ∃ p ys, xs = [.ref p] ∧ (SqL K H p ys ∨ SqT K H p ys) ∧ ∀ l, H l = none → Q (.ref l) (upd H l (.lst ys))) [D K (.list ds)] (D K (.list ds)) := fun vs h H q e Q k => by
  cases q with
  | cons a q =>
    cases q
    obtain ⟨p, xs, rfl, s, z⟩ := dp_lst a
    exact ⟨p, xs, rfl, .inl (.inl (.inl (e _ _ s))), fun l nl => k _ (upd h l (.lst xs)) _ (Stp.new e nl) (.lst upd_same (dpa_ex (Stp.new (o := .lst xs) e nl).s z))⟩
theorem fnp_tupL {ds : List PyData} : FnP (fun xs H Q => ∃ p ys, xs = [.ref p] ∧ ((SqL K H p ys ∧ ∀ l, H l = none → Q (.ref l) (upd H l (.tup ys))) ∨ (SqT K H p ys ∧ Q (.ref p) H))) [D K (.list ds)] (D K (.tuple ds)) := fun vs h H q e Q k => by
  cases q with
  | cons a q =>
    cases q
    obtain ⟨p, xs, rfl, s, z⟩ := dp_lst a
    exact ⟨p, xs, rfl, .inl ⟨.inl (.inl (e _ _ s)), fun l nl => k _ (upd h l (.tup xs)) _ (Stp.new e nl) (.tup (.inl (.inl upd_same)) (dpa_ex (Stp.new (o := .tup xs) e nl).s z))⟩⟩
theorem fnp_min {ns : List Int} (hn : ns ≠ []) : FnP (rMin K) [D K (dI ns)] (Pr.some fun m : { m : Int // m ∈ ns ∧ ∀ y ∈ ns, m ≤ y } => I K m.1) := fun vs h H q e Q k => by
  cases q with
  | cons a q =>
    cases q
    obtain ⟨p, rfl, s⟩ := dp_ints a
    exact ⟨p, ns, rfl, .inl (.inl (e _ _ s)), List.length_pos_iff.mpr hn, fun m hm hy => k _ h H (Stp.refl e) ⟨⟨m, hm, hy⟩, .int m⟩⟩
theorem fnp_max {ns : List Int} (hn : ns ≠ []) : FnP (rMax K) [D K (dI ns)] (Pr.some fun m : { m : Int // m ∈ ns ∧ ∀ y ∈ ns, y ≤ m } => I K m.1) := fun vs h H q e Q k => by
  cases q with
  | cons a q =>
    cases q
    obtain ⟨p, rfl, s⟩ := dp_ints a
    exact ⟨p, ns, rfl, .inl (.inl (e _ _ s)), List.length_pos_iff.mpr hn, fun m hm hy => k _ h H (Stp.refl e) ⟨⟨m, hm, hy⟩, .int m⟩⟩
theorem fnp_sum {ns : List Int} : FnP (rSum K) [D K (dI ns)] (I K ns.sum) := fun vs h H q e Q k => by
  cases q with
  | cons a q =>
    cases q
    obtain ⟨p, rfl, s⟩ := dp_ints a
    exact ⟨p, ns, rfl, .inl (.inl (e _ _ s)), k _ h H (Stp.refl e) (.int _)⟩

/-! ### objects of one field -/
/-- an instance of C whose only field f stands for d -/
def Ob (K : PySem.W.Frag) (C : Addr) (f : Str) (d : PyData) : Pr := ⟨fun v h => ∃ a dx u, v = .ref a ∧ h a = some (.ins C dx [(f, u)]) ∧ Dq K h u d, fun e ⟨a, dx, u, x, y, z⟩ => ⟨a, dx, u, x, e _ _ y, dp_ex e z⟩⟩
theorem lookup1 {f : Str} {u : V} : List.lookup f [(f, u)] = some u := by simp [List.lookup]
theorem lookup1_ne {f g : Str} {u : V} (h : (g == f) = false) : List.lookup g [(f, u)] = none := by simp [List.lookup, h]
theorem t_fld {C : Addr} {f : Str} {d : PyData} (c : Cls K C) (n : NoAttr K C f) (a : T Γ te (Ob K C f d)) : T Γ (tFld K te f) (D K d) := fun σ h H x e Q k => a σ h H x e _ fun v h1 H1 s1 q => by
  obtain ⟨p, dx, u, rfl, ho, z⟩ := q
  exact ⟨p, C, dx, _, u, rfl, s1.i _ _ ho, c, n, lookup1, k u h1 H1 s1 z⟩
end
/-- a method (or the getter of a property) of the class at C -/
structure Mx (P : Program) (w : World) (K : PySem.W.Frag) (mg : Str → Option Value) (base : Heap) (k : Nat) (C : Addr) (m : Str) (sp : Sp) : Prop where
  ex : ∃ f, PySem.W.findIn K (.ref C) m = some (some (.ref f)) ∧ PySem.W.isFn K (.ref f) = true ∧ PySem.W.fnIn K f = true ∧ FnR P w K mg base CX0 k f sp
structure Gx (P : Program) (w : World) (K : PySem.W.Frag) (mg : Str → Option Value) (base : Heap) (k : Nat) (C : Addr) (m : Str) (sp : Sp) : Prop where
  ex : ∃ p g fd ps, PropOf K C m p g ∧ FnOk P w K mg base CX0 k g fd ps sp ∧ Binds K fd ps []
/-- the __init__ of the class that the module's name x holds -/
structure Ix (P : Program) (w : World) (K : PySem.W.Frag) (mg : Str → Option Value) (base : Heap) (k : Nat) (x : Str) (C : Addr) (sp : Sp) : Prop where
  ex : ∃ f, Mk K C f ∧ mg x = some (.ref C) ∧ FnR P w K mg base CX0 k f sp
section
variable {X : Cx} {k j : Nat} {x : Str} {sp : Sp} {p pos : Pos} {e o : Expr} {es : List Expr} {t : TA} {ta : TE} {C : Addr} {m : Str}
theorem pe_mkR (c : Ix X.prog X.w X.K X.mg X.base k x C sp) (hr : Room j X.A) (hk : k + 1 ≤ j) (hg : Gl X x) (ha : PA X (e :: es) t)
    (hdb : (x == ("__debug__" : Str)) = false := by decide) (he : starEach (e :: es) X.env = (false, eval e X.env) :: starEach es X.env := by rfl) (hpl : (backTo pos (starEach es X.env)).any (·.1) = false := by rfl) :
    PE X (.Call (.Name x p) (e :: es) [] pos) (StX.tMakeR C sp E0 t) := by
  obtain ⟨f, M, hm, F⟩ := c.ex
  exact StX.pe_makeR M F (hr.mono hk) hg hm pass0 ha hdb he hpl
theorem pe_get (c : Gx X.prog X.w X.K X.mg X.base k C m sp) (cl : Cls X.K C) (hr : Room j X.A) (hk : k + 1 ≤ j) (he : PE X o ta) (hab : attributeBase o m X.env (eval o X.env) = eval o X.env := by rfl) : PE X (.Attribute o m pos) (tProp C sp [] E0 ta) := by
  obtain ⟨p, g, fd, ps, hp, F, hb⟩ := c.ex
  exact pe_prop he cl hp F (hr.mono hk) hb .nil pass0 hab
theorem pe_cO (c : Mx X.prog X.w X.K X.mg X.base k C "__call__" sp) (hr : Room j X.A) (hk : k ≤ j) (hf : PE X o ta) (ha : PA X (e :: es) t)
    (ht : eval (.Call o (e :: es) [] pos) X.env = (do callWith pos (← eval o X.env) [] (backTo pos (starEach (e :: es) X.env)) (backToKw pos (keywordEach [] X.env))) := by rfl)
    (he : starEach (e :: es) X.env = (false, eval e X.env) :: starEach es X.env := by rfl) (hpl : (backTo pos (starEach es X.env)).any (·.1) = false := by rfl) : PE X (.Call o (e :: es) [] pos) (StX.tCallO X C sp E0 ta t) := by
  obtain ⟨f, a, b, d, F⟩ := c.ex
  exact StX.pe_callO hf ⟨a, b, d⟩ F (hr.mono hk) pass0 ha ht he hpl
end
/-! ### the text's own operators -/
/-- what stands at y, by its type -/
def TyV (K : PySem.W.Frag) (H : Hp) (y : V) (t : Value) : Prop := (∃ a C dx fs, y = .ref a ∧ H a = some (.ins C dx fs) ∧ t = .ref C) ∨ (∃ d n, Dq K H y d ∧ tyOf d = some n ∧ t = .type n)
theorem TyV.looks {X : Cx} {pins : List (Addr × Obj)} {σ : L2.St} {H : Hp} {s : Shared} {y : V} {u t : Value} {M : Model} (I : Inv X pins σ H s) (r : RelV y u) (q : TyV X.K H y t) : PySem.W.Looks M s.heap (typeOf u) t := by
  rcases q with ⟨a, C, dx, fs, rfl, ho, rfl⟩ | ⟨d, n, dq, hn, rfl⟩
  · obtain rfl : u = Value.ref a := r
    obtain ⟨mA, J, _⟩ := ins_get I.hok ho
    obtain ⟨od, J, _⟩ := J.look
    exact J.type
  · cases dq with
    | non => cases hn; obtain rfl : u = Value.none := r; exact PySem.W.Looks.of_pure rfl
    | bl b => cases hn; obtain rfl : u = Value.bool b := r; exact PySem.W.Looks.of_pure rfl
    | int i => cases hn; obtain ⟨t, rfl⟩ : ∃ t, u = Value.int i t := r; exact PySem.W.Looks.of_pure rfl
    | str x => cases hn; obtain ⟨t, rfl⟩ : ∃ t, u = Value.str x t := r; exact PySem.W.Looks.of_pure rfl
    | @lst a xs ds hl z =>
      cases hn
      obtain rfl : u = Value.ref a := r
      obtain ⟨_, its, n, _, h1⟩ := (show ObjOk X.prog X.w H s.heap a (.lst xs) from I.hok a _ hl)
      exact (PySem.W.Looks.ld h1).andThen .now
    | @tup a xs ds hl z =>
      cases hn
      obtain rfl : u = Value.ref a := r
      obtain ⟨its, rv, ⟨o, ho, hc, _⟩, _⟩ := I.tuple hl
      exact hc ▸ (PySem.W.Looks.ld ho).andThen .now
section
variable {X : Cx} {k j : Nat} {sp : Sp} {C : Addr} {m : Str}
theorem run_own {pins : List (Addr × Obj)} {σ : L2.St} {H : Hp} {s : Shared} {Q : VK} {A : Around} {f : Addr} {us : List Value} {vs : List V} (F : FnR X.prog X.w X.K X.mg X.base CX0 k f sp) (hr : Room k A) (hf : A.frames = X.A.frames) (I : Inv X pins σ H s) (r : Vals vs us) (h : sp vs H Q E0) :
    wpAny (model X.prog X.w) A (call (.ref f) us) (EP X pins σ Q) X.xe s := by
  have e0 : Env0 X.prog X.w X.K X.mg X.base A X.stack s H := by
    have e := I.env0
    exact ⟨by rw [hf]; exact e.frames, e.mod, e.bs, e.bsz, e.funs, e.frf, e.hok, e.bare⟩
  refine wpAny_call (codeAny_mono (F A X.stack s H us vs Q E0 hr e0 r h) fun r s' hq => ?_)
  cases r with
  | error e => exact False.elim (show False from hq)
  | ok fl =>
    cases fl with
    | ret u => exact I.after hq
    | next => exact False.elim hq
    | brk => exact False.elim hq
    | cont => exact False.elim hq
def NotNI (v : V) : Prop := True
theorem relV_ni {v : V} {u : Value} (r : RelV v u) : u ≠ .notImplemented := by
  intro e
  subst e
  cases v with
  | non => cases r
  | bl => cases r
  | int => obtain ⟨_, r⟩ := r; cases r
  | str => obtain ⟨_, r⟩ := r; cases r
  | byt => obtain ⟨_, r⟩ := r; cases r
  | flt => obtain ⟨_, r⟩ := r; cases r
  | ref => cases r
  | ty => cases r
theorem back_of {Q : Value → Shared → Prop} {v : Value} {s' : Shared} (n : v ≠ .notImplemented) (q : Q v s') : PySem.W.CmpBack Q v s' := by
  unfold PySem.W.CmpBack
  split
  · exact n rfl
  · exact q
/-- x == y, x an instance of C -/
def rOwn (K : PySem.W.Frag) (C : Addr) (sp : Sp) : R2 := fun x y H Q => ∃ a dx fs t, x = .ref a ∧ H a = some (.ins C dx fs) ∧ TyV K H y t ∧ PySem.W.notFirst K C t = true ∧ sp [x, y] H Q E0
theorem op_ownEq (c : Mx X.prog X.w X.K X.mg X.base k C "__eq__" sp) (hr : Room j X.A) (hk : k ≤ j) : OpR X (compareOp .Eq) (rOwn X.K C sp) := by
  intro pins s σ H x y v u Q I rx ry h
  obtain ⟨a, dx, fs, t, rfl, ho, ty, nf, q⟩ := h
  obtain rfl : v = Value.ref a := rx
  obtain ⟨f, hs, hf, _, F⟩ := c.ex
  obtain ⟨mA, J, _⟩ := ins_get I.hok ho
  obtain ⟨od, J, _⟩ := J.look
  obtain ⟨m, hF⟩ := I.fr
  show wpAny (model X.prog X.w) X.A (richCompare .Eq (.ref a) u) (EP X pins σ Q) X.xe s
  refine PySem.W.cmp_K (op := .Eq) (tb := t) hr.units0 hF I.ok.mod.kin J (ty.looks I ry) nf hs hf ?_
  refine wpAny_mono (run_own F (hr.mono hk) rfl I (.cons (show RelV (.ref a) (.ref a) from rfl) (.cons ry .nil)) q) (fun w s' z => ?_) fun _ _ e => e
  obtain ⟨v', H', I', rv, z⟩ := z
  exact back_of (relV_ni rv) ⟨v', H', I', rv, z⟩
/-- x != y: object.__ne__ turns what __eq__ says -/
def rOwnNe (K : PySem.W.Frag) (C : Addr) (sp : Sp) : R2 := fun x y H Q => ∃ a dx fs t, x = .ref a ∧ H a = some (.ins C dx fs) ∧ TyV K H y t ∧ PySem.W.notFirst K C t = true ∧ sp [x, y] H (fun v H' => ∃ b, v = .bl b ∧ Q (.bl (!b)) H') E0
/-- the class has object's != -/
structure NeK (K : PySem.W.Frag) (C : Addr) : Prop where
  ne : PySem.W.findIn K (.ref C) "__ne__" = some (some (.builtin "object.__ne__"))
  ob : PySem.W.mroIn K C (.type "object") = some true
theorem ifBound_ne {M : Model} {A : Around} {E : Value → Shared → Prop} {s : Shared} {K : PySem.W.Frag} {x C : Addr} {ox : Obj} {od : Option Obj} {args : List Value} {Q : Option Value → Shared → Prop} (X : K.In s.heap) (I : PySem.W.InstAt s.heap x ox C od) (n : NeK K C)
    (h : wpAny M A (call (.builtin "object.__ne__") (.ref x :: args)) (fun v => Q (some v)) E s) : wpAny M A (callSpecialIfBound? (.ref x) "__ne__" args) Q E s := by
  simp only [callSpecialIfBound?, bindSpecialIfBound?]
  refine wpAny_holding (wpAny_bind (wpAny_bind (wpAny_bind (I.type.here ((PySem.W.looks_findIn X n.ne).here ?_)))))
  simp only [PySem.F.cmp_object.ne.bind]
  refine wpAny_bind (wpAny_askSetting (wpAny_ite ?_))
  have fin : wpAny M A (call (.builtin "object.__ne__") ([.ref x] ++ args) >>= fun v => pure (some v)) Q E s := wpAny_bind (wpAny_mono h (fun v s' h' => wpAny_pure h') fun _ _ h' => h')
  split
  · exact wpAny_bind (wpAny_pure (wpAny_pure fin))
  · exact wpAny_tryCatch (wpAny_bind (wpAny_pure (wpAny_pure fin)))
theorem op_ownNe (c : Mx X.prog X.w X.K X.mg X.base k C "__eq__" sp) (n : NeK X.K C) (hr : Room j X.A) (hk : k + 1 ≤ j) : OpR X (compareOp .NotEq) (rOwnNe X.K C sp) := by
  intro pins s σ H x y v u Q I rx ry h
  obtain ⟨a, dx, fs, t, rfl, ho, ty, nf, q⟩ := h
  obtain rfl : v = Value.ref a := rx
  obtain ⟨f, hs, hf, _, G⟩ := c.ex
  obtain ⟨mA, J, _⟩ := ins_get I.hok ho
  obtain ⟨od, J, _⟩ := J.look
  have KX := I.kIn
  have hr1 : Room k X.A.in1 := (hr.mono hk).in1
  show wpAny (model X.prog X.w) X.A (richCompare .NotEq (.ref a) u) (EP X pins σ Q) X.xe s
  have tb : PySem.W.Looks (model X.prog X.w) s.heap (typeOf u) t := ty.looks I ry
  have one : wpAny (model X.prog X.w) X.A (tryCompare (.ref a) (cmpInfo .NotEq).2.1 u) (fun r s' => ∃ v, r = some v ∧ EP X pins σ Q v s') X.xe s := by
    unfold tryCompare
    refine wpAny_bind (ifBound_ne KX J n (wpAny_call (codeAny_call_builtin PySem.F.cmp_object.ne.plain PySem.F.cmpEntry_ne (PySem.W.check_slot PySem.F.cmpKind_ne PySem.F.cmpSplit_ne (J.type.andThen (PySem.W.looks_mroIn KX n.ob)) (PySem.F.cmpArgs_ne _ _) ?_))))
    unfold Builtin.«object.__ne__»
    have call : wpAny (model X.prog X.w) X.A.in1 (callSpecialIfBound? (.ref a) (Str.ofString "__eq__") [u]) (fun r s' => ∃ b H', r = some (.bool b) ∧ Inv X pins σ H' s' ∧ Q (.bl (!b)) H') X.xe s := by
      refine PySem.W.ifBound_K KX J hs hf ?_
      refine wpAny_mono (run_own G hr1 rfl I (.cons (show RelV (.ref a) (.ref a) from rfl) (.cons ry .nil)) q) (fun w s' z => ?_) fun _ _ e => e
      obtain ⟨v', H', I', rv, b, rfl, z⟩ := z
      obtain rfl : w = Value.bool b := rv
      exact ⟨b, H', rfl, I', z⟩
    repeat (first
      | with_reducible refine wpAny_cRoomFor (hr1.units0) ?_
      | (refine wpAny_bind (m := callSpecialIfBound? (.ref a) (Str.ofString "__eq__") [u]) (wpAny_mono call (fun r s' z => by
          obtain ⟨b, H', rfl, I', z⟩ := z
          repeat (first | exact ⟨_, rfl, .bl (!b), H', I', rfl, z⟩ | exact wpAny_pure ⟨_, rfl, .bl (!b), H', I', rfl, z⟩ | (refine wpAny_bind (m := truthy (.bool _)) (wpAny_truthy_bool ?_)) | wp_step)) fun _ _ e => e))
      | wp_step)
  unfold richCompare
  simp only [oneThing_ref]
  refine wpAny_holding (wpAny_bind (wpAny_cRoomFor hr.units0 ?_))
  refine wpAny_bind (J.type.here (wpAny_bind (tb.here ?_)))
  split
  · rename_i q'
    have e : PySem.W.subIn X.K t (.ref C) = some false := by
      rcases Bool.or_eq_true_iff.mp nf with e | e
      · rw [beq_iff_eq.mp e] at q'; simp at q'
      · exact beq_iff_eq.mp e
    refine wpAny_bind ((PySem.W.looks_subIn KX e).here ?_)
    simp only [Bool.false_eq_true, if_false]
    refine wpAny_bind (wpAny_mono one (fun r s' z => ?_) fun _ _ e => e)
    obtain ⟨v, rfl, hq⟩ := z
    exact wpAny_pure hq
  · refine wpAny_bind (wpAny_pure ?_)
    simp only [Bool.false_eq_true, if_false]
    refine wpAny_bind (wpAny_mono one (fun r s' z => ?_) fun _ _ e => e)
    obtain ⟨v, rfl, hq⟩ := z
    exact wpAny_pure hq
/-- len(x) -/
def rOwnLen (C : Addr) (sp : Sp) : List V → Hp → VK → Prop := fun xs H Q => ∃ a dx fs, xs = [.ref a] ∧ H a = some (.ins C dx fs) ∧ sp [.ref a] H (fun v H' => ∃ n : Nat, v = .int n ∧ n < 2 ^ 62 ∧ Q (.int n) H') E0
theorem call_ownLen (c : Mx X.prog X.w X.K X.mg X.base k C "__len__" sp) (hr : Room j X.A) (hk : k + 1 ≤ j) : CallR X (.builtin "len") (rOwnLen C sp) := by
  intro pins s σ H xs us Q I r h
  obtain ⟨a, dx, fs, rfl, ho, q⟩ := h
  obtain ⟨u, rfl, rx⟩ := vals1 r
  obtain rfl : u = Value.ref a := rx
  obtain ⟨f, hs, hf, _, G⟩ := c.ex
  obtain ⟨mA, J, _⟩ := ins_get I.hok ho
  obtain ⟨od, J, _⟩ := J.look
  obtain ⟨m, hF⟩ := I.fr
  refine PySem.W.len_K hF I.ok.mod.kin J hs hf ?_
  refine wpAny_mono (run_own G (hr.mono hk).in1 rfl I (.cons (show RelV (.ref a) (.ref a) from rfl) .nil) q) (fun w s' z => ?_) fun _ _ e => e
  obtain ⟨v', H', I', rv, n, rfl, hn, z⟩ := z
  obtain ⟨t, rfl⟩ := rv
  exact ⟨⟨Int.natCast_nonneg n, by omega⟩, .int n, H', I'.tok _, ⟨_, rfl⟩, z⟩
/-- x + y, x - y, x >> y, both of C; -x; x * n; x[i] -/
theorem op_ownBin (op : Operator) (c : Mx X.prog X.w X.K X.mg X.base k C (PySem.dunder op.info.2) sp) (sf : PySem.W.selfFirst X.K C = true) (hr : Room j X.A) (hk : k ≤ j) :
    OpR X (binaryOp op) (fun x y H Q => ∃ a dx fs b dy gs, x = .ref a ∧ H a = some (.ins C dx fs) ∧ y = .ref b ∧ H b = some (.ins C dy gs) ∧ sp [x, y] H Q E0) := by
  intro pins s σ H x y v u Q I rx ry h
  obtain ⟨a, dx, fs, b, dy, gs, rfl, ho, rfl, ho2, q⟩ := h
  obtain rfl : v = Value.ref a := rx
  obtain rfl : u = Value.ref b := ry
  obtain ⟨f, hs, hf, _, G⟩ := c.ex
  obtain ⟨mA, J, _⟩ := ins_get I.hok ho
  obtain ⟨od, J, _⟩ := J.look
  obtain ⟨mB, J2, _⟩ := ins_get I.hok ho2
  obtain ⟨od2, J2, _⟩ := J2.look
  obtain ⟨m, hF⟩ := I.fr
  refine PySem.W.binop_K hF I.ok.mod.kin J J2.type sf hs hf ?_
  refine wpAny_mono (run_own G (hr.mono hk) rfl I (.cons (show RelV (.ref a) (.ref a) from rfl) (.cons (show RelV (.ref b) (.ref b) from rfl) .nil)) q) (fun w s' z => ?_) fun _ _ e => e
  obtain ⟨v', H', I', rv, z⟩ := z
  exact back_of (relV_ni rv) ⟨v', H', I', rv, z⟩
theorem op_ownNeg (c : Mx X.prog X.w X.K X.mg X.base k C "__neg__" sp) (hr : Room j X.A) (hk : k ≤ j) :
    UnR X (unaryOp .USub) (fun x H Q => ∃ a dx fs, x = .ref a ∧ H a = some (.ins C dx fs) ∧ sp [x] H Q E0) := by
  intro pins s σ H x v Q I rx h
  obtain ⟨a, dx, fs, rfl, ho, q⟩ := h
  obtain rfl : v = Value.ref a := rx
  obtain ⟨f, hs, hf, _, G⟩ := c.ex
  obtain ⟨mA, J, _⟩ := ins_get I.hok ho
  obtain ⟨od, J, _⟩ := J.look
  obtain ⟨m, hF⟩ := I.fr
  refine PySem.W.ksp_neg hF I.ok.mod.kin J hs hf ?_
  exact run_own G (hr.mono hk) rfl I (.cons (show RelV (.ref a) (.ref a) from rfl) .nil) q
end
end Z
namespace Z
open PySem L2
section
variable {K : PySem.W.Frag} {Γ : Ctx} {te ta tb : TE} {tr : TA} {P A C : Pr}
/-- __init__ of a class of one field: a check, then the field -/
def spIni (K : PySem.W.Frag) (C : Addr) (f : Str) (pre : PyData → Prop) : Sp := fun vs H Q _ => ∃ (x dx : Addr) (d : PyData) (v : V) (h : Hp), vs = [.ref x, v] ∧ H x = some (.ins C dx []) ∧ Ex h H ∧ h x = none ∧ Dq K h v d ∧ pre d ∧
  ∀ h1 H1, Stp h H h1 H1 → Q .non (upd H1 x (.ins C dx [(f, v)]))
theorem t_mkOb {C : Addr} {f : Str} {pre : PyData → Prop} {d : PyData} (a : T Γ ta (D K d)) (p : pre d) : T Γ (StX.tMakeR C (spIni K C f pre) E0 (tCons ta tNil)) (Ob K C f d) := fun σ h H x e Q k => a σ h H x e _ fun v h1 H1 s1 q => by
  intro y dx ny nd ne
  have nh : h1 y = none := by
    cases z : h1 y with
    | none => rfl
    | some o => rw [s1.i y o z] at ny; cases ny
  have eH : Ex H1 (upd (upd H1 dx (.own y)) y (.ins C dx [])) := fun b o z => by rw [upd_ne (ne_of_none z ny), upd_ne (ne_of_none z nd)]; exact z
  refine ⟨y, dx, d, v, h1, rfl, upd_same, fun b o z => eH b o (s1.i b o z), nh, q, p, fun h3 H3 s3 => ⟨rfl, ?_⟩⟩
  have hy3 : H3 y = some (.ins C dx []) := s3.e _ _ upd_same
  have ny3 : h3 y = none := s3.f _ _ upd_same nh
  have e3 : Ex h3 (upd h3 y (.ins C dx [(f, v)])) := fun b o z => by rw [upd_ne (ne_of_none z ny3)]; exact z
  refine k (.ref y) (upd h3 y (.ins C dx [(f, v)])) _ (s1.trans ⟨fun b o z => ?_, fun b o z => e3 b o (s3.s b o z), fun b o z => ?_, fun b o z n => ?_⟩) ⟨y, dx, v, rfl, upd_same, dp_ex e3 (dp_ex s3.s q)⟩
  · rw [upd_ne (ne_of_none z ny)]
    exact s3.e b o (eH b o z)
  · by_cases c : b = y
    · subst c; rw [upd_same] at z ⊢; exact z
    · rw [upd_ne c] at z ⊢; exact s3.i b o z
  · rw [upd_ne (ne_of_none z ny)]
    exact s3.f b o (eH b o z) n
/-- a property of such an object, a call of it, == and != and len of it -/
theorem t_prop {α : Type _} {C : Addr} {f : Str} {args : α → List Pr} {pre : α → Prop} {res : α → Pr} {d : PyData} (a : α) (x : T Γ te (Ob K C f d)) (ha : args a = [Ob K C f d]) (p : pre a) : T Γ (tProp C (Sv args pre res) [] E0 te) (res a) := fun σ h H n e Q k =>
  x σ h H n e _ fun v h1 H1 s1 q => by
    obtain ⟨y, dx, u, rfl, ho, z⟩ := id q
    exact ⟨y, dx, _, rfl, s1.i _ _ ho, a, h1, s1.i, by rw [ha]; exact .cons q .nil, p, fun v h2 H2 s2 z => k v h2 H2 (s1.trans s2) z⟩
theorem t_callO {α : Type _} {X : Cx} {C : Addr} {f : Str} {args : α → List Pr} {pre : α → Prop} {res : α → Pr} {d : PyData} {As : List Pr} (a : α) (x : T Γ te (Ob K C f d)) (y : TAs Γ tr As) (ha : args a = Ob K C f d :: As) (p : pre a) : T Γ (StX.tCallO X C (Sv args pre res) E0 te tr) (res a) := fun σ h H n e Q k =>
  x σ h H n e _ fun v h1 H1 s1 q => by
    obtain ⟨o, dx, u, rfl, ho, z⟩ := id q
    refine ⟨o, rfl, y σ h1 H1 (n.mono s1.s) s1.i _ fun vs h2 H2 s2 q2 => ⟨.inr ⟨dx, _, s2.e _ _ (s1.i _ _ ho)⟩, a, h2, s2.i, ?_, p, fun v h3 H3 s3 z => k v h3 H3 ((s1.trans s2).trans s3) z⟩⟩
    rw [ha]
    exact .cons ((Ob K C f d).mono s2.s q) q2
theorem ob_ty {C : Addr} {f : Str} {d : PyData} {v : V} {h : Hp} (q : (Ob K C f d).p v h) : TyV K h v (.ref C) := by
  obtain ⟨o, dx, u, rfl, ho, z⟩ := q
  exact .inl ⟨o, C, dx, _, rfl, ho, rfl⟩
theorem notFirst_self {C : Addr} : PySem.W.notFirst K C (.ref C) = true := by simp [PySem.W.notFirst]
theorem opp_ownEq {α : Type _} {C : Addr} {f : Str} {args : α → List Pr} {pre : α → Prop} {res : α → Pr} {d : PyData} {B' : Pr} {t : Value} (a : α) (hB : ∀ v h, B'.p v h → TyV K h v t) (nf : PySem.W.notFirst K C t = true) (ha : args a = [Ob K C f d, B']) (p : pre a) : OpP (rOwn K C (Sv args pre res)) (Ob K C f d) B' (res a) := fun x y h H q1 q2 e Q k => by
  obtain ⟨o, dx, u, rfl, ho, z⟩ := id q1
  refine ⟨o, dx, _, t, rfl, e _ _ ho, ?_, nf, a, h, e, by rw [ha]; exact .cons q1 (.cons q2 .nil), p, fun v h' H' s z => k v h' H' s z⟩
  exact hB _ _ (B'.mono e q2)
theorem opp_ownNe {α : Type _} {C : Addr} {f : Str} {args : α → List Pr} {pre : α → Prop} {c : α → Bool} {d : PyData} {B' : Pr} {t : Value} (a : α) (hB : ∀ v h, B'.p v h → TyV K h v t) (nf : PySem.W.notFirst K C t = true) (ha : args a = [Ob K C f d, B']) (p : pre a) : OpP (rOwnNe K C (Sv args pre fun a => B K (c a))) (Ob K C f d) B' (B K (!c a)) := fun x y h H q1 q2 e Q k => by
  obtain ⟨o, dx, u, rfl, ho, z⟩ := id q1
  refine ⟨o, dx, _, t, rfl, e _ _ ho, hB _ _ (B'.mono e q2), nf, a, h, e, by rw [ha]; exact .cons q1 (.cons q2 .nil), p, fun v h' H' s z => ⟨c a, dp_bl z, k _ h' H' s (.bl _)⟩⟩
theorem fnp_ownLen {α : Type _} {C : Addr} {f : Str} {args : α → List Pr} {pre : α → Prop} {n : α → Nat} {d : PyData} (a : α) (hn : n a ≤ 100000) (ha : args a = [Ob K C f d]) (p : pre a) : FnP (rOwnLen C (Sv args pre fun a => I K (n a))) [Ob K C f d] (I K (n a)) := fun vs h H q e Q k => by
  cases q with
  | cons q1 q =>
    cases q
    obtain ⟨o, dx, u, rfl, ho, z⟩ := id q1
    exact ⟨o, dx, _, rfl, e _ _ ho, a, h, e, by rw [ha]; exact .cons q1 .nil, p, fun v h' H' s z => ⟨n a, dp_int z, by omega, k _ h' H' s (.int _)⟩⟩
end
end Z
namespace Z
open PySem L2
section
variable {K : PySem.W.Frag} {b : Bs} {Γ Γ' : Ctx} {μ : Mo} {te ta tb : TE} {tr : TA} {t : TT} {P R : Pr} {tu tw tz : TS} {ff : St → Hp → Prop} {rr : VK} {bb cc : St → Hp → Prop}
theorem Mu.re {b : Bs} {hb : Hp} {μ : Mo} {σ : St} {h H : Hp} (m : Mu b μ σ h H) : Mu ⟨b.h0, b.H0, hb⟩ μ σ h H := by
  cases μ with
  | none => trivial
  | some p =>
    obtain ⟨l, o, m⟩ := m
    exact ⟨l, o, m.at_, m.nh, m.n0, m.oH, m.ct⟩
/-- for i, x in enumerate(list of data) -/
theorem n_forE {γ : Type _} {j l : Nat} {ds : List PyData} (G : Nat → γ → Prop) (Γi : Nat → γ → Ctx) (μi : Nat → γ → Mo) (g0 : γ) (a : TAs Γ tr [D K (.list ds)]) (q0 : G 0 g0) (l0 : Le Γ (Γi 0 g0))
    (hs : ∀ (hb : Hp) (i : Nat) (d : PyData) (g : γ), ds[i]? = some d → G i g → Nx ⟨b.h0, b.H0, hb⟩ (((Γi i g).set j (some (I K (i : Int)))).set l (some (D K d))) (μi i g) (tu ⟨Pv ⟨b.h0, b.H0, hb⟩ G Γi μi (i + 1), rr, ff, Pv ⟨b.h0, b.H0, hb⟩ G Γi μi (i + 1)⟩))
    (hd : ∀ (hb : Hp) g, G ds.length g → Nx ⟨b.h0, b.H0, hb⟩ (Γi ds.length g) (μi ds.length g) ff) (hm : μ = μi 0 g0 := by rfl) (hj : ∀ i g, mok (μi i g) j = true := by intros; rfl) (hl : ∀ i g, mok (μi i g) l = true := by intros; rfl) : Nx b Γ μ (tFor (iEnum K tr) (gTup K 2 (gCons (gName j) (gCons (gName l) gNil))) tu ⟨ff, rr, bb, cc⟩) := fun σ h H x s m => a σ h H x s.st.i _ fun vs h1 H1 s1 q => by
  cases q with
  | cons q z =>
    cases z
    obtain ⟨p, xs, rfl, sq, dp⟩ := dp_lst q
    subst hm
    refine ⟨p, xs, rfl, .inl (.inl (s1.i _ _ sq)), fun i m σ H => m = xs.length - i ∧ i ≤ xs.length ∧ Pv ⟨b.h0, b.H0, h1⟩ G Γi μi i σ H, ⟨xs.length, by simp, Nat.zero_le _, g0, h1, q0, (x.mono s1.s).le l0, ⟨(s.go s1).st, fun _ _ q => q⟩, (m.go s1).re⟩, ?_⟩
    rintro i m σ' H' ⟨rfl, hi, g, h', q, x', s', m'⟩
    have hp : SqL K H' p xs := .inl (.inl (s'.st.i _ _ (s'.kn _ _ sq)))
    by_cases hlt : i < xs.length
    · refine .inr ⟨⟨xs, xs[i], hp, by simp [hlt]⟩, Pv ⟨b.h0, b.H0, h1⟩ G Γi μi (i + 1), fun σ' H' p' => ⟨xs.length - (i + 1), by omega, rfl, hlt, p'⟩, fun v H2 y => ?_⟩
      obtain ⟨T, y, rfl, nT, rfl, hy⟩ := y
      have hy' := hy xs hp
      obtain ⟨d, hd', dd⟩ := dpa_get' dp hy'
      have st := Stp.new (o := .tup [.int (i : Nat), y]) s'.st.i nT
      refine ⟨T, [.int (i : Nat), y], rfl, .inl (.inl upd_same), rfl, _, _, rfl, _, _, rfl, rfl, ?_⟩
      exact hs h1 i d g hd' q _ (upd h' T (.tup [.int (i : Nat), y])) _ (((x'.mono st.s).set j (show (I K (i : Int)).p (.int (i : Nat)) _ from Dq.int _)).set l (dp_ex st.s (dp_ex s'.kn dd))) (s'.go st) (((m'.go st).set (hj i g)).set (hl i g))
    · have e : i = xs.length := by omega
      subst e
      refine .inl ⟨⟨xs, hp, Nat.le_refl _⟩, ?_⟩
      rw [dpa_len dp] at q x' m'
      exact hd h1 g q σ' h' H' x' s' m'
end
end Z
namespace Z
open PySem L2
/-- a method's text and place -/
structure Dm (K : PySem.W.Frag) (m qual : Str) (st : Stmt) (ps : List Str) (f : Addr) : Prop where
  ex : ∃ fd, L2.Fun K m qual st f fd ∧ Binds K fd ps []
section
variable {P : Program} {w : World} {K : PySem.W.Frag} {mg : Str → Option Value} {base : Heap}
theorem en_start {α : Type _} {args : α → List Pr} {N ps : List Str} {a : α} {h : Hp} {vs : List V} (hn : ∀ a, (args a).length = ps.length) (q : Vs (args a) vs h) : En ((args a).map some ++ List.replicate (N.length - ps.length) none) (L2.start N vs) h := by
  have l1 : vs.length = ps.length := by rw [q.len, hn]
  have go : ∀ (Ps : List Pr) (vs : List V), Vs Ps vs h → ∀ (n : Nat), En (Ps.map some ++ List.replicate n none) (vs.map some ++ List.replicate n none) h := by
    intro Ps
    induction Ps with
    | nil =>
      intro vs q n
      cases q
      refine ⟨by simp, fun i P e => ?_⟩
      have e' : (List.replicate n (none : Option Pr))[i]? = some (some P) := e
      rw [List.getElem?_replicate] at e'
      split at e' <;> cases e'
    | cons P Ps ih =>
      intro vs q n
      cases q with
      | cons a q =>
        have z := ih _ q n
        refine ⟨by simpa using z.len, fun i R e => ?_⟩
        cases i with
        | zero =>
          have e' : P = R := by simpa using e
          subst e'
          exact ⟨_, rfl, a⟩
        | succ i =>
          obtain ⟨v, h1, h2⟩ := z.at_ i R (by simpa using e)
          exact ⟨v, by simpa using h1, h2⟩
  have st : L2.start N vs = vs.map some ++ List.replicate (N.length - ps.length) none := by
    unfold L2.start
    rw [l1]
  rw [st]
  exact go _ _ q _
theorem Dm.ok {sp : Sp} {m qual : Str} {st : Stmt} {ps N : List Str} {k : Nat} {f : Addr} (d : Dm K m qual st ps f) (S : FnScope N ps (defScope st)) (len : ∀ vs H Q E, sp vs H Q E → vs.length = ps.length)
    (hbody : ∀ (cdv : Value) (A : Around) (outer : List Env) (s : Shared) (H : Hp) (vs : List V) (Q : VK) (E : XK), Room k (A.deeper (PyProof.Rows.envOfC qual (defScope st) s.heap.objs.size f cdv)) → sp vs H Q E →
      ∃ t, PSs (cxOf CX0 P w K mg base N qual (defScope st) f cdv A outer s H E).nox (defBody st) t ∧ t { nx := fun _ H' => Q .non H', rt := Q } (L2.start N vs) H) : ∃ fd, FnOk P w K mg base CX0 (k + 1) f fd ps sp ∧ Binds K fd ps [] := by
  obtain ⟨fd, F, hb⟩ := d.ex
  exact ⟨fd, F.ok S len hbody, hb⟩
theorem Dm.sv {α : Type _} {args : α → List Pr} {pre : α → Prop} {res : α → Pr} {m qual : Str} {st : Stmt} {ps N : List Str} {k : Nat} {f : Addr} (d : Dm K m qual st ps f) (S : FnScope N ps (defScope st)) (hn : ∀ a, (args a).length = ps.length)
    (ht : ∀ (cdv : Value) (A : Around) (outer : List Env) (s : Shared) (H : Hp) (E : XK), Room k (A.deeper (PyProof.Rows.envOfC qual (defScope st) s.heap.objs.size f cdv)) → ∃ t : TS, PSs (cxOf CX0 P w K mg base N qual (defScope st) f cdv A outer s H E).nox (defBody st) t ∧
      ∀ (a : α) (b : Bs), pre a → ∀ (Q : VK), (∀ v h H, Stp b.h0 b.H0 h H → (res a).p v h → Q v H) → Nx b ((args a).map some ++ List.replicate (N.length - ps.length) none) none (t { nx := fun _ H' => Q .non H', rt := Q })) :
    ∃ fd, FnOk P w K mg base CX0 (k + 1) f fd ps (Sv args pre res) ∧ Binds K fd ps [] := by
  refine d.ok S (Sv.len hn) fun cdv A outer s H vs Q E hr h => ?_
  obtain ⟨t, ht, hb⟩ := ht cdv A outer s H E hr
  refine ⟨t, ht, ?_⟩
  obtain ⟨a, h, e, q, p, kk⟩ := h
  exact hb a ⟨h, H, h⟩ p Q (fun v h' H' st z => kk v h' H' st z) _ h H (en_start hn q) ⟨Stp.refl e, fun _ _ q => q⟩ trivial
/-- where a method stands in its class -/
structure Mt (K : PySem.W.Frag) (C : Addr) (m : Str) (f : Addr) : Prop where
  at_ : PySem.W.findIn K (.ref C) m = some (some (.ref f))
  fn : PySem.W.isFn K (.ref f) = true
  fi : PySem.W.fnIn K f = true
theorem Mt.mx {C : Addr} {m : Str} {f : Addr} {k : Nat} {ps : List Str} {sp : Sp} (t : Mt K C m f) (o : ∃ fd, FnOk P w K mg base CX0 k f fd ps sp ∧ Binds K fd ps []) : Mx P w K mg base k C m sp := by
  obtain ⟨fd, F, b⟩ := o
  exact ⟨f, t.at_, t.fn, t.fi, raw0 F b⟩
theorem gx_of {C p g : Addr} {m : Str} {k : Nat} {ps : List Str} {sp : Sp} (t : PropOf K C m p g) (o : ∃ fd, FnOk P w K mg base CX0 k g fd ps sp ∧ Binds K fd ps []) : Gx P w K mg base k C m sp := by
  obtain ⟨fd, F, b⟩ := o
  exact ⟨p, g, fd, ps, t, F, b⟩
theorem ix_of {C f : Addr} {x : Str} {k : Nat} {ps : List Str} {sp : Sp} (t : Mk K C f) (hm : mg x = some (.ref C)) (o : ∃ fd, FnOk P w K mg base CX0 k f fd ps sp ∧ Binds K fd ps []) : Ix P w K mg base k x C sp := by
  obtain ⟨fd, F, b⟩ := o
  exact ⟨f, t, hm, raw0 F b⟩
end
end Z
namespace Z
open PySem L2
/-- what is known of an own class with the one field f -/
structure CK (K : PySem.W.Frag) (C : Addr) (f : Str) : Prop where
  cl : Cls K C
  na : NoAttr K C f
  ha : PySem.W.findIn K (.ref C) "__class__" = some (some (.builtin "object.__class__"))
  hn : PySem.W.specialIn K (.builtin "object.__class__") "__get__" = some (some (.builtin "getset_descriptor.__get__"))
  htk : PySem.W.takesIn K (.builtin "object.__class__") = some true
  hm : PySem.W.mroIn K C (.type "object") = some true
  ne : PySem.W.findIn K (.ref C) "__ne__" = some (some (.builtin "object.__ne__"))
  ic : PySem.W.isClsIn K C = true
  ty : PySem.W.typeIn K (.ref C) = some (.type "type")
  st : PySem.W.subIn K (.type "tuple") (.ref C) = some false
section
variable {K : PySem.W.Frag} {C : Addr} {f : Str}
theorem CK.neK (c : CK K C f) : NeK K C := ⟨c.ne, c.hm⟩
theorem CK.nf (c : CK K C f) : PySem.W.notFirst K C (.type "tuple") = true := by
  unfold PySem.W.notFirst
  rw [c.st]
  simp
/-- isinstance of such an object, of a tuple -/
theorem fnp_isC (c : CK K C f) {d : PyData} : FnP (rIsi K) [Ob K C f d, Pr.is (.ref C)] (B K true) := fun vs h H q e Q k => by
  cases q with
  | cons a q =>
    cases q with
    | cons b q =>
      cases q
      have b' : _ = V.ref C := b
      subst b'
      obtain ⟨o, dx, u, rfl, ho, z⟩ := a
      refine ⟨_, _, .ref C, .ref C, true, rfl, .own C, .base (.ins (e _ _ ho) c.cl c.ha c.hn c.htk c.hm), ?_, k _ h H (Stp.refl e) (.bl true)⟩
      unfold PySem.W.kitOne
      rw [if_pos (by simp)]
theorem fnp_isT (c : CK K C f) {ds : List PyData} : FnP (rIsi K) [D K (.tuple ds), Pr.is (.ref C)] (B K false) := fun vs h H q e Q k => by
  cases q with
  | cons a q =>
    cases q with
    | cons b q =>
      cases q
      have b' : _ = V.ref C := b
      subst b'
      refine ⟨_, _, .type "tuple", .ref C, false, rfl, .own C, tyX_of (dp_ex e a) rfl, ?_, k _ h H (Stp.refl e) (.bl false)⟩
      unfold PySem.W.kitOne
      rw [if_neg (by simp)]
      show (if ((PySem.W.clsIn K C).isSome && PySem.W.typeIn K (.ref C) == some (.type "type")) = true then PySem.W.subIn K (.type "tuple") (.ref C) else none) = some false
      have i : (PySem.W.clsIn K C).isSome = true := c.ic
      rw [if_pos (by rw [i, c.ty] <;> rfl)]
      exact c.st
end
theorem t_cls {Γ : Ctx} {C : Addr} : T Γ (tC (.ref C)) (Pr.is (.ref C)) := t_c fun _ => rfl
theorem ints_can : ∀ ns : List Int, PyData.canLayAll0 (ns.map PyData.int) = true
  | [] => rfl
  | n :: ns => by
    show (PyData.canLay0 (.int n) && PyData.canLayAll0 (ns.map PyData.int)) = true
    rw [ints_can ns]; rfl
theorem ints_depth : ∀ ns : List Int, PyData.depthAll (ns.map PyData.int) = 0
  | [] => rfl
  | n :: ns => by
    show max (PyData.depth (.int n)) (PyData.depthAll (ns.map PyData.int)) = 0
    rw [ints_depth ns]; rfl
theorem shaped_dT (ns : List Int) : SeqAt.shaped (dT ns) = true := by
  show (PyData.canLayAll0 (ns.map PyData.int) && decide (PyData.depthAll (ns.map PyData.int) + 1 ≤ 64)) = true
  rw [ints_can, ints_depth]; rfl
theorem shaped_dI (ns : List Int) : SeqAt.shaped (dI ns) = true := by
  show (PyData.canLayAll0 (ns.map PyData.int) && decide (PyData.depthAll (ns.map PyData.int) + 1 ≤ 64)) = true
  rw [ints_can, ints_depth]; rfl
theorem eqv_ints : ∀ ns ms : List Int, PyData.eqvAll (ns.map PyData.int) (ms.map PyData.int) = decide (ns = ms)
  | [], [] => rfl
  | [], _ :: _ => rfl
  | _ :: _, [] => rfl
  | n :: ns, m :: ms => by
    show (PyData.eqv (.int n) (.int m) && PyData.eqvAll (ns.map PyData.int) (ms.map PyData.int)) = _
    rw [eqv_ints ns ms]
    show ((n == m) && decide (ns = ms)) = _
    by_cases h : n = m
    · subst h; simp
    · have : (n == m) = false := beq_eq_false_iff_ne.mpr h
      rw [this]; simp [h]
theorem eqv_dT (ns ms : List Int) : PyData.eqv (dT ns) (dT ms) = decide (ns = ms) := eqv_ints ns ms
theorem eqv_dI (ns ms : List Int) : PyData.eqv (dI ns) (dI ms) = decide (ns = ms) := eqv_ints ns ms
end Z

namespace Z
open PySem L2
/-! ### the law's source of numbers: a list that its own def changes; seen from outside it is one thing that stays -/
def okD (ns : List Int) : Prop := ∃ s x r, ns = s :: x :: r ∧ (0 ≤ s ∧ s < 2147483647) ∧ 0 ≤ x ∧ (∀ y ∈ r, 0 ≤ y) ∧ r.length ≤ 100
def DrawO (o : Obj) : Prop := ∃ (ns : List Int) (its : List Value) (n : Nat), o = { cls := .type "list", data := .seq its.toArray n } ∧ Vals (ns.map V.int) its ∧ okD ns
def DrawX (d : Addr) : HO := .ext fun h => ∃ o, h.get? d = some o ∧ DrawO o
def Drw : Pr := ⟨fun v h => ∃ d, v = .ref d ∧ h d = some (DrawX d), fun e ⟨d, a, b⟩ => ⟨d, a, e _ _ b⟩⟩
theorem okD_len {ns : List Int} (k : okD ns) : ns.length ≤ 1000 := by
  obtain ⟨s, x, r, rfl, _, _, _, h⟩ := k
  rw [List.length_cons, List.length_cons]; omega
/-- a list of the script's numbers -/
def Scr (K : PySem.W.Frag) (ns : List Int) : Pr := ⟨fun v h => ∃ a, v = .ref a ∧ SqL K h a (ns.map V.int), fun e ⟨a, x, y⟩ => ⟨a, x, sqL_ex e y⟩⟩
theorem isL_scr {K : PySem.W.Frag} {ns : List Int} : IsL K (Scr K ns) (ns.map PyData.int) := fun v h ⟨a, e, s⟩ => ⟨a, _, e, s, ints_dpa ns⟩
section
variable {P : Program} {w : World} {K : PySem.W.Frag} {mg : Str → Option Value} {base : Heap} {f : Addr} {k : Nat}
def spBelowL : Sp := fun vs H Q _ => ∃ (d : Addr) (ns : List Int) (n : Int), vs = [.ref d, .int n] ∧ H d = some (.lst (ns.map V.int)) ∧ okD ns ∧ (0 < n ∧ n < 1000000000) ∧
  ∀ (r : Int) (ms : List Int), 0 ≤ r → r < n → okD ms → Q (.int r) (upd H d (.lst (ms.map V.int)))
/-- a number from 0 to n - 1 -/
def Bel (K : PySem.W.Frag) (n : Int) : Pr := Pr.some fun r : { r : Int // 0 ≤ r ∧ r < n } => I K r.1
abbrev spBelow (K : PySem.W.Frag) : Sp := Sv (fun n : Int => [Drw, I K n]) (fun n => 0 < n ∧ n < 1000000000) (fun n => Bel K n)
theorem ext_lst {P : Program} {w : World} {H : Hp} {h : Heap} {d : Addr} {o u : HO} (ok : HOk P w H h) (ho : H d = some o) (n1 : ∀ c, o ≠ .own c) (n2 : ∀ xs, o ≠ .tup xs) (new : ∀ b, H b ≠ some (.own d) → True) (hu : ObjOk P w (upd H d u) h d u) : HOk P w (upd H d u) h := fun b o' e => by
  by_cases c : b = d
  · subst c
    rw [upd_same] at e
    cases e
    exact hu
  · rw [upd_ne c] at e
    refine (ok b o' e).stay (fun _ _ _ q => q) (fun a q => ?_) fun a xs q => ?_
    · by_cases ca : a = d
      · subst ca; rw [ho] at q; cases q; exact absurd rfl (n1 _)
      · rw [upd_ne ca]; exact q
    · by_cases ca : a = d
      · subst ca; rw [ho] at q; cases q; exact absurd rfl (n2 _)
      · rw [upd_ne ca]; exact q
theorem draw_obj {H : Hp} {h : Heap} {d : Addr} {o : Obj} (e : h.get? d = some o) (q : DrawO o) : ObjOk P w H h d (DrawX d) :=
  ⟨⟨o, e, q⟩, ⟨o, e⟩, fun h1 h2 ⟨o1, e1, q1⟩ k => ⟨o1, k _ e1, q1⟩⟩
theorem below_ext (F : FnR P w K mg base CX0 k f spBelowL) : FnR P w K mg base CX0 k f (spBelow K) := by
  intro A outer s H us vs Q E hr e0 r hs
  obtain ⟨n, h, e, q, p, kk⟩ := hs
  cases q with
  | cons q1 q =>
    cases q with
    | cons q2 q =>
      cases q
      obtain ⟨d, rfl, hd⟩ := q1
      rw [dp_int q2] at r
      have hD : H d = some (DrawX d) := e _ _ hd
      obtain ⟨⟨o, ho, ns, its, m, rfl, rv, ok⟩, _⟩ := (show ObjOk P w H s.heap d (DrawX d) from e0.hok d _ hD)
      have lw : ObjOk P w (upd H d (.lst (ns.map V.int))) s.heap d (.lst (ns.map V.int)) := ⟨by rw [List.length_map]; exact Nat.le_of_lt (small1000 (okD_len ok)), its, m, rv, ho⟩
      have hok1 : HOk P w (upd H d (.lst (ns.map V.int))) s.heap := ext_lst e0.hok hD (fun c z => by cases z) (fun c z => by cases z) (fun _ _ => trivial) lw
      have nb : ∀ b, H b = none → b ≠ d := fun b z c => by subst c; rw [hD] at z; cases z
      have e1 : Env0 P w K mg base A outer s (upd H d (.lst (ns.map V.int))) := ⟨e0.frames, e0.mod, fun b o z => ⟨(e0.bs b o z).1, by rw [upd_ne (nb b (e0.bs b o z).2)]; exact (e0.bs b o z).2⟩, e0.bsz, e0.funs, fun b z => by rw [upd_ne (nb b (e0.frf b z))]; exact e0.frf b z, hok1, e0.bare⟩
      refine codeAny_mono (F A outer s (upd H d (.lst (ns.map V.int))) us [.ref d, .int n] (fun v H' => ∃ r ms, v = .int r ∧ 0 ≤ r ∧ r < n ∧ okD ms ∧ H' = upd H d (.lst (ms.map V.int))) E hr e1 r ⟨d, ns, n, rfl, upd_same, ok, p, fun r ms r0 r1 om => ⟨r, ms, rfl, r0, r1, om, upd_upd⟩⟩) fun res s' hq => ?_
      cases res with
      | error er => exact False.elim (show False from hq)
      | ok fl =>
        cases fl with
        | next => exact False.elim hq
        | brk => exact False.elim hq
        | cont => exact False.elim hq
        | ret u =>
          obtain ⟨v, H', os, bare, un, hok', rel, r, ms, rfl, r0, r1, om, rfl⟩ := hq
          have hd' : upd H d (.lst (ms.map V.int)) d = some (.lst (ms.map V.int)) := upd_same
          obtain ⟨_, its', m', rv', ho'⟩ := (show ObjOk P w _ s'.heap d (.lst (ms.map V.int)) from hok' d _ hd')
          have back : upd (upd H d (.lst (ms.map V.int))) d (DrawX d) = H := by
            rw [upd_upd]
            funext b
            by_cases c : b = d
            · subst c; rw [upd_same, hD]
            · rw [upd_ne c]
          have hokH : HOk P w H s'.heap := by
            have z := ext_lst (u := DrawX d) hok' hd' (fun c z => by cases z) (fun c z => by cases z) (fun _ _ => trivial) (draw_obj ho' ⟨ms, its', m', rfl, rv', om⟩)
            rw [back] at z
            exact z
          refine ⟨.int r, H, os, bare, ⟨fun b o z n hb hx => un.keep b o z (by rw [upd_ne (nb b n)]; exact n) hb hx, fun b o z n hb hx => un.slot b o z (by rw [upd_ne (nb b n)]; exact n) hb hx, fun b o z n _ => n, fun b o z hx => un.there b o z hx, fun _ _ q => q, fun _ _ _ q => q, fun _ ps q => ⟨#[], by rw [q]; simp⟩⟩, hokH, rel, ?_⟩
          exact kk (.int r) h H (Stp.refl e) ⟨⟨r, r0, r1⟩, .int r⟩
/-- the source is made -/
def spRandL (K : PySem.W.Frag) : Sp := fun vs H Q _ => ∃ (ns : List Int) (n : Int) (h : Hp), Ex h H ∧ Vs [Scr K ns, I K n] vs h ∧ (0 ≤ n ∧ n < 1000000) ∧ ns.length ≤ 63 ∧
  ∀ p H' ms, H p = none → Ex H H' → H' p = some (.lst (ms.map V.int)) → okD ms → Q (.ref p) H'
abbrev spRand (K : PySem.W.Frag) : Sp := Sv (fun a : List Int × Int => [Scr K a.1, I K a.2]) (fun a => (0 ≤ a.2 ∧ a.2 < 1000000) ∧ a.1.length ≤ 63) (fun _ => Drw)
theorem rand_ext (F : FnR P w K mg base CX0 k f (spRandL K)) : FnR P w K mg base CX0 k f (spRand K) := by
  intro A outer s H us vs Q E hr e0 r hs
  obtain ⟨⟨ns, n⟩, h, e, q, ⟨p, hl⟩, kk⟩ := hs
  refine codeAny_mono (F A outer s H us vs (fun v H' => ∃ p ms, v = .ref p ∧ H p = none ∧ Ex H H' ∧ H' p = some (.lst (ms.map V.int)) ∧ okD ms) E hr e0 r ⟨ns, n, h, e, q, p, hl, fun p H' ms a b c d => ⟨p, ms, rfl, a, b, c, d⟩⟩) fun res s' hq => ?_
  cases res with
  | error er => exact False.elim (show False from hq)
  | ok fl =>
    cases fl with
    | next => exact False.elim hq
    | brk => exact False.elim hq
    | cont => exact False.elim hq
    | ret u =>
      obtain ⟨v, H', os, bare, un, hok', rel, p, ms, rfl, np, ex, hp, om⟩ := hq
      obtain ⟨_, its', m', rv', ho'⟩ := (show ObjOk P w _ s'.heap p (.lst (ms.map V.int)) from hok' p _ hp)
      have hok2 : HOk P w (upd H' p (DrawX p)) s'.heap := ext_lst hok' hp (fun c z => by cases z) (fun c z => by cases z) (fun _ _ => trivial) (draw_obj ho' ⟨ms, its', m', rfl, rv', om⟩)
      have ne : ∀ b o, H b = some o → b ≠ p := fun b o z => ne_of_none z np
      have pfree : ∀ b o, s.heap.get? b = some o → b ∉ ([] : List Addr) → H b = none → b ≠ p := fun b o z hx n c => by
        subst c
        have := un.free b o z n hx
        rw [hp] at this
        cases this
      refine ⟨.ref p, upd H' p (DrawX p), os, bare, ⟨un.keep, un.slot, fun b o z n hx => by rw [upd_ne (pfree b o z hx n)]; exact un.free b o z n hx, un.there, fun b xs q => by rw [upd_ne (ne b _ q)]; exact un.tups b xs q, fun b o xs q => by rw [upd_ne (ne b _ q)]; exact un.frzs b o xs q, fun b ps q => by rw [upd_ne (ne b _ q)]; exact un.tbls b ps q⟩, hok2, rel, ?_⟩
      have nh : h p = none := by
        cases z : h p with
        | none => rfl
        | some o => rw [e p o z] at np; cases np
      refine kk (.ref p) (upd h p (DrawX p)) _ ⟨fun b o z => ?_, fun b o z => ?_, fun b o z => ?_, fun b o z n => ?_⟩ ⟨p, rfl, upd_same⟩
      · rw [upd_ne (ne b o z)]; exact ex b o z
      · rw [upd_ne (ne_of_none z nh)]; exact z
      · by_cases c : b = p
        · subst c; rw [upd_same] at z ⊢; exact z
        · rw [upd_ne c] at z ⊢; exact ex b o (e b o z)
      · rw [upd_ne (ne b o z)]; exact n
end
end Z
namespace Z
open PySem L2
theorem n_retR {b : Bs} {Γ : Ctx} {μ : Mo} {te : TE} {Dd : Ends} (k : ∀ σ h H, En Γ σ h → b.Ok h H → te σ H Dd.rt) : Nx b Γ μ (tRet te Dd) := fun σ h H x s _ => k σ h H x s
theorem raw_op {Γ : Ctx} {r : R2} {ta tb : TE} {A C : Pr} {σ : L2.St} {h H : Hp} {Q : VK} (a : T Γ ta A) (c : T Γ tb C) (x : En Γ σ h) (e : Ex h H) (k : ∀ u v h2 H2, Stp h H h2 H2 → A.p u h2 → C.p v h2 → r u v H2 Q) : tOp r ta tb σ H Q :=
  a σ h H x e _ fun u h1 H1 s1 q1 => c σ h1 H1 (x.mono s1.s) s1.i _ fun v h2 H2 s2 q2 => k u v h2 H2 (s1.trans s2) (A.mono s2.s q1) q2
end Z

namespace Z
open PySem L2
theorem Stp.out {h H : Hp} {p : Addr} {o : HO} (x : Ex h H) (n : H p = none) : Stp h H h (upd H p o) :=
  ⟨fun b u q => by rw [upd_ne (ne_of_none q n)]; exact q, fun _ _ q => q, fun b u q => by rw [upd_ne (ne_of_none (x b u q) n)]; exact x b u q, fun _ _ _ z => z⟩
theorem En.blur {Γ : Ctx} {σ : St} {h : Hp} {v : Option V} (x : En Γ σ h) (i : Nat) : En (Γ.set i none) (σ.set i v) h := by
  refine ⟨by rw [List.length_set, List.length_set]; exact x.len, fun j R e => ?_⟩
  by_cases c : i = j
  · subst c
    have hl : i < Γ.length := by
      have := (List.getElem?_eq_some_iff.mp e).1
      rw [List.length_set] at this; exact this
    rw [List.getElem?_set_self hl] at e
    cases e
  · rw [List.getElem?_set_ne c] at e
    obtain ⟨u, a, b⟩ := x.at_ j R e
    exact ⟨u, by rw [List.getElem?_set_ne c]; exact a, b⟩
section
variable {K : PySem.W.Frag} {b : Bs} {Γ : Ctx} {ta tc td te : TE} {tr : TA} {A C E P R : Pr} {Dd : Ends} {tz : TS}
/-- a, x, c, d = .., [], .., .. : x is to be changed -/
theorem qm_new4 {i j k l : Nat} (a : T Γ ta A) (c : T Γ tc C) (d : T Γ td E) (kk : Nx b ((((Γ.set i (some A)).set j none).set k (some C)).set l (some E)) (some (j, Ct.lst [])) (tz Dd)) (hl : j < Γ.length := by decide) (hk : k ≠ j := by decide) (hl2 : l ≠ j := by decide) :
    Nx b Γ none (tSeq (tAsg (tTup (tCons ta (tCons (tLst tNil) (tCons tc (tCons td tNil))))) (gTup K 4 (gCons (gName i) (gCons (gName j) (gCons (gName k) (gCons (gName l) gNil)))))) tz Dd) := fun σ h H x s m => a σ h H x s.st.i _ fun v1 h1 H1 s1 q1 => by
  refine ⟨by simp [sizeLine], fun p np => ?_⟩
  have o1 := Stp.out (o := .lst []) s1.i np
  have n1 : h1 p = none := by
    cases z : h1 p with
    | none => rfl
    | some o => rw [s1.i p o z] at np; cases np
  refine c σ h1 _ (x.mono s1.s) o1.i _ fun v3 h2 H2 s2 q3 => ?_
  have n2 := s2.f p _ upd_same n1
  have p2 := s2.e p _ upd_same
  refine d σ h2 H2 (x.mono (s1.trans (o1.trans s2)).s) s2.i _ fun v4 h3 H3 s3 q4 => ?_
  have n3 := s3.f p _ p2 n2
  have p3 := s3.e p _ p2
  refine ⟨by simp [sizeLine], fun t nt => ?_⟩
  have o3 := Stp.out (o := .tup [v1, .ref p, v3, v4]) s3.i nt
  have st := (s1.trans (o1.trans (s2.trans (s3.trans o3))))
  have pt : p ≠ t := fun z => by subst z; rw [p3] at nt; cases nt
  refine ⟨t, _, rfl, .inl (.inl upd_same), rfl, _, _, rfl, _, _, rfl, _, _, rfl, _, _, rfl, rfl, ?_⟩
  have n0 : b.H0 p = none := by
    cases z : b.H0 p with
    | none => rfl
    | some o => rw [(s.st.trans s1).e p o z] at np; cases np
  refine kk _ h3 _ (((((x.mono st.s).set i (A.mono (s2.trans s3).s q1)).blur j).set k (C.mono s3.s q3)).set l q4) (s.go st) ⟨p, .lst [], ?_, n3, n0, by rw [upd_ne pt]; exact p3, [], rfl, .nil⟩
  rw [List.getElem?_set_ne hl2, List.getElem?_set_ne hk, List.getElem?_set_self (by rw [List.length_set, x.len]; exact hl)]
theorem t_lI {ns : List Int} (a : T Γ te (L K (ns.map fun n => I K n))) : T Γ te (D K (dI ns)) := t_weak a fun v h q => l_data (by rw [List.map_map]; exact q)
end
end Z
namespace Z
open PySem L2
section
variable {K : PySem.W.Frag} {b : Bs} {Γ : Ctx} {ta tc td te : TE} {tr : TA} {A C E P R : Pr} {Dd : Ends} {tz : TS}
theorem opp_inl {r r' : R2} (h : OpP r A C P) : OpP (fun x y H Q => r x y H Q ∨ r' x y H Q) A C P := fun x y h0 H a c e Q k => .inl (h x y h0 H a c e Q k)
theorem opp_inr {r r' : R2} (h : OpP r' A C P) : OpP (fun x y H Q => r x y H Q ∨ r' x y H Q) A C P := fun x y h0 H a c e Q k => .inr (h x y h0 H a c e Q k)
theorem opp_ixSL {ds : List PyData} {i : Int} {d : PyData} (q : atI ds i = some d) : OpP (rIx K) (D K (.list ds)) (I K i) (D K d) := opp_inl (opp_ixL q)
theorem opp_ixST {ds : List PyData} {i : Int} {d : PyData} (q : atI ds i = some d) : OpP (rIx K) (D K (.tuple ds)) (I K i) (D K d) := opp_inr (opp_inl (opp_ixT q))
theorem opp_isF {d : PyData} (hd : ∀ h v, Dq K h v d → v ≠ .non) : OpP (fun x y H Q => y = .non ∧ Q (.bl (decide (x = .non))) H) (D K d) (D K .none) (B K false) := fun x y h H a c e Q k => by
  refine ⟨dp_non c, ?_⟩
  rw [decide_eq_false (hd _ _ a)]
  exact k _ h H (Stp.refl e) (.bl _)
theorem opp_neB {a c : Bool} : OpP rNe (B K a) (B K c) (B K (!decide (a = c))) := fun x y h H p q z Q k => by
  rw [dp_bl p, dp_bl q]
  refine ⟨rfl, ?_⟩
  have e : decide (V.bl a = V.bl c) = decide (a = c) := by cases a <;> cases c <;> simp
  rw [e]
  exact k _ h H (Stp.refl z) (.bl _)
theorem opp_eqB {a c : Bool} : OpP rEq (B K a) (B K c) (B K (decide (a = c))) := fun x y h H p q z Q k => by
  rw [dp_bl p, dp_bl q]
  refine ⟨rfl, ?_⟩
  have e : decide (V.bl a = V.bl c) = decide (a = c) := by cases a <;> cases c <;> simp
  rw [e]
  exact k _ h H (Stp.refl z) (.bl _)
theorem fnp_all {bs : List Bool} : FnP (rAll K) [D K (.list (bs.map PyData.bool))] (B K (bs.all id)) := fun vs h H q e Q k => by
  cases q with
  | cons a q =>
    cases q
    obtain ⟨p, xs, rfl, s, z⟩ := dp_lst a
    have go : ∀ (bs : List Bool) (xs : List V), DqAll K h xs (bs.map PyData.bool) → xs = bs.map V.bl := by
      intro bs
      induction bs with
      | nil => intro xs q; cases q; rfl
      | cons b bs ih =>
        intro xs q
        cases q with
        | cons a q => rw [dp_bl a, ih _ q]; rfl
    rw [go bs xs z] at s
    exact ⟨p, bs, rfl, .inl (.inl (e _ _ s)), k _ h H (Stp.refl e) (.bl _)⟩
theorem fx_false {P : Program} {w : World} {mg : Str → Option Value} {base : Heap} {x : Str} {st : Stmt} {ps : List Str} {sp : Sp} (d : Dn K mg x st ps) (hf : ∀ vs H Q E, ¬ sp vs H Q E) : Fx P w K mg base 0 x sp := by
  obtain ⟨f, fd, F, hm, hb⟩ := d.ex
  exact ⟨f, hm, F.kp, fun A outer s H us vs Q E hr e0 r h => absurd h (hf _ _ _ _)⟩
/-- whole numbers in lists and tuples, less than n deep -/
inductive Eqd : Nat → PyData → Prop
  | int {n : Nat} (i : Int) : Eqd (n + 1) (.int i)
  | lst {n : Nat} {ds : List PyData} : ds.length ≤ 50000 → (∀ (i : Nat) d, ds[i]? = some d → Eqd n d) → Eqd (n + 1) (.list ds)
  | tup {n : Nat} {ds : List PyData} : ds.length ≤ 50000 → (∀ (i : Nat) d, ds[i]? = some d → Eqd n d) → Eqd (n + 1) (.tuple ds)
theorem eqd_ints {n : Nat} {ns : List Int} : ∀ (i : Nat) d, (ns.map PyData.int)[i]? = some d → Eqd (n + 1) d := fun i d h => by
  rw [List.getElem?_map] at h
  cases e : ns[i]? with
  | none => rw [e] at h; cases h
  | some z =>
    rw [e] at h
    rw [← Option.some.inj h]
    exact .int z
abbrev spEqu (K : PySem.W.Frag) (n : Nat) : Sp := Sv (fun d : PyData => [D K d, D K d]) (fun d => Eqd n d) (fun _ => B K true)
theorem all_rep : ∀ n, (List.replicate n true).all id = true
  | 0 => rfl
  | n + 1 => by rw [List.replicate_succ]; exact all_rep n
theorem atI_get {α : Type} {xs : List α} {i : Nat} {x : α} (h : xs[i]? = some x) : atI xs (i : Int) = some x := by
  unfold atI
  rw [Evl.ixN_nat (List.getElem?_eq_some_iff.mp h).1]
  exact h
end
end Z

namespace Z
open PySem L2
section
variable {P : Program} {w : World} {K : PySem.W.Frag} {mg : Str → Option Value} {base : Heap}
theorem fun_sv {α : Type _} {args : α → List Pr} {pre : α → Prop} {res : α → Pr} {m qual : Str} {st : Stmt} {ps N : List Str} {k : Nat} {f : Addr} {fd : FuncData} (F : L2.Fun K m qual st f fd) (S : FnScope N ps (defScope st)) (hn : ∀ a, (args a).length = ps.length)
    (ht : ∀ (cdv : Value) (A : Around) (outer : List Env) (s : Shared) (H : Hp) (E : XK), Room k (A.deeper (PyProof.Rows.envOfC qual (defScope st) s.heap.objs.size f cdv)) → ∃ t : TS, PSs (cxOf CX0 P w K mg base N qual (defScope st) f cdv A outer s H E).nox (defBody st) t ∧
      ∀ (a : α) (b : Bs), pre a → ∀ (Q : VK), (∀ v h H, Stp b.h0 b.H0 h H → (res a).p v h → Q v H) → Nx b ((args a).map some ++ List.replicate (N.length - ps.length) none) none (t { nx := fun _ H' => Q .non H', rt := Q })) :
    FnOk P w K mg base CX0 (k + 1) f fd ps (Sv args pre res) := by
  refine F.ok S (Sv.len hn) fun cdv A outer s H vs Q E hr h => ?_
  obtain ⟨t, ht, hb⟩ := ht cdv A outer s H E hr
  refine ⟨t, ht, ?_⟩
  obtain ⟨a, h, e, q, p, kk⟩ := h
  exact hb a ⟨h, H, h⟩ p Q (fun v h' H' st z => kk v h' H' st z) _ h H (en_start hn q) ⟨Stp.refl e, fun _ _ q => q⟩ trivial
theorem walk_sv {l : PySem.W.OpenLaw} {k : Nat} {q : Program} {loose : List Str} {XP : (Str → Option Value) → Heap → Prop} {YP : World → Heap → Prop} {d : DefRec} {K : Params → PySem.W.Frag} (hn : l.most = some 63) (hdf : d.params.defaults = []) (hr : Room k callerA)
    (hY : ∀ (w : World) (h : Heap), YP w h → (K w.params).In h)
    (F : ∀ (w : World) (mg : Str → Option Value) (fa : Addr) (h : Heap), (K w.params).In h → h.Ns mainGlobals mg → mg d.name = some (.ref fa) →
      ∃ fd : FuncData, (∀ (s : Shared) (u : Value), BindsTo s fd ⟨[u], []⟩ [("_law_script", u)]) ∧ ∀ base : Heap, (K w.params).In base → base.Ns mainGlobals mg → FnOk l.prog w (K w.params) mg base CX0 k fa fd ["_law_script"] (Sv (fun ns : List Int => [Scr (K w.params) ns]) (fun ns => ns.length ≤ 63) (fun _ => B (K w.params) true))) :
    PySem.W.WalkO q loose XP YP l.row.toRowW d [] (fun f vs => PySem.call f vs) :=
  L2.walk_of (n := 63) (k := k) (x := "_law_script") (CX := fun _ => CX0) (sp := fun w => Sv (fun ns : List Int => [Scr (K w.params) ns]) (fun ns => ns.length ≤ 63) (fun _ => B (K w.params) true)) hn (by decide) hdf hr hY F
    (fun _ H a ns hl _ hS => ⟨ns, H, fun _ _ e => e, .cons ⟨a, rfl, hS⟩ .nil, hl, fun v h' H' s q => dp_bl q⟩) fun _ _ _ _ _ z => z
end
end Z
namespace Z
open PySem L2
section
variable {K : PySem.W.Frag} {b : Bs} {Γ : Ctx} {ta tc td te : TE} {tr : TA} {t : TT} {A C E P R : Pr} {Dd : Ends} {tz : TS}
/-- [te for x in range(lo, hi) if t] -/
theorem t_lcR2 {j : Nat} {lo hi : Int} {φ : Nat → Bool → Prop} (G : Nat → List Pr → Prop) (a : TAs Γ tr [I K lo, I K hi]) (hn : -1000000 ≤ lo ∧ hi ≤ 1000000 ∧ lo ≤ 1000000 ∧ -1000000 ≤ hi ∧ hi - lo ≤ 50000) (g0 : G 0 []) (hz : ∀ i Ps, G i Ps → Ps.length ≤ i)
    (ht : ∀ i : Nat, (i : Int) < hi - lo → TB ((wpΓ Γ [j]).set j (some (I K (lo + (i : Int))))) t (φ i))
    (hy : ∀ i : Nat, (i : Int) < hi - lo → φ i true → ∀ Ps, G i Ps → ∃ (α : Type) (f : α → Pr), T ((wpΓ Γ [j]).set j (some (I K (lo + (i : Int))))) te (Pr.some f) ∧ ∀ a, G (i + 1) (Ps ++ [f a]))
    (hno : ∀ i : Nat, (i : Int) < hi - lo → φ i false → ∀ Ps, G i Ps → G (i + 1) Ps) : T Γ (tLc (iRng2 tr) (gName j) t te [j]) (Pr.some fun Ps : { Ps // G (hi - lo).toNat Ps } => L K Ps.1) := fun σ h H x e Q k => a σ h H x e _ fun vs h1 H1 s1 q => by
  cases q with
  | cons a1 q =>
    cases q with
    | cons a2 q =>
      cases q
      rw [dp_int a1, dp_int a2]
      refine ⟨lo, hi, rfl, ⟨by omega, by omega, by omega, by omega⟩, fun Dl hD => ?_⟩
      refine lc_range (lo := lo) (n := (hi - lo).toNat) (Lw h1 H1 G Dl) (lw_start s1.i hD g0) (fun i H' hi' p => ?_) (fun H' p => ?_)
      · exact ⟨wipe1, lc_turn p hD (fun Ps g => by have := hz i Ps g; omega) (fun h2 e2 => ((x.mono s1.s).mono e2).wp [j] |>.set j (show (I K (lo + (i : Int))).p (.int (lo + (i : Int))) _ from Dq.int _)) (ht i (by omega)) (hy i (by omega)) (hno i (by omega))⟩
      · obtain ⟨h', Ps, g, st, q⟩ := lw_end (K := K) p hD s1.i
        exact k _ h' H' (s1.trans st) ⟨⟨Ps, g⟩, q⟩
theorem fnp_intB {c : Bool} : FnP (fun xs H Q => (∃ i, xs = [.int i] ∧ Q (.int i) H) ∨ ∃ k, xs = [.bl k] ∧ Q (.int (if k = true then 1 else 0)) H) [B K c] (I K (if c = true then 1 else 0)) := fun vs h H q e Q k => by
  cases q with
  | cons a q =>
    cases q
    rw [dp_bl a]
    exact .inr ⟨c, rfl, k _ h H (Stp.refl e) (.int _)⟩
/-- lists of lists of whole numbers -/
abbrev dII (rs : List (List Int)) : PyData := .list (rs.map fun r => dI r)
theorem shaped_nil : SeqAt.shaped (.list []) = true := by decide
theorem t_eqP {P' : Pr} (a : T Γ te P) (e : P = P') : T Γ te P' := e ▸ a
end
end Z

namespace Z
open PySem L2
section
variable {K : PySem.W.Frag} {b : Bs} {Γ Γ' : Ctx} {μ : Mo} {te ta tb : TE} {t : TT} {P R : Pr} {Dd : Ends} {tu tw tz : TS} {ff : St → Hp → Prop} {rr : VK} {bb cc : St → Hp → Prop}
/-- for x in a list of data; what was known before stays known -/
theorem n_forLk {γ : Type _} {A : Pr} {tl : TE} {j : Nat} {ds : List PyData} (G : Nat → γ → Prop) (Γi : Nat → γ → Ctx) (μi : Nat → γ → Mo) (g0 : γ) (hA : IsL K A ds) (a : T Γ tl A) (q0 : G 0 g0) (l0 : Le Γ (Γi 0 g0))
    (hs : ∀ (hb : Hp), Ex b.hb hb → ∀ (i : Nat) (d : PyData) (g : γ), ds[i]? = some d → G i g → Nx ⟨b.h0, b.H0, hb⟩ ((Γi i g).set j (some (D K d))) (μi i g) (tu ⟨Pv ⟨b.h0, b.H0, hb⟩ G Γi μi (i + 1), rr, ff, Pv ⟨b.h0, b.H0, hb⟩ G Γi μi (i + 1)⟩))
    (hd : ∀ (hb : Hp), Ex b.hb hb → ∀ g, G ds.length g → Nx ⟨b.h0, b.H0, hb⟩ (Γi ds.length g) (μi ds.length g) ff) (hm : μ = μi 0 g0 := by rfl) (hj : ∀ i g, mok (μi i g) j = true := by intros; rfl) : Nx b Γ μ (tFor (iList K tl) (gName j) tu ⟨ff, rr, bb, cc⟩) := fun σ h H x s m => a σ h H x s.st.i _ fun v h1 H1 s1 q => by
  obtain ⟨p, xs, rfl, sq, dp⟩ := hA _ _ q
  subst hm
  have muI : ∀ {μ : Mo} {σ : St} {h H : Hp}, Mu b μ σ h H → Mu ⟨b.h0, b.H0, h1⟩ μ σ h H := fun {μ σ h H} m => by
    cases μ with
    | none => trivial
    | some p =>
      obtain ⟨l, o, m⟩ := m
      exact ⟨l, o, m.at_, m.nh, m.n0, m.oH, m.ct⟩
  refine ⟨p, rfl, ⟨xs, sqL_ex s1.i sq⟩, for_list (K := K) (a := p) (xs := xs) (Pv ⟨b.h0, b.H0, h1⟩ G Γi μi) ⟨g0, h1, q0, (x.mono s1.s).le l0, ⟨(s.go s1).st, fun _ _ q => q⟩, muI (m.go s1)⟩ (fun i σ' H' hi p => ?_) (fun i y σ' H' hi p => ?_) (fun σ' H' p => ?_)⟩
  · obtain ⟨g, h', q, x', s', m'⟩ := p
    exact sqL_ex s'.st.i (sqL_ex s'.kn sq)
  · obtain ⟨g, h', q, x', s', m'⟩ := p
    obtain ⟨d, hd', dd⟩ := dpa_get' dp hi
    exact hs h1 (s.go s1).kn i d g hd' q _ h' H' (x'.set j (dp_ex s'.kn dd)) s' (m'.set (hj i g))
  · obtain ⟨g, h', q, x', s', m'⟩ := p
    rw [dpa_len dp] at q x' m'
    exact hd h1 (s.go s1).kn g q σ' h' H' x' s' m'

theorem Mu.reb {b b' : Bs} {μ : Mo} {σ : St} {h H : Hp} (m : Mu b μ σ h H) (e : b.H0 = b'.H0) : Mu b' μ σ h H := by
  cases μ with
  | none => trivial
  | some p =>
    obtain ⟨l, o, m⟩ := m
    exact ⟨l, o, m.at_, m.nh, by rw [← e]; exact m.n0, m.oH, m.ct⟩
/-- back to what was known before -/
theorem n_back {hb : Hp} {F : St → Hp → Prop} (hk : Ex b.hb hb) (k : Nx b Γ μ F) : Nx ⟨b.h0, b.H0, hb⟩ Γ μ F := fun σ h H x s m => k σ h H x ⟨s.st, fun a o q => s.kn a o (hk a o q)⟩ (m.reb rfl)
end
end Z

namespace Z
open PySem L2
/-! ### tuples gone over, pairs, zip -/
/-- what is read as a tuple of data -/
def IsT (K : PySem.W.Frag) (A : Pr) (ds : List PyData) : Prop := ∀ v h, A.p v h → ∃ a xs, v = .ref a ∧ SqT K h a xs ∧ DqAll K h xs ds
theorem isT_D {K : PySem.W.Frag} {ds : List PyData} : IsT K (D K (.tuple ds)) ds := fun v h q => dp_tup q
theorem pr_get {prs : List (PyData × PyData)} {i : Nat} {d : PyData} (h : (prs.map fun p => PyData.tuple [p.1, p.2])[i]? = some d) : ∃ p, prs[i]? = some p ∧ d = .tuple [p.1, p.2] := by
  rw [List.getElem?_map] at h
  cases e : prs[i]? with
  | none => rw [e] at h; cases h
  | some p => rw [e] at h; exact ⟨p, rfl, (Option.some.inj h).symm⟩
theorem dp_pair {K : PySem.W.Frag} {h : Hp} {v : V} {d e : PyData} (q : Dq K h v (.tuple [d, e])) : ∃ a u1 u2, v = .ref a ∧ SqT K h a [u1, u2] ∧ Dq K h u1 d ∧ Dq K h u2 e := by
  obtain ⟨a, xs, rfl, s, z⟩ := dp_tup q
  cases z with
  | cons d1 z =>
    cases z with
    | cons d2 z =>
      cases z
      exact ⟨a, _, _, rfl, s, d1, d2⟩
theorem wipe2 {σ : St} {j l : Nat} {x y : V} (h : j ≠ l) : wipe (((wipe σ [j, l]).set j (some x)).set l (some y)) [j, l] = wipe σ [j, l] := by
  show ((((((σ.set l none).set j none).set j (some x)).set l (some y)).set l none).set j none) = (σ.set l none).set j none
  rw [List.set_set, List.set_set, List.set_comm _ _ h, List.set_set, List.set_set]
theorem lw_kn {h0 H0 : Hp} {G : Nat → List Pr → Prop} {Dl : Addr} {i : Nat} {H' : Hp} (p : Lw h0 H0 G Dl i H') : Ex h0 H' := by
  obtain ⟨h, Ps, vs, g, hv, hl, hn', st⟩ := p.ex
  intro a o e
  have z' : (if a = Dl then none else H' a) = some o := st.i _ _ (st.s _ _ e)
  by_cases c : a = Dl
  · rw [if_pos c] at z'; cases z'
  · rw [if_neg c] at z'; exact z'
theorem lw_out {h0 H0 : Hp} {G : Nat → List Pr → Prop} {Dl : Addr} {i : Nat} {H' : Hp} {T : Addr} {o : HO} (p : Lw h0 H0 G Dl i H') (n : H' T = none) : Lw h0 H0 G Dl i (upd H' T o) := by
  obtain ⟨h, Ps, vs, g, hv, hl, hn', st⟩ := p.ex
  have ne : ∀ {a o}, (if a = Dl then none else H' a) = some o → a ≠ T := fun {a o} e c => by
    subst c
    by_cases c2 : a = Dl
    · rw [if_pos c2] at e; cases e
    · rw [if_neg c2, n] at e; cases e
  refine ⟨h, Ps, vs, g, hv, by rw [upd_ne (ne_of_none hl n)]; exact hl, hn', fun a o e => ?_, st.s, fun a o e => ?_, st.f⟩
  · have z := st.e a o e
    have z' : (if a = Dl then none else H' a) = some o := z
    show (if a = Dl then none else upd H' T _ a) = some o
    rw [upd_ne (ne z')]; exact z'
  · have z' : (if a = Dl then none else H' a) = some o := st.i a o e
    show (if a = Dl then none else upd H' T _ a) = some o
    rw [upd_ne (ne z')]; exact z'
section
variable {K : PySem.W.Frag} {b : Bs} {Γ Γ' : Ctx} {μ : Mo} {te ta tb : TE} {t : TT} {P R : Pr} {Dd : Ends} {tu tw tz : TS} {ff : St → Hp → Prop} {rr : VK} {bb cc : St → Hp → Prop}
theorem n_forTk {γ : Type _} {A : Pr} {tl : TE} {j : Nat} {ds : List PyData} (G : Nat → γ → Prop) (Γi : Nat → γ → Ctx) (μi : Nat → γ → Mo) (g0 : γ) (hA : IsT K A ds) (a : T Γ tl A) (q0 : G 0 g0) (l0 : Le Γ (Γi 0 g0))
    (hs : ∀ (hb : Hp), Ex b.hb hb → ∀ (i : Nat) (d : PyData) (g : γ), ds[i]? = some d → G i g → Nx ⟨b.h0, b.H0, hb⟩ ((Γi i g).set j (some (D K d))) (μi i g) (tu ⟨Pv ⟨b.h0, b.H0, hb⟩ G Γi μi (i + 1), rr, ff, Pv ⟨b.h0, b.H0, hb⟩ G Γi μi (i + 1)⟩))
    (hd : ∀ (hb : Hp), Ex b.hb hb → ∀ g, G ds.length g → Nx ⟨b.h0, b.H0, hb⟩ (Γi ds.length g) (μi ds.length g) ff) (hm : μ = μi 0 g0 := by rfl) (hj : ∀ i g, mok (μi i g) j = true := by intros; rfl) : Nx b Γ μ (tFor (iTup K tl) (gName j) tu ⟨ff, rr, bb, cc⟩) := fun σ h H x s m => a σ h H x s.st.i _ fun v h1 H1 s1 q => by
  obtain ⟨p, xs, rfl, sq, dp⟩ := hA _ _ q
  subst hm
  have muI : ∀ {μ : Mo} {σ : St} {h H : Hp}, Mu b μ σ h H → Mu ⟨b.h0, b.H0, h1⟩ μ σ h H := fun {μ σ h H} m => by
    cases μ with
    | none => trivial
    | some p =>
      obtain ⟨l, o, m⟩ := m
      exact ⟨l, o, m.at_, m.nh, m.n0, m.oH, m.ct⟩
  refine ⟨p, rfl, ⟨xs, sqT_ex s1.i sq⟩, for_tup (K := K) (a := p) (xs := xs) (Pv ⟨b.h0, b.H0, h1⟩ G Γi μi) ⟨g0, h1, q0, (x.mono s1.s).le l0, ⟨(s.go s1).st, fun _ _ q => q⟩, muI (m.go s1)⟩ (fun i σ' H' hi p => ?_) (fun i y σ' H' hi p => ?_) (fun σ' H' p => ?_)⟩
  · obtain ⟨g, h', q, x', s', m'⟩ := p
    exact sqT_ex s'.st.i (sqT_ex s'.kn sq)
  · obtain ⟨g, h', q, x', s', m'⟩ := p
    obtain ⟨d, hd', dd⟩ := dpa_get' dp hi
    exact hs h1 (s.go s1).kn i d g hd' q _ h' H' (x'.set j (dp_ex s'.kn dd)) s' (m'.set (hj i g))
  · obtain ⟨g, h', q, x', s', m'⟩ := p
    rw [dpa_len dp] at q x' m'
    exact hd h1 (s.go s1).kn g q σ' h' H' x' s' m'

theorem n_forT2k {γ : Type _} {A : Pr} {tl : TE} {j l : Nat} {prs : List (PyData × PyData)} (G : Nat → γ → Prop) (Γi : Nat → γ → Ctx) (μi : Nat → γ → Mo) (g0 : γ) (hA : IsT K A (prs.map fun p => .tuple [p.1, p.2])) (a : T Γ tl A) (q0 : G 0 g0) (l0 : Le Γ (Γi 0 g0))
    (hs : ∀ (hb : Hp), Ex b.hb hb → ∀ (i : Nat) (p : PyData × PyData) (g : γ), prs[i]? = some p → G i g → Nx ⟨b.h0, b.H0, hb⟩ (((Γi i g).set j (some (D K p.1))).set l (some (D K p.2))) (μi i g) (tu ⟨Pv ⟨b.h0, b.H0, hb⟩ G Γi μi (i + 1), rr, ff, Pv ⟨b.h0, b.H0, hb⟩ G Γi μi (i + 1)⟩))
    (hd : ∀ (hb : Hp), Ex b.hb hb → ∀ g, G prs.length g → Nx ⟨b.h0, b.H0, hb⟩ (Γi prs.length g) (μi prs.length g) ff) (hm : μ = μi 0 g0 := by rfl) (hj : ∀ i g, mok (μi i g) j = true := by intros; rfl) (hl : ∀ i g, mok (μi i g) l = true := by intros; rfl) : Nx b Γ μ (tFor (iTup K tl) (gTup K 2 (gCons (gName j) (gCons (gName l) gNil))) tu ⟨ff, rr, bb, cc⟩) := fun σ h H x s m => a σ h H x s.st.i _ fun v h1 H1 s1 q => by
  obtain ⟨p, xs, rfl, sq, dp⟩ := hA _ _ q
  subst hm
  have muI : ∀ {μ : Mo} {σ : St} {h H : Hp}, Mu b μ σ h H → Mu ⟨b.h0, b.H0, h1⟩ μ σ h H := fun {μ σ h H} m => by
    cases μ with
    | none => trivial
    | some p =>
      obtain ⟨l, o, m⟩ := m
      exact ⟨l, o, m.at_, m.nh, m.n0, m.oH, m.ct⟩
  refine ⟨p, rfl, ⟨xs, sqT_ex s1.i sq⟩, for_tup (K := K) (a := p) (xs := xs) (Pv ⟨b.h0, b.H0, h1⟩ G Γi μi) ⟨g0, h1, q0, (x.mono s1.s).le l0, ⟨(s.go s1).st, fun _ _ q => q⟩, muI (m.go s1)⟩ (fun i σ' H' hi p => ?_) (fun i y σ' H' hi p => ?_) (fun σ' H' p => ?_)⟩
  · obtain ⟨g, h', q, x', s', m'⟩ := p
    exact sqT_ex s'.st.i (sqT_ex s'.kn sq)
  · obtain ⟨g, h', q, x', s', m'⟩ := p
    obtain ⟨d, hd', dd⟩ := dpa_get' dp hi
    obtain ⟨pr, hpr, rfl⟩ := pr_get hd'
    obtain ⟨ad, u1, u2, rfl, st, d1, d2⟩ := dp_pair (dp_ex s'.kn dd)
    refine ⟨ad, [u1, u2], rfl, sqT_ex s'.st.i st, rfl, u1, [u2], rfl, u2, [], rfl, rfl, ?_⟩
    exact hs h1 (s.go s1).kn i pr g hpr q _ h' H' ((x'.set j d1).set l d2) s' ((m'.set (hj i g)).set (hl i g))
  · obtain ⟨g, h', q, x', s', m'⟩ := p
    rw [dpa_len dp, List.length_map] at q x' m'
    exact hd h1 (s.go s1).kn g q σ' h' H' x' s' m'

theorem t_lcT {A : Pr} {tl : TE} {j : Nat} {ds : List PyData} {φ : Nat → Bool → Prop} (G : Nat → List Pr → Prop) (hA : IsT K A ds) (a : T Γ tl A) (hn : ds.length ≤ 50000) (g0 : G 0 []) (hz : ∀ i Ps, G i Ps → Ps.length ≤ i)
    (ht : ∀ (i : Nat) d, ds[i]? = some d → TB ((wpΓ Γ [j]).set j (some (D K d))) t (φ i))
    (hy : ∀ (i : Nat) d, ds[i]? = some d → φ i true → ∀ Ps, G i Ps → ∃ (α : Type) (f : α → Pr), T ((wpΓ Γ [j]).set j (some (D K d))) te (Pr.some f) ∧ ∀ a, G (i + 1) (Ps ++ [f a]))
    (hno : ∀ (i : Nat) d, ds[i]? = some d → φ i false → ∀ Ps, G i Ps → G (i + 1) Ps) : T Γ (tLc (iTup K tl) (gName j) t te [j]) (Pr.some fun Ps : { Ps // G ds.length Ps } => L K Ps.1) := fun σ h H x e Q k => a σ h H x e _ fun v h1 H1 s1 q => by
  obtain ⟨ad, xs, rfl, sq, dp⟩ := hA _ _ q
  refine ⟨ad, rfl, ⟨xs, sqT_ex s1.i sq⟩, fun Dl hD => ?_⟩
  refine lc_tup (K := K) (a := ad) (xs := xs) (Lw h1 H1 G Dl) (lw_start s1.i hD g0) (fun i H' hi p => ?_) (fun i y H' hi p => ?_) (fun H' p => ?_)
  · obtain ⟨h, Ps, vs, g, hv, hl, hn', st⟩ := p.ex
    refine sqT_ex (h := h) (fun a o e => ?_) (sqT_ex st.s sq)
    have z' : (if a = Dl then none else H' a) = some o := st.i _ _ e
    by_cases c : a = Dl
    · rw [if_pos c] at z'; cases z'
    · rw [if_neg c] at z'; exact z'
  · obtain ⟨d, hd', dd⟩ := dpa_get' dp hi
    have hi' := (List.getElem?_eq_some_iff.mp hd').1
    exact ⟨wipe1, lc_turn p hD (fun Ps g => by have := hz i Ps g; omega) (fun h2 e2 => ((x.mono s1.s).mono e2).wp [j] |>.set j (dp_ex e2 dd)) (ht i d hd') (hy i d hd') (hno i d hd')⟩
  · rw [dpa_len dp] at p
    obtain ⟨h', Ps, g, st, q⟩ := lw_end (K := K) p hD s1.i
    exact k _ h' H' (s1.trans st) ⟨⟨Ps, g⟩, q⟩
theorem t_lcT2 {A : Pr} {tl : TE} {j l : Nat} {prs : List (PyData × PyData)} {φ : Nat → Bool → Prop} (G : Nat → List Pr → Prop) (hA : IsT K A (prs.map fun p => .tuple [p.1, p.2])) (a : T Γ tl A) (hn : prs.length ≤ 50000) (g0 : G 0 []) (hz : ∀ i Ps, G i Ps → Ps.length ≤ i)
    (ht : ∀ (i : Nat) p, prs[i]? = some p → TB (((wpΓ Γ [j, l]).set j (some (D K p.1))).set l (some (D K p.2))) t (φ i))
    (hy : ∀ (i : Nat) p, prs[i]? = some p → φ i true → ∀ Ps, G i Ps → ∃ (α : Type) (f : α → Pr), T (((wpΓ Γ [j, l]).set j (some (D K p.1))).set l (some (D K p.2))) te (Pr.some f) ∧ ∀ a, G (i + 1) (Ps ++ [f a]))
    (hno : ∀ (i : Nat) p, prs[i]? = some p → φ i false → ∀ Ps, G i Ps → G (i + 1) Ps) (hjl : j ≠ l := by decide) : T Γ (tLc (iTup K tl) (gTup K 2 (gCons (gName j) (gCons (gName l) gNil))) t te [j, l]) (Pr.some fun Ps : { Ps // G prs.length Ps } => L K Ps.1) := fun σ h H x e Q k => a σ h H x e _ fun v h1 H1 s1 q => by
  obtain ⟨ad, xs, rfl, sq, dp⟩ := hA _ _ q
  refine ⟨ad, rfl, ⟨xs, sqT_ex s1.i sq⟩, fun Dl hD => ?_⟩
  refine lc_tup (K := K) (a := ad) (xs := xs) (Lw h1 H1 G Dl) (lw_start s1.i hD g0) (fun i H' hi p => ?_) (fun i y H' hi p => ?_) (fun H' p => ?_)
  · obtain ⟨h, Ps, vs, g, hv, hl, hn', st⟩ := p.ex
    refine sqT_ex (h := h) (fun a o e => ?_) (sqT_ex st.s sq)
    have z' : (if a = Dl then none else H' a) = some o := st.i _ _ e
    by_cases c : a = Dl
    · rw [if_pos c] at z'; cases z'
    · rw [if_neg c] at z'; exact z'
  · obtain ⟨d, hd', dd⟩ := dpa_get' dp hi
    obtain ⟨pr, hpr, rfl⟩ := pr_get hd'
    have hi' := (List.getElem?_eq_some_iff.mp hpr).1
    have hh1 : Ex h1 H' := lw_kn p
    obtain ⟨ta, u1, u2, rfl, st, d1, d2⟩ := dp_pair dd
    refine ⟨ta, [u1, u2], rfl, sqT_ex hh1 st, rfl, u1, [u2], rfl, u2, [], rfl, rfl, ?_⟩
    exact ⟨wipe2 hjl, lc_turn p hD (fun Ps g => by have := hz i Ps g; omega) (fun h2 e2 => ((((x.mono s1.s).mono e2).wp [j, l]).set j (dp_ex e2 d1)).set l (dp_ex e2 d2)) (ht i pr hpr) (hy i pr hpr) (hno i pr hpr)⟩
  · rw [dpa_len dp, List.length_map] at p
    obtain ⟨h', Ps, g, st, q⟩ := lw_end (K := K) p hD s1.i
    exact k _ h' H' (s1.trans st) ⟨⟨Ps, g⟩, q⟩

/-- [te for x, y in zip(list, list) if t] -/
theorem t_lcZ {tr : TA} {j l : Nat} {ds es : List PyData} {φ : Nat → Bool → Prop} (G : Nat → List Pr → Prop) (a : TAs Γ tr [D K (.list ds), D K (.list es)]) (hn : ds.length ≤ 50000) (hl : ds.length = es.length) (g0 : G 0 []) (hz : ∀ i Ps, G i Ps → Ps.length ≤ i)
    (ht : ∀ (i : Nat) d e, ds[i]? = some d → es[i]? = some e → TB (((wpΓ Γ [j, l]).set j (some (D K d))).set l (some (D K e))) t (φ i))
    (hy : ∀ (i : Nat) d e, ds[i]? = some d → es[i]? = some e → φ i true → ∀ Ps, G i Ps → ∃ (α : Type) (f : α → Pr), T (((wpΓ Γ [j, l]).set j (some (D K d))).set l (some (D K e))) te (Pr.some f) ∧ ∀ a, G (i + 1) (Ps ++ [f a]))
    (hno : ∀ (i : Nat) d e, ds[i]? = some d → es[i]? = some e → φ i false → ∀ Ps, G i Ps → G (i + 1) Ps) (hjl : j ≠ l := by decide) : T Γ (tLc (iZip K tr) (gTup K 2 (gCons (gName j) (gCons (gName l) gNil))) t te [j, l]) (Pr.some fun Ps : { Ps // G ds.length Ps } => L K Ps.1) := fun σ h H x e Q k => a σ h H x e _ fun vs h1 H1 s1 q => by
  cases q with
  | cons a1 q =>
    cases q with
    | cons a2 q =>
      cases q
      obtain ⟨ad, xs, rfl, sq, dp⟩ := dp_lst a1
      obtain ⟨ae, ys, rfl, sq2, dp2⟩ := dp_lst a2
      have lx := dpa_len dp
      have ly := dpa_len dp2
      refine ⟨ad, ae, xs, ys, rfl, .inl (.inl (s1.i _ _ sq)), .inl (.inl (s1.i _ _ sq2)), fun Dl hD => ?_⟩
      refine ⟨fun i m H => m = xs.length - i ∧ i ≤ xs.length ∧ Lw h1 H1 G Dl i H, ⟨xs.length, by simp, Nat.zero_le _, lw_start s1.i hD g0⟩, ?_⟩
      rintro i m H' ⟨rfl, hi, p⟩
      have hk := lw_kn p
      have qx : SqL K H' ad xs := .inl (.inl (hk _ _ sq))
      have qy : SqL K H' ae ys := .inl (.inl (hk _ _ sq2))
      by_cases hlt : i < xs.length
      · have hx : xs[i]? = some xs[i] := List.getElem?_eq_getElem hlt
        have hlt2 : i < ys.length := by omega
        have hy' : ys[i]? = some ys[i] := List.getElem?_eq_getElem hlt2
        refine .inr ⟨⟨xs, ys, _, _, qx, qy, hx, hy'⟩, Lw h1 H1 G Dl (i + 1), fun H' p' => ⟨xs.length - (i + 1), by omega, rfl, hlt, p'⟩, fun v H' y => ?_⟩
        obtain ⟨T, x', y', rfl, hT, rfl, f1, f2⟩ := y
        obtain ⟨d, hd', dd⟩ := dpa_get' dp (f1 xs qx)
        obtain ⟨e', he', de⟩ := dpa_get' dp2 (f2 ys qy)
        refine ⟨T, [x', y'], rfl, .inl (.inl upd_same), rfl, x', [y'], rfl, y', [], rfl, rfl, ?_⟩
        exact ⟨wipe2 hjl, lc_turn (lw_out p hT) hD (fun Ps g => by have := hz i Ps g; omega) (fun h2 e2 => ((((x.mono s1.s).mono e2).wp [j, l]).set j (dp_ex e2 dd)).set l (dp_ex e2 de)) (ht i d e' hd' he') (hy i d e' hd' he') (hno i d e' hd' he')⟩
      · have e : i = xs.length := by omega
        subst e
        refine .inl ⟨⟨xs, ys, qx, qy, Or.inl (Nat.le_refl _)⟩, ?_⟩
        rw [lx] at p
        obtain ⟨h', Ps, g, st, q⟩ := lw_end (K := K) p hD s1.i
        exact k _ h' H' (s1.trans st) ⟨⟨Ps, g⟩, q⟩
end
end Z

namespace Z
open PySem L2 PyProof.Rows
/-! ### max of a tuple of whole numbers -/
section
variable {prog : Program} {w : World} {A : Around} {E : Value → Shared → Prop} {s : Shared} {l : Addr} {xs : Array (Int × Tok)}
theorem iter_intTup {Q : Value → Shared → Prop} (hl : s.heap.IsTuple l (intItems xs))
    (h : ∀ s₂ : Shared, s₂ = { s with heap := s.heap.push { cls := .type "tuple_iterator", data := .fields #[.ref l, .int 0 0] } } →
      (s₂.heap.IsTupleIter s.heap.objs.size l 0 ∧ s₂.heap.IsTuple l (intItems xs)) → (∀ b ∈ [s.heap.objs.size, l], b < s₂.heap.objs.size) → l ≠ s.heap.objs.size → Q (.ref s.heap.objs.size) s₂) :
    wpAny (model prog w) A (pyIter (.ref l)) Q E s := by
  have hlt : l < s.heap.objs.size := by obtain ⟨_, e, _⟩ := hl; exact Heap.lt_size e
  refine wpAny_pyIter_tuple hl (h _ rfl ⟨⟨_, Heap.get?_push_size _ rfl, rfl, rfl⟩, hl.push _⟩ (fun b hb => ?_) (Nat.ne_of_lt hlt))
  show b < (s.heap.push _).objs.size
  rw [Heap.size_push]
  rcases List.mem_cons.mp hb with rfl | hb
  · exact Nat.lt_succ_self _
  · rcases List.mem_cons.mp hb with rfl | hb
    · exact Nat.lt_succ_of_lt hlt
    · cases hb
theorem old_keptT {o : Obj} {h' : Heap} (hk : ∀ b o', b ∉ [s.heap.objs.size] → (s.heap.push o).get? b = some o' → h'.get? b = some o') :
    ∀ b o', s.heap.get? b = some o' → h'.get? b = some o' := fun b o' e => by
  refine hk b o' (fun hm => ?_) (Heap.get?_push_of_some _ e)
  rcases List.mem_cons.mp hm with e1 | hm
  · exact absurd (e1 ▸ Heap.lt_size e) (Nat.lt_irrefl _)
  · cases hm
theorem max_intTup {Q : Value → Shared → Prop} (hh : A.handled = none) (hl : s.heap.IsTuple l (intItems xs)) (hne : 0 < xs.size)
    (h : ∀ v h' tk, (intItems xs)[argBest (fun i j => decide (numAt xs i > numAt xs j)) (xs.size - 1)]? = some v → (∀ b o, s.heap.get? b = some o → h'.get? b = some o) → Q v { s with heap := h', toks := tk }) :
    wpAny (model prog w) A (call (.builtin "max") [.ref l]) Q E s := by
  refine call_max_walk (iter_intTup hl fun s₂ e st hfp hlI => ?_)
  subst e
  refine ⟨_, _, _, _, _, _, _, rfl, Walks.tuple (A := A.in1) hh _ l hlI (intItems xs), st, hfp, by simpa [intItems] using hne, CmpOf.ints_gt (numAt xs) (fun _ _ => intItems_at), fun v h' tk hP hk => ?_⟩
  exact h v h' tk (by simpa [intItems] using hP) (old_keptT hk)
theorem max_rawT {its : List Value} {ns : List Int} {Q : Value → Shared → Prop} (hh : A.handled = none) (hl : s.heap.IsTuple l its.toArray) (hi : IntsAre its ns) (hne : 0 < ns.length)
    (h : ∀ h' tk M t', (∀ b o, s.heap.get? b = some o → h'.get? b = some o) → M ∈ ns → (∀ a, a ∈ ns → a ≤ M) → Q (.int M t') { s with heap := h', toks := tk }) : wpAny (model prog w) A (call (.builtin "max") [.ref l]) Q E s := by
  obtain ⟨xs, e⟩ := hi.allInts.items
  have hn : numsOf (intItems xs).toList = ns := by rw [← e]; exact hi.numsOf
  rw [nums_intItems] at hn
  subst hn
  rw [e] at hl
  have hsz : 0 < xs.size := by simpa using hne
  refine max_intTup hh hl hsz fun v h' tk hv hk => ?_
  obtain ⟨t, rfl⟩ := intItems_at hv
  obtain ⟨h1, h2⟩ := argBest_gt (numAt xs) (xs.size - 1)
  refine h h' tk _ t hk ?_ fun a ha => ?_
  · rw [numAt_eq]; exact PySem.getD_mem (by rw [List.length_map, Array.length_toList]; omega)
  · obtain ⟨j, hj, rfl⟩ := mem_getD ha
    rw [List.length_map, Array.length_toList] at hj
    rw [← numAt_eq]; exact h2 j (by omega)
end
def rMaxT (K : PySem.W.Frag) : List V → Hp → VK → Prop := fun vs H Q => ∃ (a : Addr) (ns : List Int), vs = [V.ref a] ∧ SqT K H a (ns.map V.int) ∧ 0 < ns.length ∧ ∀ m, m ∈ ns → (∀ y, y ∈ ns → y ≤ m) → Q (.int m) H
theorem cr_maxT {X : Cx} (hc : X.calm = true) : CallR X (.builtin "max") (rMaxT X.K) := by
  intro pins s σ H vs us Q I r h
  obtain ⟨a, ns, rfl, hs, hne, q⟩ := h
  obtain ⟨its, rv, hl, _⟩ := I.tuple hs
  rw [Vals.ref1 r]
  exact max_rawT (I.ok.hd hc) (show s.heap.IsTuple a its.toArray from hl) rv.ints hne fun h' tk m t' hk h1 h2 => ⟨.int _, H, I.kept hk, ⟨_, rfl⟩, q m h1 h2⟩
theorem fnp_maxT {K : PySem.W.Frag} {ns : List Int} (hn : ns ≠ []) : FnP (rMaxT K) [D K (dT ns)] (Pr.some fun m : { m : Int // m ∈ ns ∧ ∀ y ∈ ns, y ≤ m } => I K m.1) := fun vs h H q e Q k => by
  cases q with
  | cons a q =>
    cases q
    obtain ⟨p, rfl, s⟩ := dp_intsT a
    exact ⟨p, ns, rfl, sqT_ex e s, List.length_pos_iff.mpr hn, fun m hm hy => k _ h H (Stp.refl e) ⟨⟨m, hm, hy⟩, .int m⟩⟩
/-! ### an own method called by its name -/
structure Hx (P : Program) (w : World) (K : PySem.W.Frag) (mg : Str → Option Value) (base : Heap) (k : Nat) (C : Addr) (m : Str) (sp : Sp) : Prop where
  ex : ∃ f, Meth K C m f ∧ FnR P w K mg base CX0 k f sp
theorem hx_of {P : Program} {w : World} {K : PySem.W.Frag} {mg : Str → Option Value} {base : Heap} {C f : Addr} {m : Str} {k : Nat} {ps : List Str} {sp : Sp} (t : Meth K C m f) (o : ∃ fd, FnOk P w K mg base CX0 k f fd ps sp ∧ Binds K fd ps []) : Hx P w K mg base k C m sp := by
  obtain ⟨fd, F, b⟩ := o
  exact ⟨f, t, raw0 F b⟩
theorem pe_mO {X : Cx} {k j : Nat} {C : Addr} {m : Str} {sp : Sp} {o e : Expr} {es : List Expr} {ta : TE} {t : TA} {apos pos : Pos} {pl : Sem Bool} (c : Hx X.prog X.w X.K X.mg X.base k C m sp) (cl : Cls X.K C) (hr : Room j X.A) (hk : k ≤ j) (he : PE X o ta) (ha : PA X (e :: es) t)
    (hst : starEach (e :: es) X.env = (false, eval e X.env) :: starEach es X.env := by rfl) (hpl : (backTo pos (starEach es X.env)).any (·.1) = false := by rfl)
    (ht : eval (.Call (.Attribute o m apos) (e :: es) [] pos) X.env = (do
      let ov ← eval o X.env
      standAt apos.atName
      let (f, first) ← holding [ov] (getMethod ov m pl)
      callWith pos f first (backTo pos (starEach (e :: es) X.env)) (backToKw pos (keywordEach [] X.env))) := by rfl) :
    PE X (.Call (.Attribute o m apos) (e :: es) [] pos) (tMethR C m sp E0 ta t) := by
  obtain ⟨f, M, F⟩ := c.ex
  exact pe_methR he cl M F (hr.mono hk) pass0 ha hst hpl ht
theorem t_mth {α : Type _} {K : PySem.W.Frag} {Γ : Ctx} {C : Addr} {f m : Str} {args : α → List Pr} {pre : α → Prop} {res : α → Pr} {d : PyData} {As : List Pr} {te : TE} {tr : TA} (a : α) (x : T Γ te (Ob K C f d)) (y : TAs Γ tr As) (ha : args a = Ob K C f d :: As) (p : pre a) (hm : (m == f) = false := by decide) : T Γ (tMethR C m (Sv args pre res) E0 te tr) (res a) := fun σ h H n e Q k =>
  x σ h H n e _ fun v h1 H1 s1 q => by
    obtain ⟨o, dx, u, rfl, ho, z⟩ := id q
    refine ⟨o, dx, _, rfl, s1.i _ _ ho, lookup1_ne hm, y σ h1 H1 (n.mono s1.s) s1.i _ fun vs h2 H2 s2 q2 => ⟨a, h2, s2.i, ?_, p, fun v h3 H3 s3 z => k v h3 H3 ((s1.trans s2).trans s3) z⟩⟩
    rw [ha]
    exact .cons ((Ob K C f d).mono s2.s q) q2
end Z

namespace Z
open PySem L2
theorem vs_get' : ∀ {Ps : List Pr} {vs : List V} {h : Hp} {j : Nat} {v : V}, Vs Ps vs h → vs[j]? = some v → ∃ P : Pr, Ps[j]? = some P ∧ P.p v h
  | _, _, _, _, _, .nil, e => by simp at e
  | _, _, _, 0, _, .cons a b, e => by simp at e; subst e; exact ⟨_, rfl, a⟩
  | _, _, _, j + 1, _, .cons a b, e => by
    obtain ⟨v, h1, h2⟩ := vs_get' (j := j) b (by simpa using e)
    exact ⟨v, by simpa using h1, h2⟩
section
variable {K : PySem.W.Frag} {Γ : Ctx} {te : TE} {t : TT} {P R : Pr}
theorem t_lcTV {tl : TE} {j : Nat} {As : List Pr} {φ : Nat → Bool → Prop} (G : Nat → List Pr → Prop) (a : T Γ tl (U K As)) (hn : As.length ≤ 50000) (g0 : G 0 []) (hz : ∀ i Ps, G i Ps → Ps.length ≤ i)
    (ht : ∀ (i : Nat) A, As[i]? = some A → TB ((wpΓ Γ [j]).set j (some A)) t (φ i))
    (hy : ∀ (i : Nat) A, As[i]? = some A → φ i true → ∀ Ps, G i Ps → ∃ (α : Type) (f : α → Pr), T ((wpΓ Γ [j]).set j (some A)) te (Pr.some f) ∧ ∀ a, G (i + 1) (Ps ++ [f a]))
    (hno : ∀ (i : Nat) A, As[i]? = some A → φ i false → ∀ Ps, G i Ps → G (i + 1) Ps) : T Γ (tLc (iTup K tl) (gName j) t te [j]) (Pr.some fun Ps : { Ps // G As.length Ps } => L K Ps.1) := fun σ h H x e Q k => a σ h H x e _ fun v h1 H1 s1 q => by
  obtain ⟨ad, xs, rfl, sq, dp⟩ := q
  refine ⟨ad, rfl, ⟨xs, sqT_ex s1.i sq⟩, fun Dl hD => ?_⟩
  refine lc_tup (K := K) (a := ad) (xs := xs) (Lw h1 H1 G Dl) (lw_start s1.i hD g0) (fun i H' hi p => ?_) (fun i y H' hi p => ?_) (fun H' p => ?_)
  · obtain ⟨h, Ps, vs, g, hv, hl, hn', st⟩ := p.ex
    refine sqT_ex (h := h) (fun a o e => ?_) (sqT_ex st.s sq)
    have z' : (if a = Dl then none else H' a) = some o := st.i _ _ e
    by_cases c : a = Dl
    · rw [if_pos c] at z'; cases z'
    · rw [if_neg c] at z'; exact z'
  · obtain ⟨d, hd', dd⟩ := vs_get' dp hi
    have hi' := (List.getElem?_eq_some_iff.mp hd').1
    exact ⟨wipe1, lc_turn p hD (fun Ps g => by have := hz i Ps g; omega) (fun h2 e2 => ((x.mono s1.s).mono e2).wp [j] |>.set j (d.mono e2 dd)) (ht i d hd') (hy i d hd') (hno i d hd')⟩
  · rw [dp.len] at p
    obtain ⟨h', Ps, g, st, q⟩ := lw_end (K := K) p hD s1.i
    exact k _ h' H' (s1.trans st) ⟨⟨Ps, g⟩, q⟩

end
end Z
namespace Z
open PySem L2
section
variable {K : PySem.W.Frag} {b : Bs} {Γ Γ' : Ctx} {μ μ' : Mo} {te ta tb tc : TE} {tr : TA} {t : TT} {P R : Pr} {Dd : Ends} {tu tw tz : TS}
/-- if, both ways to the same slots -/
theorem q_ifm {φ : Bool → Prop} (Γ' : Ctx) (a : TB Γ t φ) (y : φ true → ∀ F, Nx b Γ' μ' F → Nx b Γ μ (tu { Dd with nx := F })) (z : φ false → ∀ F, Nx b Γ' μ' F → Nx b Γ μ (tw { Dd with nx := F })) (k : Nx b Γ' μ' (tz Dd)) : Nx b Γ μ (tSeq (tIfS t tu tw) tz Dd) :=
  q_if a (fun h => y h _ k) (fun h => z h _ k)
theorem t_chainC {g g' : Int → Int → Bool} {i j : Int} {β : Sort _} {f : β → Int} {c : Bool} (a : T Γ ta (I K i)) (b : T Γ tb (I K j)) (d : T Γ tc (Pr.some fun k => I K (f k))) (hc : ∀ k, g' j (f k) = c) : T Γ (tChain (rI0 fun i j => .bl (g i j)) (rI0 fun i j => .bl (g' i j)) ta tb tc) (B K (g i j && c)) := fun σ h H x e Q kk =>
  a σ h H x e _ fun v h1 H1 s1 q1 => b σ h1 H1 (x.mono s1.s) s1.i _ fun y h2 H2 s2 q2 => by
    refine ⟨i, j, dp_int q1, dp_int q2, g i j, rfl, ?_⟩
    cases hg : g i j with
    | true =>
      refine d σ h2 H2 (x.mono (s1.trans s2).s) s2.i _ fun z h3 H3 s3 ⟨k, q3⟩ => ⟨j, f k, dp_int q2, dp_int q3, kk _ h3 H3 ((s1.trans s2).trans s3) ?_⟩
      rw [hg, Bool.true_and]
      show (B K c).p (.bl (g' j (f k))) h3
      rw [hc k]; exact Dq.bl _
    | false => exact kk _ h2 H2 (s1.trans s2) (by rw [hg, Bool.false_and]; exact Dq.bl _)
theorem l_pair {x : Int} {α : Sort _} {f : α → Int} {v : V} {h : Hp} (q : (L K [I K x, Pr.some fun a => I K (f a)]).p v h) : ∃ a, (D K (dI [x, f a])).p v h := by
  obtain ⟨ad, vs, rfl, s, z⟩ := q
  cases z with
  | cons q1 z =>
    cases z with
    | cons q2 z =>
      cases z
      obtain ⟨a, q2⟩ := q2
      exact ⟨a, .lst s (.cons q1 (.cons q2 .nil))⟩
end
end Z
namespace Z
open PySem L2
theorem tb_testS {K : PySem.W.Frag} {Γ : Ctx} {te : TE} {α : Sort _} {f : α → Bool} (a : T Γ te (Pr.some fun r => B K (f r))) : TB Γ (tTest te) (fun _ => True) := fun σ h H x e Q k => a σ h H x e _ fun v h' H' s ⟨r, q⟩ => ⟨f r, dp_bl q, k _ h' H' s trivial⟩
end Z

namespace Pf
open PySem L2 Z PyProof.Rows
def top (i : Nat) : Stmt := PySem.Challenge.pw_slackrods_k17_whole_unlike_memories_are.main.body.getD i (.Pass ⟨0, 0, 0, 0⟩)
abbrev s_is_number : Stmt := top 13
abbrev N_is_number : List Str := ["value", "low", "high"]
abbrev P_is_number : List Str := ["value", "low", "high"]
theorem sc_is_number : FnScope N_is_number P_is_number (defScope s_is_number) := ⟨rfl, rfl, rfl, by decide +kernel, rfl, by decide +kernel, by decide +kernel⟩
abbrev s_is_place : Stmt := top 14
abbrev N_is_place : List Str := ["value"]
abbrev P_is_place : List Str := ["value"]
theorem sc_is_place : FnScope N_is_place P_is_place (defScope s_is_place) := ⟨rfl, rfl, rfl, by decide +kernel, rfl, by decide +kernel, by decide +kernel⟩
abbrev s__is_between : Stmt := top 18
abbrev N__is_between : List Str := ["place", "one", "other"]
abbrev P__is_between : List Str := ["place", "one", "other"]
theorem sc__is_between : FnScope N__is_between P__is_between (defScope s__is_between) := ⟨rfl, rfl, rfl, by decide +kernel, rfl, by decide +kernel, by decide +kernel⟩
abbrev s__fits : Stmt := top 19
abbrev N__fits : List Str := ["places", "index", "place"]
abbrev P__fits : List Str := ["places", "index"]
theorem sc__fits : FnScope N__fits P__fits (defScope s__fits) := ⟨rfl, rfl, rfl, by decide +kernel, rfl, by decide +kernel, by decide +kernel⟩
abbrev s__check_places : Stmt := top 20
abbrev N__check_places : List Str := ["places", "index"]
abbrev P__check_places : List Str := ["places"]
theorem sc__check_places : FnScope N__check_places P__check_places (defScope s__check_places) := ⟨rfl, rfl, rfl, by decide +kernel, rfl, by decide +kernel, by decide +kernel⟩
abbrev s__after_move : Stmt := top 21
abbrev N__after_move : List Str := ["places", "place", "kept"]
abbrev P__after_move : List Str := ["places", "place"]
theorem sc__after_move : FnScope N__after_move P__after_move (defScope s__after_move) := ⟨rfl, rfl, rfl, by decide +kernel, rfl, by decide +kernel, by decide +kernel⟩
abbrev s_check_row : Stmt := top 16
abbrev N_check_row : List Str := ["row", "index", "place"]
abbrev P_check_row : List Str := ["row"]
theorem sc_check_row : FnScope N_check_row P_check_row (defScope s_check_row) := ⟨rfl, rfl, rfl, by decide +kernel, rfl, by decide +kernel, by decide +kernel⟩
abbrev s_Memory__init_ : Stmt := inClass (top 22) 0
abbrev N_Memory__init_ : List Str := ["self", "places"]
abbrev P_Memory__init_ : List Str := ["self", "places"]
theorem sc_Memory__init_ : FnScope N_Memory__init_ P_Memory__init_ (defScope s_Memory__init_) := ⟨rfl, rfl, rfl, by decide +kernel, rfl, by decide +kernel, by decide +kernel⟩
abbrev s_Memory_places : Stmt := inClass (top 22) 1
abbrev N_Memory_places : List Str := ["self"]
abbrev P_Memory_places : List Str := ["self"]
theorem sc_Memory_places : FnScope N_Memory_places P_Memory_places (defScope s_Memory_places) := ⟨rfl, rfl, rfl, by decide +kernel, rfl, by decide +kernel, by decide +kernel⟩
abbrev s_Memory_place : Stmt := inClass (top 22) 2
abbrev N_Memory_place : List Str := ["self"]
abbrev P_Memory_place : List Str := ["self"]
theorem sc_Memory_place : FnScope N_Memory_place P_Memory_place (defScope s_Memory_place) := ⟨rfl, rfl, rfl, by decide +kernel, rfl, by decide +kernel, by decide +kernel⟩
abbrev s_Memory_row : Stmt := inClass (top 22) 3
abbrev N_Memory_row : List Str := ["self"]
abbrev P_Memory_row : List Str := ["self"]
theorem sc_Memory_row : FnScope N_Memory_row P_Memory_row (defScope s_Memory_row) := ⟨rfl, rfl, rfl, by decide +kernel, rfl, by decide +kernel, by decide +kernel⟩
abbrev s_Memory__len_ : Stmt := inClass (top 22) 5
abbrev N_Memory__len_ : List Str := ["self"]
abbrev P_Memory__len_ : List Str := ["self"]
theorem sc_Memory__len_ : FnScope N_Memory__len_ P_Memory__len_ (defScope s_Memory__len_) := ⟨rfl, rfl, rfl, by decide +kernel, rfl, by decide +kernel, by decide +kernel⟩
abbrev s_Memory__eq_ : Stmt := inClass (top 22) 6
abbrev N_Memory__eq_ : List Str := ["self", "other"]
abbrev P_Memory__eq_ : List Str := ["self", "other"]
theorem sc_Memory__eq_ : FnScope N_Memory__eq_ P_Memory__eq_ (defScope s_Memory__eq_) := ⟨rfl, rfl, rfl, by decide +kernel, rfl, by decide +kernel, by decide +kernel⟩
abbrev s_check_place : Stmt := top 15
abbrev N_check_place : List Str := ["place"]
abbrev P_check_place : List Str := ["place"]
theorem sc_check_place : FnScope N_check_place P_check_place (defScope s_check_place) := ⟨rfl, rfl, rfl, by decide +kernel, rfl, by decide +kernel, by decide +kernel⟩
abbrev s_Memory__call_ : Stmt := inClass (top 22) 4
abbrev N_Memory__call_ : List Str := ["self", "place"]
abbrev P_Memory__call_ : List Str := ["self", "place"]
theorem sc_Memory__call_ : FnScope N_Memory__call_ P_Memory__call_ (defScope s_Memory__call_) := ⟨rfl, rfl, rfl, by decide +kernel, rfl, by decide +kernel, by decide +kernel⟩
abbrev s_memory_of : Stmt := top 23
abbrev N_memory_of : List Str := ["row", "places", "place"]
abbrev P_memory_of : List Str := ["row"]
theorem sc_memory_of : FnScope N_memory_of P_memory_of (defScope s_memory_of) := ⟨rfl, rfl, rfl, by decide +kernel, rfl, by decide +kernel, by decide +kernel⟩
abbrev s__law_below : Stmt := top 43
abbrev N__law_below : List Str := ["_law_d", "_law_limit", "_law_result"]
abbrev P__law_below : List Str := ["_law_d", "_law_limit"]
theorem sc__law_below : FnScope N__law_below P__law_below (defScope s__law_below) := ⟨rfl, rfl, rfl, by decide +kernel, rfl, by decide +kernel, by decide +kernel⟩
abbrev s__law_random : Stmt := top 42
abbrev N__law_random : List Str := ["_law_script", "_law_salt", "_law_seed", "_law_cell"]
abbrev P__law_random : List Str := ["_law_script", "_law_salt"]
theorem sc__law_random : FnScope N__law_random P__law_random (defScope s__law_random) := ⟨rfl, rfl, rfl, by decide +kernel, rfl, by decide +kernel, by decide +kernel⟩
abbrev s__law_row : Stmt := top 44
abbrev N__law_row : List Str := ["_law_d", "_law_most", "_law_far", "_law_low", "_law_k"]
abbrev P__law_row : List Str := ["_law_d", "_law_most", "_law_far"]
theorem sc__law_row : FnScope N__law_row P__law_row (defScope s__law_row) := ⟨rfl, rfl, rfl, by decide +kernel, rfl, by decide +kernel, by decide +kernel⟩
abbrev s__check_arms : Stmt := top 30
abbrev N__check_arms : List Str := ["arms", "slack", "arm"]
abbrev P__check_arms : List Str := ["arms"]
theorem sc__check_arms : FnScope N__check_arms P__check_arms (defScope s__check_arms) := ⟨rfl, rfl, rfl, by decide +kernel, rfl, by decide +kernel, by decide +kernel⟩
abbrev s_Rig__init_ : Stmt := inClass (top 39) 0
abbrev N_Rig__init_ : List Str := ["self", "arms"]
abbrev P_Rig__init_ : List Str := ["self", "arms"]
theorem sc_Rig__init_ : FnScope N_Rig__init_ P_Rig__init_ (defScope s_Rig__init_) := ⟨rfl, rfl, rfl, by decide +kernel, rfl, by decide +kernel, by decide +kernel⟩
abbrev s_Rig_arms : Stmt := inClass (top 39) 1
abbrev N_Rig_arms : List Str := ["self"]
abbrev P_Rig_arms : List Str := ["self"]
theorem sc_Rig_arms : FnScope N_Rig_arms P_Rig_arms (defScope s_Rig_arms) := ⟨rfl, rfl, rfl, by decide +kernel, rfl, by decide +kernel, by decide +kernel⟩
abbrev s_rod : Stmt := top 40
abbrev N_rod : List Str := ["slack"]
abbrev P_rod : List Str := ["slack"]
theorem sc_rod : FnScope N_rod P_rod (defScope s_rod) := ⟨rfl, rfl, rfl, by decide +kernel, rfl, by decide +kernel, by decide +kernel⟩
abbrev s__ends_of_rod : Stmt := top 37
abbrev N__ends_of_rod : List Str := ["slack", "places", "ends", "end", "place"]
abbrev P__ends_of_rod : List Str := ["slack", "places"]
theorem sc__ends_of_rod : FnScope N__ends_of_rod P__ends_of_rod (defScope s__ends_of_rod) := ⟨rfl, rfl, rfl, by decide +kernel, rfl, by decide +kernel, by decide +kernel⟩
abbrev s__ends_of_arms : Stmt := top 38
abbrev N__ends_of_arms : List Str := ["arms", "places", "ends", "slack", "arm", "_", "end", "far"]
abbrev P__ends_of_arms : List Str := ["arms", "places"]
theorem sc__ends_of_arms : FnScope N__ends_of_arms P__ends_of_arms (defScope s__ends_of_arms) := ⟨rfl, rfl, rfl, by decide +kernel, rfl, by decide +kernel, by decide +kernel⟩
abbrev s_Rig_at : Stmt := inClass (top 39) 6
abbrev N_Rig_at : List Str := ["self", "memory"]
abbrev P_Rig_at : List Str := ["self", "memory"]
theorem sc_Rig_at : FnScope N_Rig_at P_Rig_at (defScope s_Rig_at) := ⟨rfl, rfl, rfl, by decide +kernel, rfl, by decide +kernel, by decide +kernel⟩
abbrev s_law : Stmt := top 45
abbrev N_law : List Str := ["_law_script", "_law_d", "_law_step", "_law_far", "_law_one", "_law_other", "_law_ends", "_law_k", "_law_memory", "_law_slack"]
abbrev P_law : List Str := ["_law_script"]
theorem sc_law : FnScope N_law P_law (defScope s_law) := ⟨rfl, rfl, rfl, by decide +kernel, rfl, by decide +kernel, by decide +kernel⟩
structure Tx (mg : Str → Option Value) : Prop where
  b_len : mg "len" = none
  b_isinstance : mg "isinstance" = none
  b_min : mg "min" = none
  b_max : mg "max" = none
  b_abs : mg "abs" = none
  b_int : mg "int" = none
  b_bool : mg "bool" = none
  b_list : mg "list" = none
  b_tuple : mg "tuple" = none
  b_range : mg "range" = none
  b_enumerate : mg "enumerate" = none
  b_zip : mg "zip" = none
  g_FARTHEST : Gk mg "FARTHEST" 1000000
  g_LONGEST_ROW : Gk mg "LONGEST_ROW" 1000
  g_GREATEST_ROD : Gk mg "GREATEST_ROD" 99
  g_GREATEST_SLACK : Gk mg "GREATEST_SLACK" 999
  g_GREATEST_ARM : Gk mg "GREATEST_ARM" 1000000
  g_MOST_ARMS : Gk mg "MOST_ARMS" 60

/-! ### checks -/
def isNum : PyData → Int → Int → Bool
  | .int i, lo, hi => decide (lo ≤ i) && decide (i ≤ hi)
  | _, _, _ => false
section
variable {P : Program} {w : World} {K : PySem.W.Frag} {mg : Str → Option Value} {base : Heap}
abbrev spNum (K : PySem.W.Frag) : Sp := Sv (fun a : PyData × Int × Int => [D K a.1, I K a.2.1, I K a.2.2]) (fun a => (tyOf a.1).isSome = true) (fun a => B K (isNum a.1 a.2.1 a.2.2))
theorem ok_is_number (tx : Tx mg) (d : Dn K mg "is_number" s_is_number P_is_number) : Fx P w K mg base 1 "is_number" (spNum K) := by
  refine d.sv (N := N_is_number) sc_is_number (fun _ => rfl) (by decide) fun f cdv A outer s H E hr => ⟨_, pss_one (ps_ret (pe_and (pe_callB call_isi (by rfl) tx.b_isinstance boot_isinstance (pa_cons (pv 0) (pa_cons (pe_bltn (v := .ty "int") (by rfl) tx.b_int boot_int rfl) pa_nil))) (pe_and (pe_not (pe_callB call_isi (by rfl) tx.b_isinstance boot_isinstance (pa_cons (pv 0) (pa_cons (pe_bltn (v := .ty "bool") (by rfl) tx.b_bool boot_bool rfl) pa_nil)))) (pe_one (pe_chain op_le op_le (pv 1) (pv 0) (pv 2)))))), ?_⟩
  rintro ⟨d, lo, hi⟩ b hd Q k
  refine n_ret (P := B K (isNum d lo hi)) ?_ k
  obtain ⟨n, hn⟩ := Option.isSome_iff_exists.mp hd
  have t0 : ∀ (c : String) (r : Bool), L2.kitB n c = some r → T [some (D K d), some (I K lo), some (I K hi)] (tCB (rIsi K) (tCons (tVar 0) (tCons (tC (.ty c)) tNil))) (B K r) := fun c r q =>
    t_cb (ta_cons (t_var rfl) (ta_cons t_ty ta_nil)) (fnp_isi hn q)
  cases d with
  | int i =>
    cases hn
    exact t_eqB (t_andV (t0 "int" true (by decide +kernel)) fun _ => t_andV (t_notV (t0 "bool" false (by decide +kernel))) fun _ => t_chain (t_var rfl) (t_var rfl) (t_var rfl)) (by simp [isNum])
  | bool i =>
    cases hn
    exact t_eqB (t_andV (b := false) (t0 "int" true (by decide +kernel)) fun _ => t_eqB (t_andV (b := false) (t_notV (t0 "bool" true (by decide +kernel))) fun h => by simp at h) (by simp)) (by simp [isNum])
  | none => cases hn; exact t_eqB (t_andV (b := false) (t0 "int" false (by decide +kernel)) fun h => by simp at h) (by simp [isNum])
  | str => cases hn; exact t_eqB (t_andV (b := false) (t0 "int" false (by decide +kernel)) fun h => by simp at h) (by simp [isNum])
  | list => cases hn; exact t_eqB (t_andV (b := false) (t0 "int" false (by decide +kernel)) fun h => by simp at h) (by simp [isNum])
  | tuple => cases hn; exact t_eqB (t_andV (b := false) (t0 "int" false (by decide +kernel)) fun h => by simp at h) (by simp [isNum])
  | dict => cases hn
abbrev spPlace (K : PySem.W.Frag) : Sp := Sv (fun a : PyData => [D K a]) (fun a => (tyOf a).isSome = true) (fun a => B K (isNum a (-1000000) 1000000))
theorem ok_is_place (tx : Tx mg) (d : Dn K mg "is_place" s_is_place P_is_place) (c_is_number : Fx P w K mg base 1 "is_number" (spNum K)) : Fx P w K mg base 2 "is_place" (spPlace K) := by
  refine d.sv (N := N_is_place) sc_is_place (fun _ => rfl) (by decide) fun f cdv A outer s H E hr => ⟨_, pss_one (ps_ret (pe_f c_is_number hr (by first | exact Nat.le_refl _ | decide) rfl (pa_cons (pv 0) (pa_cons (pe_un un_neg (pe_gK rfl tx.g_FARTHEST)) (pa_cons (pe_gK rfl tx.g_FARTHEST) (pa_nil)))))), ?_⟩
  rintro d b hd Q k
  exact n_ret (t_f (d, -1000000, 1000000) (ta_cons (t_var rfl) (ta_cons (t_un t_int unp_neg) (ta_cons t_int ta_nil))) hd) k
abbrev spBtw (K : PySem.W.Frag) : Sp := Sv (fun a : Int × Int × Int => [I K a.1, I K a.2.1, I K a.2.2]) (fun _ => True) (fun a => B K (decide (min a.2.1 a.2.2 < a.1) && decide (a.1 < max a.2.1 a.2.2)))
theorem ok_is_between (tx : Tx mg) (d : Dn K mg "_is_between" s__is_between P__is_between) : Fx P w K mg base 1 "_is_between" (spBtw K) := by
  refine d.sv (N := N__is_between) sc__is_between (fun _ => rfl) (by decide) fun f cdv A outer s H E hr => ⟨_, pss_one (ps_ret (pe_chain op_lt op_lt (pe_callB (call_min2 rfl) (by rfl) tx.b_min boot_min (pa_cons (pv 1) (pa_cons (pv 2) (pa_nil)))) (pv 0) (pe_callB (call_max2 rfl) (by rfl) tx.b_max boot_max (pa_cons (pv 1) (pa_cons (pv 2) (pa_nil)))))), ?_⟩
  rintro ⟨p, i, j⟩ b hd Q k
  exact n_ret (t_chain (t_cb (ta_cons (t_var rfl) (ta_cons (t_var rfl) ta_nil)) fnp_min2) (t_var rfl) (t_cb (ta_cons (t_var rfl) (ta_cons (t_var rfl) ta_nil)) fnp_max2)) k
end

/-! ### memories: the mathematics -/
def btw (p i j : Int) : Bool := decide (min i j < p) && decide (p < max i j)
def isPl (p : Int) : Bool := isNum (.int p) (-1000000) 1000000
theorem isPl_of {p : Int} (h : -1000000 ≤ p ∧ p ≤ 1000000) : isPl p = true := by simp [isPl, isNum, h.1, h.2]
def fitB (ps : List Int) (i : Nat) : Bool := isPl (ps.getD i 0) && (if i = 0 then decide (ps.getD 0 0 ≤ 0) else if i = 1 then decide (ps.getD 0 0 < ps.getD 1 0) else btw (ps.getD i 0) (ps.getD (i - 2) 0) (ps.getD (i - 1) 0))
def okMem (ps : List Int) : Prop := ps ≠ [] ∧ ps.length ≤ 5000 ∧ ∀ i, i < ps.length → fitB ps i = true
def runL (p : Int) : List Int → Nat
  | a :: b :: r => if btw p a b = true then runL p (b :: r) + 1 else 0
  | _ => 0
theorem runL_lt (p : Int) : ∀ ps : List Int, ps ≠ [] → runL p ps + 1 ≤ ps.length
  | [], h => absurd rfl h
  | [a], _ => Nat.le_refl _
  | a :: b :: r, _ => by
    unfold runL
    have := runL_lt p (b :: r) (List.cons_ne_nil _ _)
    split
    · simp only [List.length_cons] at this ⊢; omega
    · simp
def aft (ps : List Int) (p : Int) : List Int := if p ≤ ps.getD 0 0 then [p] else ps.take (runL p ps + 1) ++ [p]
theorem aft_len (ps : List Int) (p : Int) (h : ps ≠ []) : (aft ps p).length ≤ ps.length + 1 ∧ aft ps p ≠ [] := by
  unfold aft
  split
  · exact ⟨by have := List.length_pos_iff.mpr h; simp, by simp⟩
  · exact ⟨by rw [List.length_append, List.length_take]; simp; omega, by simp⟩
theorem runL_step {p : Int} {ps : List Int} {g : Nat} (h1 : 1 ≤ g) (h2 : g < ps.length) : runL p (ps.drop (g - 1)) = if btw p (ps.getD (g - 1) 0) (ps.getD g 0) = true then runL p (ps.drop g) + 1 else 0 := by
  have e1 : ps.drop (g - 1) = ps[g - 1] :: ps.drop g := by
    rw [List.drop_eq_getElem_cons (by omega)]
    congr 2; omega
  have e2 : ps.drop g = ps[g] :: ps.drop (g + 1) := List.drop_eq_getElem_cons h2
  rw [e1, e2]
  have a1 : ps.getD (g - 1) 0 = ps[g - 1] := by rw [List.getD_eq_getElem?_getD, List.getElem?_eq_getElem (by omega)]; rfl
  have a2 : ps.getD g 0 = ps[g] := by rw [List.getD_eq_getElem?_getD, List.getElem?_eq_getElem h2]; rfl
  rw [a1, a2]
  rfl
theorem getD_some {ps : List Int} {i : Nat} (h : i < ps.length) : ps[i]? = some (ps.getD i 0) := by
  rw [List.getD_eq_getElem?_getD, List.getElem?_eq_getElem h]; rfl
theorem at_getD {ps : List Int} {i : Nat} (h : i < ps.length) : atI ps (i : Int) = some (ps.getD i 0) := atI_nat (getD_some h)
section
variable {P : Program} {w : World} {K : PySem.W.Frag} {mg : Str → Option Value} {base : Heap} {C : Addr}
abbrev spFits (K : PySem.W.Frag) : Sp := Sv (fun a : List Int × Nat => [D K (dT a.1), I K (a.2 : Int)]) (fun a => a.2 < a.1.length) (fun a => B K (fitB a.1 a.2))
theorem ok_fits (tx : Tx mg) (d : Dn K mg "_fits" s__fits P__fits) (c_is_place : Fx P w K mg base 2 "is_place" (spPlace K)) (c__is_between : Fx P w K mg base 1 "_is_between" (spBtw K)) : Fx P w K mg base 3 "_fits" (spFits K) := by
  refine d.sv (N := N__fits) sc__fits (fun _ => rfl) (by decide) fun f cdv A outer s H E hr => ⟨_, pss_cons (ps_set (i := 2) sc__fits.nd rfl (Or.inl rfl) (pe_ix ix_tup (pv 0) (pv 1) (fun _ _ => rfl)))
 (pss_cons (ps_if (pt_not (pt_val (pe_f c_is_place hr (by first | exact Nat.le_refl _ | decide) rfl (pa_cons (pv 2) (pa_nil))))) (pss_one (ps_ret (pe_bl))) (pss_nil))
 (pss_cons (ps_if (pt_cmpR op_eq (pv 1) (pe_int) (nomark _)) (pss_one (ps_ret (pe_cmpR op_le (pv 2) (pe_int) (nomark _)))) (pss_nil))
 (pss_cons (ps_if (pt_cmpR op_eq (pv 1) (pe_int) (nomark _)) (pss_one (ps_ret (pe_cmpR op_gt (pv 2) (pe_ix ix_tup (pv 0) (pe_int) (fun _ _ => rfl)) (nomark _)))) (pss_nil))
 (pss_one (ps_ret (pe_f c__is_between hr (by first | exact Nat.le_refl _ | decide) rfl (pa_cons (pv 2) (pa_cons (pe_ix ix_tup (pv 0) (pe_op op_sub (pv 1) (pe_int)) (fun _ _ => rfl)) (pa_cons (pe_ix ix_tup (pv 0) (pe_op op_sub (pv 1) (pe_int)) (fun _ _ => rfl)) (pa_nil)))))))))), ?_⟩
  rintro ⟨ps, i⟩ b hi Q k
  have hi' : i < ps.length := hi
  refine q_asg (P := I K (ps.getD i 0)) (t_op (t_var rfl) (t_var rfl) (opp_ixTI (at_getD hi'))) ?_
  refine q_if (tb_not (tb_val (t_f (.int (ps.getD i 0)) (ta_cons (t_var rfl) ta_nil) rfl))) (fun h => ?_) (fun h => n_next ?_)
  · refine n_ret (P := B K (fitB ps i)) (t_eqB (b := fitB ps i) t_bl ?_) k
    have h' : isPl (ps.getD i 0) = false := by
      cases z : isPl (ps.getD i 0) with
      | false => rfl
      | true => rw [show isNum (.int (ps.getD i 0)) (-1000000) 1000000 = isPl (ps.getD i 0) from rfl, z] at h; cases h
    unfold fitB
    rw [h', Bool.false_and]
  have h' : isPl (ps.getD i 0) = true := by
    cases z : isPl (ps.getD i 0) with
    | true => rfl
    | false => rw [show isNum (.int (ps.getD i 0)) (-1000000) 1000000 = isPl (ps.getD i 0) from rfl, z] at h; cases h
  refine q_if (tb_test (t_op (t_var rfl) t_int opp_eqI)) (fun h => ?_) (fun h => n_next ?_)
  · have e : i = 0 := by simpa using h
    subst e
    refine n_ret (P := B K (fitB ps 0)) (t_eqB (t_op (t_var rfl) t_int opp_B) ?_) k
    unfold fitB
    rw [h', Bool.true_and, if_pos rfl]
  have n0 : ¬ i = 0 := by simpa using h
  refine q_if (tb_test (t_op (t_var rfl) t_int opp_eqI)) (fun h => ?_) (fun h => n_next ?_)
  · have e : i = 1 := by
      have : (i : Int) = 1 := by simpa using h
      omega
    subst e
    refine n_ret (P := B K (fitB ps 1)) (t_eqB (t_op (t_var rfl) (t_op (t_var rfl) t_int (opp_ixTI (ns := ps) (at_getD (i := 0) (by omega)))) opp_B) ?_) k
    unfold fitB
    rw [h', Bool.true_and, if_neg (by decide), if_pos rfl]
  have n1 : ¬ i = 1 := by
    intro e
    subst e
    simp at h
  dsimp only
  refine n_ret (P := B K (fitB ps i)) (t_eqB (t_f (ps.getD i 0, ps.getD (i - 2) 0, ps.getD (i - 1) 0) (ta_cons (t_var rfl) (ta_cons (t_op (t_var rfl) (t_eqI (t_op (t_var rfl) t_int opp_I) (show (i : Int) - 2 = ((i - 2 : Nat) : Int) by omega)) (opp_ixTI (ns := ps) (at_getD (by omega)))) (ta_cons (t_op (t_var rfl) (t_eqI (t_op (t_var rfl) t_int opp_I) (show (i : Int) - 1 = ((i - 1 : Nat) : Int) by omega)) (opp_ixTI (ns := ps) (at_getD (by omega)))) ta_nil))) trivial) ?_) k
  unfold fitB
  rw [h', Bool.true_and, if_neg n0, if_neg n1]
  rfl
abbrev spChk (K : PySem.W.Frag) : Sp := Sv (fun a : List Int => [D K (dT a)]) okMem (fun _ => D K .none)
theorem ok_check_places (tx : Tx mg) (d : Dn K mg "_check_places" s__check_places P__check_places) (c__fits : Fx P w K mg base 3 "_fits" (spFits K)) : Fx P w K mg base 4 "_check_places" (spChk K) := by
  refine d.sv (N := N__check_places) sc__check_places (fun _ => rfl) (by decide) fun f cdv A outer s H E hr => ⟨_, pss_cons (ps_if ((PW.pt (pw_or (pt_not (pt_val (pe_callB call_isi (by rfl) tx.b_isinstance boot_isinstance (pa_cons (pv 0) (pa_cons (pe_bltn (v := .ty "tuple") (by rfl) tx.b_tuple boot_tuple rfl) pa_nil))))) (pw_or1 (pt_cmpR op_eq (pe_callB call_len_seq (by rfl) tx.b_len boot_len (pa_cons (pv 0) (pa_nil))) (pe_int) (nomark _)))))) (pss_one (ps_never)) (pss_nil))
 (pss_one (ps_for PassesOwn.never rfl (pi_range1 rfl tx.b_range (pa_cons (pe_callB call_len_seq (by rfl) tx.b_len boot_len (pa_cons (pv 0) (pa_nil))) (pa_nil))) (pg_name (i := 1) sc__check_places.nd rfl (Or.inl rfl)) (pss_one (ps_if (pt_not (pt_val (pe_f c__fits hr (by first | exact Nat.le_refl _ | decide) rfl (pa_cons (pv 0) (pa_cons (pv 1) (pa_nil)))))) (pss_one (ps_never)) (pss_nil))))), ?_⟩
  rintro ps b hok Q k
  obtain ⟨hne, hz, hf⟩ := hok
  refine q_if (tb_or (a := false) (b := false) (tb_weak (tb_not (tb_val (t_cb (ta_cons (t_var rfl) (ta_cons t_ty ta_nil)) (fnp_isi (d := dT ps) (r := true) rfl (by decide +kernel))))) (by simp)) fun _ => tb_weak (tb_test (t_op (t_cb (ta_cons (t_var rfl) ta_nil) fnp_lenT) t_int opp_eqI)) (fun c h => by
    rw [h]; simp; exact hne)) (fun h => by simp at h) (fun _ => n_next ?_)
  refine n_forR1 (n := ((ps.map PyData.int).length : Int)) (γ := Unit) (fun _ _ => True) (fun _ _ => [some (D K (dT ps)), none]) (fun _ _ => none) () (ta_cons (t_cb (ta_cons (t_var rfl) ta_nil) fnp_lenT) ta_nil) ?_ trivial ?_ ?_ ?_
  · rw [List.length_map]; omega
  · exact le_same (le_same le_nil)
  · intro i _ hi _
    rw [List.length_map] at hi
    refine n_if (tb_not (tb_val (t_f (ps, i) (ta_cons (t_var rfl) (ta_cons (t_var rfl) ta_nil)) (by show i < ps.length; omega)))) (fun h => ?_) (fun _ => ?_)
    rotate_left
    · refine n_next ?_
      refine n_pv () ?_ ?_ ?_
      · trivial
      · rfl
      · exact le_same (le_skip le_nil)
    have : fitB ps i = true := hf i (by omega)
    rw [this] at h
    simp at h
  · intro _ _
    exact fun σ h H x s m => k .non h H s.st .non
end
section
variable {P : Program} {w : World} {K : PySem.W.Frag} {mg : Str → Option Value} {base : Heap} {C : Addr}
abbrev spAft (K : PySem.W.Frag) : Sp := Sv (fun a : List Int × Int => [D K (dT a.1), I K a.2]) (fun a => a.1 ≠ [] ∧ a.1.length ≤ 5000) (fun a => D K (dT (aft a.1 a.2)))
theorem ok_after_move (tx : Tx mg) (d : Dn K mg "_after_move" s__after_move P__after_move) (c__is_between : Fx P w K mg base 1 "_is_between" (spBtw K)) : Fx P w K mg base 2 "_after_move" (spAft K) := by
  refine d.sv (N := N__after_move) sc__after_move (fun _ => rfl) (by decide) fun f cdv A outer s H E hr => ⟨_, pss_cons (ps_if (pt_cmpR op_le (pv 1) (pe_ix ix_tup (pv 0) (pe_int) (fun _ _ => rfl)) (nomark _)) (pss_one (ps_ret (pe_tup (pa_cons (pv 1) (pa_nil))))) (pss_nil))
 (pss_cons (ps_set (i := 2) sc__after_move.nd rfl (Or.inl rfl) (pe_int))
 (pss_cons (ps_while PassesOwn.never ((PW.pt (pw_and (pt_cmpR op_lt (pv 2) (pe_callB call_len_seq (by rfl) tx.b_len boot_len (pa_cons (pv 0) (pa_nil))) (nomark _)) (pw_and1 (pt_val (pe_f c__is_between hr (by first | exact Nat.le_refl _ | decide) rfl (pa_cons (pv 1) (pa_cons (pe_ix ix_tup (pv 0) (pe_op op_sub (pv 2) (pe_int)) (fun _ _ => rfl)) (pa_cons (pe_ix ix_tup (pv 0) (pv 2) (fun _ _ => rfl)) (pa_nil)))))))))) (pss_one (ps_aug (i := 2) sc__after_move.nd rfl (Or.inl rfl) (pe_int) ip_add)))
 (pss_one (ps_ret (pe_op op_catA (pe_slice sl_tupA (pv 0) po_none (po_some (pv 2))) (pe_tup (pa_cons (pv 1) (pa_nil)))))))), ?_⟩
  rintro ⟨ps, p⟩ b ⟨hne, hz⟩ Q k
  have h0 : 0 < ps.length := List.length_pos_iff.mpr hne
  have hz' : ps.length ≤ 5000 := hz
  refine q_if (tb_test (t_op (t_var rfl) (t_op (t_var rfl) t_int (opp_ixTI (ns := ps) (at_getD (i := 0) h0))) opp_B)) (fun h => ?_) (fun h => n_next ?_)
  · have e : aft ps p = [p] := if_pos (by simpa using h)
    refine n_ret (P := D K (dT (aft ps p))) (t_eqD (t_tup (ds := [.int p]) (ta_cons (t_var rfl) ta_nil) (by simp)) ?_) k
    rw [e]; rfl
  have e : aft ps p = ps.take (runL p ps + 1) ++ [p] := if_neg (by simpa using h)
  refine q_asg (P := I K ((1 : Nat) : Int)) t_int ?_
  refine q_seq ?_
  refine n_while (γ := Nat) (φ := fun g c => c = (decide (g < ps.length) && btw p (ps.getD (g - 1) 0) (ps.getD g 0))) (fun g => 1 ≤ g ∧ g ≤ ps.length ∧ runL p ps = (g - 1) + runL p (ps.drop (g - 1))) (fun g => ps.length - g)
    (fun g => [some (D K (dT ps)), some (I K p), some (I K (g : Int))]) (fun _ => none) 1 ⟨Nat.le_refl 1, h0, by simp⟩ ?_ ?_ ?_ ?_
  · exact le_same (le_same (le_same le_nil))
  · rintro g ⟨g1, g2, g3⟩
    have tl : TB [some (D K (dT ps)), some (I K p), some (I K (g : Int))] (tTest (tOp (rI0 fun i j => .bl (decide (i < j))) (tVar 2) (tCB (fun xs H Q => ∃ p ys, xs = [.ref p] ∧ (SqL K H p ys ∨ SqT K H p ys) ∧ Q (.int ys.length) H) (tCons (tVar 0) tNil)))) (fun c => c = decide (g < ps.length)) := by
      refine tb_weak (tb_test (t_op (t_var rfl) (t_cb (ta_cons (t_var rfl) ta_nil) fnp_lenT) opp_B)) fun c h => ?_
      rw [h, List.length_map]
      simp
    refine tb_and tl fun hlt => ?_
    have hlt' : g < ps.length := by simpa using hlt
    exact tb_val (t_f (p, ps.getD (g - 1) 0, ps.getD g 0) (ta_cons (t_var rfl) (ta_cons (t_op (t_var rfl) (t_eqI (t_op (t_var rfl) t_int opp_I) (show (g : Int) - 1 = ((g - 1 : Nat) : Int) by omega)) (opp_ixTI (ns := ps) (at_getD (by omega)))) (ta_cons (t_op (t_var rfl) (t_var rfl) (opp_ixTI (ns := ps) (at_getD hlt'))) ta_nil))) trivial)
  · rintro g ⟨g1, g2, g3⟩ hc
    have hc' : g < ps.length ∧ btw p (ps.getD (g - 1) 0) (ps.getD g 0) = true := by
      have := hc.symm
      rw [Bool.and_eq_true] at this
      exact ⟨of_decide_eq_true this.1, this.2⟩
    have st := runL_step (p := p) g1 hc'.1
    rw [if_pos hc'.2] at st
    refine n_aug (a := (g : Int)) (c := 1) rfl t_int ?_
    refine n_wn (g + 1) ?_ ?_ ?_ ?_
    · refine ⟨by omega, by omega, ?_⟩
      rw [g3, st]
      show g - 1 + (runL p (ps.drop g) + 1) = g + 1 - 1 + runL p (ps.drop (g + 1 - 1))
      rw [Nat.add_sub_cancel]
      omega
    · show ps.length - (g + 1) < ps.length - g
      omega
    · rfl
    · exact le_same (le_same (le_eqI (by omega) le_nil))
  · rintro g ⟨g1, g2, g3⟩ hc
    have z : runL p (ps.drop (g - 1)) = 0 := by
      by_cases hlt : g < ps.length
      · rw [runL_step g1 hlt]
        have : btw p (ps.getD (g - 1) 0) (ps.getD g 0) = false := by
          have h' := hc.symm
          rw [decide_eq_true hlt, Bool.true_and] at h'
          exact h'
        rw [this]
        simp
      · have e1 : ps.drop (g - 1) = [ps[g - 1]] := by
          rw [List.drop_eq_getElem_cons (by omega), List.drop_eq_nil_of_le (by omega)]
        rw [e1]
        rfl
    rw [z] at g3
    refine n_ret (P := D K (dT (aft ps p))) (t_eqD (t_op (t_slT (t_var rfl) to_none (to_some (t_var rfl))) (t_tup (ds := [.int p]) (ta_cons (t_var rfl) ta_nil) (by simp)) (opp_catA ?_)) ?_) k
    · rw [cutD_to, List.length_take, List.length_map, List.length_singleton]
      have := Nat.min_le_left g ps.length
      omega
    · rw [e, cutD_to, g3]
      have e2 : g - 1 + 0 + 1 = g := by omega
      rw [e2]
      show PyData.tuple _ = PyData.tuple ((ps.take g ++ [p]).map PyData.int)
      rw [List.map_append, List.map_take]
      rfl
abbrev spRow (K : PySem.W.Frag) : Sp := Sv (fun a : List Int => [D K (dI a)]) (fun a => a.length ≤ 1000 ∧ ∀ x ∈ a, isPl x = true) (fun _ => D K .none)
theorem ok_check_row (tx : Tx mg) (d : Dn K mg "check_row" s_check_row P_check_row) (c_is_place : Fx P w K mg base 2 "is_place" (spPlace K)) : Fx P w K mg base 3 "check_row" (spRow K) := by
  refine d.sv (N := N_check_row) sc_check_row (fun _ => rfl) (by decide) fun f cdv A outer s H E hr => ⟨_, pss_cons (ps_if (pt_not (pt_val (pe_callB call_isi (by rfl) tx.b_isinstance boot_isinstance (pa_cons (pv 0) (pa_cons (pe_bltn (v := .ty "list") (by rfl) tx.b_list boot_list rfl) pa_nil))))) (pss_one (ps_never)) (pss_nil))
 (pss_one (ps_for PassesOwn.never rfl (pi_enum (by rfl) tx.b_enumerate (pa_cons (pv 0) (pa_nil))) (pg_tup rfl (pgs_cons (pg_name (i := 1) sc_check_row.nd rfl (Or.inl rfl)) (pgs_cons (pg_name (i := 2) sc_check_row.nd rfl (Or.inl rfl)) (pgs_nil)))) (pss_one (ps_if ((PW.pt (pw_or (pt_cmpR op_ge (pv 1) (pe_gK rfl tx.g_LONGEST_ROW) (nomark _)) (pw_or1 (pt_not (pt_val (pe_f c_is_place hr (by first | exact Nat.le_refl _ | decide) rfl (pa_cons (pv 2) (pa_nil))))))))) (pss_one (ps_never)) (pss_nil))))), ?_⟩
  rintro ns b ⟨hz, hp⟩ Q k
  refine q_if (tb_not (tb_val (t_cb (ta_cons (t_var rfl) (ta_cons t_ty ta_nil)) (fnp_isi (d := dI ns) (r := true) rfl (by decide +kernel))))) (fun h => by simp at h) (fun _ => n_next ?_)
  refine n_forE (γ := Unit) (ds := ns.map PyData.int) (fun _ _ => True) (fun _ _ => [some (D K (dI ns)), none, none]) (fun _ _ => none) () (ta_cons (t_var rfl) ta_nil) trivial (le_same (le_same (le_same le_nil))) ?_ ?_
  · intro hb i d _ hd _
    obtain ⟨z, hz1, rfl⟩ : ∃ z, ns[i]? = some z ∧ d = .int z := by
      rw [List.getElem?_map] at hd
      cases e : ns[i]? with
      | none => rw [e] at hd; cases hd
      | some z => rw [e] at hd; exact ⟨z, rfl, (Option.some.inj hd).symm⟩
    have hi : i < ns.length := (List.getElem?_eq_some_iff.mp hz1).1
    have hzp : isPl z = true := hp z (List.mem_of_getElem? hz1)
    refine n_if (tb_or (a := false) (b := false) (tb_weak (tb_test (t_op (t_var rfl) t_int opp_B)) fun c h => by rw [h]; have : ns.length ≤ 1000 := hz; simp; omega) fun _ => tb_weak (tb_not (tb_val (t_f (.int z) (ta_cons (t_var rfl) ta_nil) rfl))) fun c h => ?_) (fun h => by simp at h) (fun _ => ?_)
    · rw [h]
      show (!isPl z) = false
      rw [hzp]; rfl
    · refine n_next ?_
      refine n_pv () ?_ ?_ ?_
      · trivial
      · rfl
      · exact le_same (le_skip (le_skip le_nil))
  · intro hb _ _
    exact fun σ h H x s m => k .non h H s.st .non
end
/-! ### a memory's meaning -/
def leB (lo : Bool) (a b : Int) : Prop := if lo = true then a ≤ b else b ≤ a
/-- ms is the memory of the places xs, the lowest (highest) first -/
inductive Mean : Bool → List Int → List Int → Prop
  | last {lo : Bool} {E : Int} (a : List Int) (h : ∀ y ∈ a, leB lo E y) : Mean lo (a ++ [E]) [E]
  | more {lo : Bool} {E : Int} {t ms : List Int} (a : List Int) (h : ∀ y ∈ a, leB lo E y) (h2 : ∀ y ∈ t, ¬ leB lo y E) (ne : t ≠ []) (m : Mean (!lo) (E :: t) ms) : Mean lo (a ++ E :: t) (E :: ms)
theorem leB_trans {lo : Bool} {a b c : Int} (h : leB lo a b) (k : leB lo b c) : leB lo a c := by
  cases lo <;> simp [leB] at * <;> omega
theorem leB_not {lo : Bool} {a b : Int} (h : ¬ leB lo a b) : leB (!lo) a b ∧ leB lo b a := by
  cases lo <;> simp [leB] at * <;> omega
theorem leB_rfl {lo : Bool} {a : Int} : leB lo a a := by cases lo <;> simp [leB]
theorem Mean.head {lo : Bool} {xs ms : List Int} (m : Mean lo xs ms) : ∃ F r, ms = F :: r ∧ ∀ y ∈ xs, leB lo F y := by
  cases m with
  | @last lo E a h =>
    refine ⟨E, [], rfl, fun y hy => ?_⟩
    rcases List.mem_append.mp hy with q | q
    · exact h y q
    · rw [List.mem_singleton.mp q]; exact leB_rfl
  | @more lo E t ms a h h2 ne m =>
    refine ⟨E, ms, rfl, fun y hy => ?_⟩
    rcases List.mem_append.mp hy with q | q
    · exact h y q
    · rcases List.mem_cons.mp q with q | q
      · rw [q]; exact leB_rfl
      · exact (leB_not (h2 y q)).2
def updL (lo : Bool) (ms : List Int) (p : Int) : List Int := if (if lo = true then decide (p ≤ ms.getD 0 0) else decide (ms.getD 0 0 ≤ p)) = true then [p] else ms.take (runL p ms + 1) ++ [p]
theorem updL_yes {lo : Bool} {E p : Int} {r : List Int} (h : leB lo p E) : updL lo (E :: r) p = [p] := by
  unfold updL
  refine if_pos ?_
  cases lo <;> simp [leB] at * <;> exact h
theorem updL_no {lo : Bool} {E p : Int} {r : List Int} (h : ¬ leB lo p E) : updL lo (E :: r) p = (E :: r).take (runL p (E :: r) + 1) ++ [p] := by
  unfold updL
  refine if_neg ?_
  cases lo <;> simp [leB] at * <;> exact h
theorem Mean.upd {p : Int} : ∀ {lo : Bool} {xs ms : List Int}, Mean lo xs ms → Mean lo (xs ++ [p]) (updL lo ms p) := by
  intro lo xs ms m
  induction m with
  | @last lo E a h =>
    by_cases c : leB lo p E
    · rw [updL_yes c]
      refine Mean.last (a ++ [E]) fun y hy => ?_
      rcases List.mem_append.mp hy with q | q
      · exact leB_trans c (h y q)
      · rw [List.mem_singleton.mp q]; exact c
    · rw [updL_no c, List.append_assoc]
      refine Mean.more (t := [p]) (ms := [p]) a h (fun y hy => ?_) (by simp) ?_
      · rw [List.mem_singleton.mp hy]; exact c
      · refine Mean.last [E] fun y hy => ?_
        rw [List.mem_singleton.mp hy]; exact (leB_not c).1
  | @more lo E t ms a h h2 ne m ih =>
    by_cases c : leB lo p E
    · rw [updL_yes c]
      refine Mean.last (a ++ E :: t) fun y hy => ?_
      rcases List.mem_append.mp hy with q | q
      · exact leB_trans c (h y q)
      · rcases List.mem_cons.mp q with q | q
        · rw [q]; exact c
        · exact leB_trans c (leB_not (h2 y q)).2
    · have e : updL lo (E :: ms) p = E :: updL (!lo) ms p := by
        rw [updL_no c]
        obtain ⟨F, r, rfl, hF⟩ := m.head
        have hE : leB (!lo) F E := hF E List.mem_cons_self
        by_cases c2 : leB (!lo) p F
        · rw [updL_yes c2]
          have : btw p E F = false := by
            unfold btw
            cases lo <;> simp [leB] at * <;> omega
          have r0 : runL p (E :: F :: r) = 0 := by
            show (if btw p E F = true then _ else 0) = 0
            rw [this]; simp
          rw [r0]; rfl
        · rw [updL_no c2]
          have : btw p E F = true := by
            unfold btw
            cases lo <;> simp [leB] at * <;> omega
          have r1 : runL p (E :: F :: r) = runL p (F :: r) + 1 := by
            show (if btw p E F = true then _ else 0) = _
            rw [if_pos this]
          rw [r1]; rfl
      rw [e, List.append_assoc]
      refine Mean.more (t := t ++ [p]) a h (fun y hy => ?_) (by simp) ih
      rcases List.mem_append.mp hy with q | q
      · exact h2 y q
      · rw [List.mem_singleton.mp q]; exact c
def memF (row : List Int) : List Int := row.foldl aft [0]
theorem aft_updL (ms : List Int) (p : Int) : aft ms p = updL true ms p := by
  unfold aft updL
  simp
theorem mean_fold : ∀ (row xs ms : List Int), Mean true xs ms → Mean true (xs ++ row) (row.foldl aft ms)
  | [], xs, ms, m => by rw [List.append_nil]; exact m
  | p :: row, xs, ms, m => by
    have := mean_fold row (xs ++ [p]) (aft ms p) (by rw [aft_updL]; exact m.upd)
    rw [List.append_assoc] at this
    exact this
theorem mean_mem (row : List Int) : Mean true (0 :: row) (memF row) := mean_fold row [0] [0] (Mean.last [] (by simp))
/-! ### memories stay well formed -/
theorem getD_take {ps : List Int} {n i : Nat} (h : i < n) : (ps.take n).getD i 0 = ps.getD i 0 := by
  rw [List.getD_eq_getElem?_getD, List.getD_eq_getElem?_getD, List.getElem?_take_of_lt h]
theorem getD_app {xs ys : List Int} {i : Nat} (h : i < xs.length) : (xs ++ ys).getD i 0 = xs.getD i 0 := by
  rw [List.getD_eq_getElem?_getD, List.getD_eq_getElem?_getD, List.getElem?_append_left h]
theorem runL_btw {p : Int} : ∀ {ps : List Int} {j : Nat}, j < runL p ps → btw p (ps.getD j 0) (ps.getD (j + 1) 0) = true
  | [], j, h => by simp [runL] at h
  | [a], j, h => by simp [runL] at h
  | a :: c :: r, j, h => by
    unfold runL at h
    by_cases e : btw p a c = true
    · rw [if_pos e] at h
      cases j with
      | zero => exact e
      | succ j => exact runL_btw (ps := c :: r) (j := j) (by omega)
    · rw [if_neg e] at h; omega
theorem fitB_pre {ps qs : List Int} {i : Nat} (h : ∀ j, j ≤ i → qs.getD j 0 = ps.getD j 0) : fitB qs i = fitB ps i := by
  unfold fitB
  by_cases h0 : i = 0
  · subst h0; rw [if_pos rfl, if_pos rfl, h 0 (Nat.le_refl _)]
  · by_cases h1 : i = 1
    · subst h1; rw [if_neg h0, if_neg h0, if_pos rfl, if_pos rfl, h 0 (by omega), h 1 (Nat.le_refl _)]
    · rw [if_neg h0, if_neg h0, if_neg h1, if_neg h1, h i (Nat.le_refl _), h (i - 2) (by omega), h (i - 1) (by omega)]
theorem okMem_aft {ps : List Int} {p : Int} (ok : okMem ps) (hp : isPl p = true) (hl : ps.length < 5000) : okMem (aft ps p) := by
  obtain ⟨ne, _, fit⟩ := ok
  have l := aft_len ps p ne
  refine ⟨l.2, by omega, fun i hi => ?_⟩
  have h0 : 0 < ps.length := List.length_pos_iff.mpr ne
  have f0 := fit 0 h0
  unfold aft at hi ⊢
  by_cases c : p ≤ ps.getD 0 0
  · rw [if_pos c] at hi ⊢
    have : i = 0 := by simpa using hi
    subst this
    have q : ps.getD 0 0 ≤ 0 := by
      unfold fitB at f0
      rw [if_pos rfl, Bool.and_eq_true] at f0
      exact of_decide_eq_true f0.2
    unfold fitB
    rw [if_pos rfl]
    show (isPl p && decide (p ≤ 0)) = true
    rw [hp, decide_eq_true (Int.le_trans c q)]; rfl
  · rw [if_neg c] at hi ⊢
    have rl := runL_lt p ps ne
    have lt : (ps.take (runL p ps + 1)).length = runL p ps + 1 := by rw [List.length_take]; omega
    rw [List.length_append, lt, List.length_singleton] at hi
    by_cases hlast : i = runL p ps + 1
    · subst hlast
      have e1 : (ps.take (runL p ps + 1) ++ [p]).getD (runL p ps + 1) 0 = p := by
        rw [List.getD_eq_getElem?_getD, List.getElem?_append_right (by omega), lt, Nat.sub_self]; rfl
      have e2 : ∀ j, j ≤ runL p ps → (ps.take (runL p ps + 1) ++ [p]).getD j 0 = ps.getD j 0 := fun j hj => by
        rw [getD_app (by omega), getD_take (by omega)]
      unfold fitB
      rw [e1, hp, Bool.true_and, if_neg (by omega)]
      by_cases h1 : runL p ps = 0
      · rw [if_pos (by omega), e2 0 (by omega)]
        have : (ps.take (runL p ps + 1) ++ [p]).getD 1 0 = p := by
          have := e1
          rw [h1] at this ⊢
          exact this
        rw [this]
        exact decide_eq_true (by omega)
      · rw [if_neg (by omega), e2 _ (by omega), e2 _ (by omega)]
        have := runL_btw (p := p) (ps := ps) (j := runL p ps - 1) (by omega)
        have a1 : runL p ps + 1 - 2 = runL p ps - 1 := by omega
        have a2 : runL p ps + 1 - 1 = runL p ps - 1 + 1 := by omega
        rw [a1, a2]
        exact this
    · have hi' : i < ps.length := by omega
      rw [fitB_pre (ps := ps) fun j hj => by rw [getD_app (by omega), getD_take (by omega)]]
      exact fit i hi'
theorem okMem_zero : okMem [0] := ⟨by simp, by simp, fun i hi => by
  have : i = 0 := by simpa using hi
  subst this; decide⟩
theorem okMem_fold : ∀ (row ps : List Int), okMem ps → (∀ x ∈ row, isPl x = true) → ps.length + row.length ≤ 5000 → okMem (row.foldl aft ps) ∧ (row.foldl aft ps).length ≤ ps.length + row.length
  | [], ps, ok, _, _ => ⟨ok, by simp⟩
  | p :: row, ps, ok, hp, hl => by
    rw [List.length_cons] at hl
    have l := aft_len ps p ok.1
    have := okMem_fold row (aft ps p) (okMem_aft ok (hp p List.mem_cons_self) (by omega)) (fun x hx => hp x (List.mem_cons_of_mem _ hx)) (by omega)
    refine ⟨this.1, ?_⟩
    have := this.2
    show (row.foldl aft (aft ps p)).length ≤ _
    rw [List.length_cons]
    omega
theorem okMem_memF {row : List Int} (hp : ∀ x ∈ row, isPl x = true) (hl : row.length ≤ 4000) : okMem (memF row) ∧ (memF row).length ≤ row.length + 1 := by
  have := okMem_fold row [0] okMem_zero hp (by simp; omega)
  refine ⟨this.1, ?_⟩
  have := this.2
  show (row.foldl aft [0]).length ≤ _
  simp at this ⊢
  omega
section
variable {P : Program} {w : World} {K : PySem.W.Frag} {mg : Str → Option Value} {base : Heap} {C f p : Addr}
abbrev fPl : Str := "_places"
abbrev Mem (K : PySem.W.Frag) (C : Addr) (ps : List Int) : Pr := Ob K C fPl (dT ps)
theorem t_len {Γ : Z.Ctx} {te : TE} {ds : List PyData} (a : T Γ te (D K (.tuple ds))) : T Γ (tCB (fun xs H Q => ∃ p ys, xs = [.ref p] ∧ (SqL K H p ys ∨ SqT K H p ys) ∧ Q (.int ys.length) H) (tCons te tNil)) (I K ds.length) := t_cb (ta_cons a ta_nil) fnp_lenT
abbrev spMInit (K : PySem.W.Frag) (C : Addr) : Sp := spIni K C fPl (fun d => ∃ ps, d = dT ps ∧ okMem ps)
theorem ok_mem_init (c : CK K C fPl) (d : Dm K "__init__" "Memory.__init__" s_Memory__init_ P_Memory__init_ f) (c__check_places : Fx P w K mg base 4 "_check_places" (spChk K)) : ∃ fd, FnOk P w K mg base CX0 5 f fd P_Memory__init_ (spMInit K C) ∧ Binds K fd P_Memory__init_ [] := by
  refine d.ok (N := N_Memory__init_) sc_Memory__init_ (fun vs H Q E h => ?_) (fun cdv A outer s H vs Q E hr h => ⟨_, pss_cons (ps_expr (pe_f c__check_places hr (by first | exact Nat.le_refl _ | decide) rfl (pa_cons (pv 1) (pa_nil))))
 (pss_one (ps_fld (pv 0) (pv 1) rfl)), ?_⟩)
  · obtain ⟨x, dx, d, v, h, rfl, _⟩ := h
    rfl
  · obtain ⟨x, dx, d, v, h, rfl, ho, e, nh, dq, ⟨ps, rfl, ok⟩, k⟩ := h
    refine ⟨_, rfl, ps, h, e, .cons dq .nil, ok, fun _ h1 H1 s1 _ => ?_⟩
    exact ⟨_, rfl, _, rfl, x, C, dx, [], rfl, s1.e _ _ ho, c.cl, c.na, by decide, k h1 H1 s1⟩
abbrev spMPlaces (K : PySem.W.Frag) (C : Addr) : Sp := Sv (fun a : List Int => [Mem K C a]) (fun _ => True) (fun a => D K (dT a))
theorem ok_mem_places (c : CK K C fPl) (d : Dm K "places" "Memory.places" s_Memory_places P_Memory_places f) : ∃ fd, FnOk P w K mg base CX0 1 f fd P_Memory_places (spMPlaces K C) ∧ Binds K fd P_Memory_places [] := by
  refine d.sv (N := N_Memory_places) sc_Memory_places (fun _ => rfl) fun cdv A outer s H E hr => ⟨_, pss_one (ps_ret (pe_fld (pv 0) rfl)), ?_⟩
  intro ps b _ Q k
  exact n_ret (t_fld c.cl c.na (t_var rfl)) k
theorem at_lastI {ps : List Int} (h : ps ≠ []) : atI ps (-1) = some (ps.getLast h) := by
  conv => lhs; rw [← List.dropLast_concat_getLast h]
  exact atI_last _ _
abbrev spMPlace (K : PySem.W.Frag) (C : Addr) : Sp := Sv (fun a : { ps : List Int // ps ≠ [] } => [Mem K C a.1]) (fun _ => True) (fun a => I K (a.1.getLast a.2))
theorem ok_mem_place (c : CK K C fPl) (d : Dm K "place" "Memory.place" s_Memory_place P_Memory_place f) : ∃ fd, FnOk P w K mg base CX0 1 f fd P_Memory_place (spMPlace K C) ∧ Binds K fd P_Memory_place [] := by
  refine d.sv (N := N_Memory_place) sc_Memory_place (fun _ => rfl) fun cdv A outer s H E hr => ⟨_, pss_one (ps_ret (pe_ix ix_tup (pe_fld (pv 0) rfl) (pe_un un_neg (pe_int)) (fun _ _ => rfl))), ?_⟩
  rintro ⟨ps, hne⟩ b _ Q k
  exact n_ret (t_op (t_fld c.cl c.na (t_var rfl)) (t_un t_int unp_neg) (opp_ixTI (ns := ps) (at_lastI hne))) k
def rowM (ps : List Int) : List Int := if ps.getD 0 0 = 0 then ps.drop 1 else ps
abbrev spMRow (K : PySem.W.Frag) (C : Addr) : Sp := Sv (fun a : List Int => [Mem K C a]) (fun a => a ≠ []) (fun a => D K (dI (rowM a)))
theorem ok_mem_row (tx : Tx mg) (c : CK K C fPl) (d : Dm K "row" "Memory.row" s_Memory_row P_Memory_row f) : ∃ fd, FnOk P w K mg base CX0 1 f fd P_Memory_row (spMRow K C) ∧ Binds K fd P_Memory_row [] := by
  refine d.sv (N := N_Memory_row) sc_Memory_row (fun _ => rfl) fun cdv A outer s H E hr => ⟨_, pss_cons (ps_if (pt_cmpR op_eq (pe_ix ix_tup (pe_fld (pv 0) rfl) (pe_int) (fun _ _ => rfl)) (pe_int) (nomark _)) (pss_one (ps_ret (pe_callTy call_list_of (by rfl) tx.b_list boot_list (pa_cons (pe_slice sl_tupA (pe_fld (pv 0) rfl) (po_some (pe_int)) po_none) (pa_nil))))) (pss_nil))
 (pss_one (ps_ret (pe_callTy call_list_of (by rfl) tx.b_list boot_list (pa_cons (pe_fld (pv 0) rfl) (pa_nil))))), ?_⟩
  intro ps b hne Q k
  have h0 : 0 < ps.length := List.length_pos_iff.mpr hne
  refine q_if (tb_test (t_op (t_op (t_fld c.cl c.na (t_var rfl)) t_int (opp_ixTI (ns := ps) (at_getD (i := 0) h0))) t_int opp_eqI)) (fun h => ?_) (fun h => n_next ?_)
  · refine n_ret (P := D K (dI (rowM ps))) (t_eqD (t_cb (ta_cons (t_slT (t_fld c.cl c.na (t_var rfl)) (to_some (K := K) (i := ((1 : Nat) : Int)) t_int) to_none) ta_nil) fnp_listT) ?_) k
    have : rowM ps = ps.drop 1 := if_pos (by simpa using h)
    rw [cutD_from, this]
    show PyData.list _ = PyData.list ((ps.drop 1).map PyData.int)
    rw [List.map_drop]
  · refine n_ret (P := D K (dI (rowM ps))) (t_eqD (t_cb (ta_cons (t_fld c.cl c.na (t_var rfl)) ta_nil) fnp_listT) ?_) k
    have : rowM ps = ps := if_neg (by simpa using h)
    rw [this]
abbrev spMLen (K : PySem.W.Frag) (C : Addr) : Sp := Sv (fun a : List Int => [Mem K C a]) (fun _ => True) (fun a => I K (a.length : Int))
theorem ok_mem_len (tx : Tx mg) (c : CK K C fPl) (d : Dm K "__len__" "Memory.__len__" s_Memory__len_ P_Memory__len_ f) : ∃ fd, FnOk P w K mg base CX0 1 f fd P_Memory__len_ (spMLen K C) ∧ Binds K fd P_Memory__len_ [] := by
  refine d.sv (N := N_Memory__len_) sc_Memory__len_ (fun _ => rfl) fun cdv A outer s H E hr => ⟨_, pss_one (ps_ret (pe_callB call_len_seq (by rfl) tx.b_len boot_len (pa_cons (pe_fld (pv 0) rfl) (pa_nil)))), ?_⟩
  intro ps b _ Q k
  exact n_ret (P := I K (ps.length : Int)) (t_eqI (t_len (ds := ps.map PyData.int) (t_fld c.cl c.na (t_var rfl))) (by rw [List.length_map])) k
/-- == of a memory and a memory -/
abbrev spMEq (K : PySem.W.Frag) (C : Addr) : Sp := Sv (fun a : List Int × List Int => [Mem K C a.1, Mem K C a.2]) (fun _ => True) (fun a => B K (decide (a.1 = a.2)))
theorem ok_mem_eq (tx : Tx mg) (k_Memory : mg "Memory" = some (.ref C)) (c : CK K C fPl) (d : Dm K "__eq__" "Memory.__eq__" s_Memory__eq_ P_Memory__eq_ f) : ∃ fd, FnOk P w K mg base CX0 1 f fd P_Memory__eq_ (spMEq K C) ∧ Binds K fd P_Memory__eq_ [] := by
  refine d.sv (N := N_Memory__eq_) sc_Memory__eq_ (fun _ => rfl) fun cdv A outer s H E hr => ⟨_, pss_one (ps_ret (pe_and (pe_callB call_isi (by rfl) tx.b_isinstance boot_isinstance (pa_cons (pv 1) (pa_cons (pe_cls rfl k_Memory) pa_nil))) (pe_one (pe_cmpR (op_eqD hr.units) (pe_fld (pv 0) rfl) (pe_fld (pv 1) rfl) (nomark _))))), ?_⟩
  rintro ⟨ps, qs⟩ b _ Q k
  refine n_ret (P := B K (decide (ps = qs))) (t_eqB (t_andV (t_cb (ta_cons (t_var rfl) (ta_cons t_cls ta_nil)) (fnp_isC c)) fun _ => t_op (t_fld c.cl c.na (t_var rfl)) (t_fld c.cl c.na (t_var rfl)) (opp_eq (shaped_dT ps) (shaped_dT qs))) ?_) k
  rw [eqv_dT, Bool.true_and]
/-- == of a memory and a tuple -/
abbrev spMEqT (K : PySem.W.Frag) (C : Addr) : Sp := Sv (fun a : List Int × List PyData => [Mem K C a.1, D K (.tuple a.2)]) (fun _ => True) (fun a => B K false)
theorem ok_mem_eqT (tx : Tx mg) (k_Memory : mg "Memory" = some (.ref C)) (c : CK K C fPl) (d : Dm K "__eq__" "Memory.__eq__" s_Memory__eq_ P_Memory__eq_ f) : ∃ fd, FnOk P w K mg base CX0 1 f fd P_Memory__eq_ (spMEqT K C) ∧ Binds K fd P_Memory__eq_ [] := by
  refine d.sv (N := N_Memory__eq_) sc_Memory__eq_ (fun _ => rfl) fun cdv A outer s H E hr => ⟨_, pss_one (ps_ret (pe_and (pe_callB call_isi (by rfl) tx.b_isinstance boot_isinstance (pa_cons (pv 1) (pa_cons (pe_cls rfl k_Memory) pa_nil))) (pe_one (pe_cmpR (op_eqD hr.units) (pe_fld (pv 0) rfl) (pe_fld (pv 1) rfl) (nomark _))))), ?_⟩
  rintro ⟨ps, qs⟩ b _ Q k
  exact n_ret (P := B K false) (t_eqB (t_andV (b := false) (t_cb (ta_cons (t_var rfl) (ta_cons t_cls ta_nil)) (fnp_isT c)) fun h => by cases h) rfl) k
abbrev spCkPl (K : PySem.W.Frag) : Sp := Sv (fun a : Int => [I K a]) (fun a => isPl a = true) (fun _ => D K .none)
theorem ok_check_place (tx : Tx mg) (d : Dn K mg "check_place" s_check_place P_check_place) (c_is_place : Fx P w K mg base 2 "is_place" (spPlace K)) : Fx P w K mg base 3 "check_place" (spCkPl K) := by
  refine d.sv (N := N_check_place) sc_check_place (fun _ => rfl) (by decide) fun f cdv A outer s H E hr => ⟨_, pss_one (ps_if (pt_not (pt_val (pe_f c_is_place hr (by first | exact Nat.le_refl _ | decide) rfl (pa_cons (pv 0) (pa_nil))))) (pss_one (ps_never)) (pss_nil)), ?_⟩
  rintro p b hp Q k
  refine n_if (tb_not (tb_val (t_f (.int p) (ta_cons (t_var rfl) ta_nil) rfl))) (fun h => ?_) (fun _ => n_next ?_)
  · exfalso
    have hp' : isNum (.int p) (-1000000) 1000000 = true := hp
    rw [hp'] at h
    cases h
  · exact fun σ h H x s m => k .non h H s.st .non
abbrev spMCall (K : PySem.W.Frag) (C : Addr) : Sp := Sv (fun a : List Int × Int => [Mem K C a.1, I K a.2]) (fun a => okMem a.1 ∧ isPl a.2 = true ∧ a.1.length < 5000) (fun a => Mem K C (aft a.1 a.2))
theorem ok_mem_call (c : CK K C fPl) (d : Dm K "__call__" "Memory.__call__" s_Memory__call_ P_Memory__call_ f) (c_check_place : Fx P w K mg base 3 "check_place" (spCkPl K)) (c__after_move : Fx P w K mg base 2 "_after_move" (spAft K)) (m_Memory : Ix P w K mg base 5 "Memory" C (spMInit K C)) :
    ∃ fd, FnOk P w K mg base CX0 7 f fd P_Memory__call_ (spMCall K C) ∧ Binds K fd P_Memory__call_ [] := by
  refine d.sv (N := N_Memory__call_) sc_Memory__call_ (fun _ => rfl) fun cdv A outer s H E hr => ⟨_, pss_cons (ps_expr (pe_f c_check_place hr (by first | exact Nat.le_refl _ | decide) rfl (pa_cons (pv 1) (pa_nil))))
 (pss_one (ps_ret (pe_mkR m_Memory hr (by decide) rfl (pa_cons (pe_f c__after_move hr (by first | exact Nat.le_refl _ | decide) rfl (pa_cons (pe_fld (pv 0) rfl) (pa_cons (pv 1) (pa_nil)))) (pa_nil))))), ?_⟩
  rintro ⟨ps, p⟩ b ⟨ok, hp, hl⟩ Q k
  refine q_drop (t_f p (ta_cons (t_var rfl) ta_nil) hp) ?_
  exact n_ret (P := Mem K C (aft ps p)) (t_mkOb (t_f (ps, p) (ta_cons (t_fld c.cl c.na (t_var rfl)) (ta_cons (t_var rfl) ta_nil)) ⟨ok.1, ok.2.1⟩) ⟨_, rfl, okMem_aft ok hp hl⟩) k
abbrev spMemOf (K : PySem.W.Frag) (C : Addr) : Sp := Sv (fun a : List Int => [D K (dI a)]) (fun a => a.length ≤ 1000 ∧ ∀ x ∈ a, isPl x = true) (fun a => Mem K C (memF a))
theorem ok_memory_of (tx : Tx mg) (d : Dn K mg "memory_of" s_memory_of P_memory_of) (c_check_row : Fx P w K mg base 3 "check_row" (spRow K)) (c__after_move : Fx P w K mg base 2 "_after_move" (spAft K)) (m_Memory : Ix P w K mg base 5 "Memory" C (spMInit K C)) : Fx P w K mg base 7 "memory_of" (spMemOf K C) := by
  refine d.sv (N := N_memory_of) sc_memory_of (fun _ => rfl) (by decide) fun f cdv A outer s H E hr => ⟨_, pss_cons (ps_expr (pe_f c_check_row hr (by first | exact Nat.le_refl _ | decide) rfl (pa_cons (pv 0) (pa_nil))))
 (pss_cons (ps_set (i := 1) sc_memory_of.nd rfl (Or.inl rfl) (pe_tup (pa_cons (pe_int) (pa_nil))))
 (pss_cons (ps_for PassesOwn.never rfl (pi_list (pv 0)) (pg_name (i := 2) sc_memory_of.nd rfl (Or.inl rfl)) (pss_one (ps_set (i := 1) sc_memory_of.nd rfl (Or.inl rfl) (pe_f c__after_move hr (by first | exact Nat.le_refl _ | decide) rfl (pa_cons (pv 1) (pa_cons (pv 2) (pa_nil)))))))
 (pss_one (ps_ret (pe_mkR m_Memory hr (by decide) rfl (pa_cons (pv 1) (pa_nil))))))), ?_⟩
  rintro ns b ⟨hz, hp⟩ Q k
  have hz' : ns.length ≤ 1000 := hz
  refine q_drop (t_f ns (ta_cons (t_var rfl) ta_nil) ⟨hz, hp⟩) ?_
  refine q_asg (P := D K (dT [0])) (t_tup (ds := [.int 0]) (ta_cons t_int ta_nil) (by simp)) ?_
  refine q_seq ?_
  refine n_forL (γ := Unit) (ds := ns.map PyData.int) (fun _ _ => True) (fun i _ => [some (D K (dI ns)), some (D K (dT ((ns.take i).foldl aft [0]))), none]) (fun _ _ => none) () (t_var rfl) trivial (le_same (le_same (le_skip le_nil))) ?_ ?_
  · intro hb i d _ hd _
    obtain ⟨z, hz1, rfl⟩ : ∃ z, ns[i]? = some z ∧ d = .int z := by
      rw [List.getElem?_map] at hd
      cases e : ns[i]? with
      | none => rw [e] at hd; cases hd
      | some z => rw [e] at hd; exact ⟨z, rfl, (Option.some.inj hd).symm⟩
    have hi : i < ns.length := (List.getElem?_eq_some_iff.mp hz1).1
    have tk : ns.take (i + 1) = ns.take i ++ [z] := by
      rw [List.take_add_one, hz1]; rfl
    have ok := okMem_memF (row := ns.take i) (fun x hx => hp x (List.mem_of_mem_take hx)) (by rw [List.length_take]; omega)
    have l5 := ok.2
    rw [List.length_take] at l5
    refine n_asg (P := D K (dT (aft ((ns.take i).foldl aft [0]) z))) (t_f ((ns.take i).foldl aft [0], z) (ta_cons (t_var rfl) (ta_cons (t_var rfl) ta_nil)) ⟨ok.1.1, by show (memF (ns.take i)).length ≤ 5000; omega⟩) ?_
    refine n_pv () ?_ ?_ ?_
    · trivial
    · rfl
    · refine le_same (le_eqD ?_ (le_skip le_nil))
      rw [tk, List.foldl_append]; rfl
  · intro hb _ _
    have ok := okMem_memF (row := ns) hp (by omega)
    refine n_ret (P := Mem K C (memF ns)) (t_mkOb (d := dT (memF ns)) (t_eqD (t_var rfl) ?_) ⟨_, rfl, ok.1⟩) k
    rw [List.length_map, List.take_length]; rfl
end
/-! ### the law's numbers -/
section
variable {P : Program} {w : World} {K : PySem.W.Frag} {mg : Str → Option Value} {base : Heap}
theorem fx_len {k : Nat} {x : Str} {sp sp' : Sp} (c : Fx P w K mg base k x sp) (h : ∀ f, FnR P w K mg base CX0 k f sp → FnR P w K mg base CX0 k f sp') : Fx P w K mg base k x sp' := by
  obtain ⟨f, a, b, F⟩ := c.ex
  exact ⟨f, a, b, h f F⟩
theorem ifT {c : Bool} {A B : Prop} (hc : c = true) (h : A) : if c = true then A else B := by rw [if_pos hc]; exact h
theorem ifF {c : Bool} {A B : Prop} (hc : c = false) (h : B) : if c = true then A else B := by rw [hc, if_neg Bool.false_ne_true]; exact h
theorem at0 {a : Int} {r : List Int} : atI ((a :: r).map V.int) 0 = some (.int a) := atI_nat (j := 0) rfl
theorem at1 {a c : Int} {r : List Int} : atI ((a :: c :: r).map V.int) 1 = some (.int c) := atI_nat (j := 1) rfl
theorem ix0 {a : Int} {r : List Int} : ixN ((a :: r).map V.int).length 0 = some 0 := Evl.ixN_nat (j := 0) (by simp)
theorem ix1 {a c : Int} {r : List Int} : ixN ((a :: c :: r).map V.int).length 1 = some 1 := Evl.ixN_nat (j := 1) (by simp)
theorem ok_law_below (tx : Tx mg) (d : Dn K mg "_law_below" s__law_below P__law_below) : Fx P w K mg base 1 "_law_below" (spBelow K) := by
  refine fx_len (d.fx (N := N__law_below) (sp := spBelowL) sc__law_below (fun vs H Q E h => ?_) (fun f cdv A outer s H vs Q E hr h => ⟨_, pss_cons (ps_if ((PW.pt (pw_and (pt_cmpR op_eq (pe_ix ix_list (pv 0) (pe_int) (fun _ _ => rfl)) (pe_int) (nomark _)) (pw_and1 (pt_cmpR op_gt (pe_callB call_len_seq (by rfl) tx.b_len boot_len (pa_cons (pv 0) (pa_nil))) (pe_int) (nomark _)))))) (pss_one (ps_asg (pe_bm PySem.F.plainAttrs_list PySem.F.slot_list_pop PySem.F.type_list_pop mt_popAt (pv 0) (pa_cons (pe_int) (pa_nil))) (pg_sub (pv 0) (pe_int) set_list))) (pss_nil))
 (pss_cons (ps_if (pt_cmpR op_gt (pe_ix ix_list (pv 0) (pe_int) (fun _ _ => rfl)) (pe_int) (nomark _)) (pss_cons (ps_set (i := 2) sc__law_below.nd rfl (Or.inl rfl) (pe_op op_mod (pe_callTy call_int1 (by rfl) tx.b_int boot_int (pa_cons (pe_ix ix_list (pv 0) (pe_int) (fun _ _ => rfl)) (pa_nil))) (pv 1)))
 (pss_cons (ps_asg (pe_op op_fdiv (pe_ix ix_list (pv 0) (pe_int) (fun _ _ => rfl)) (pv 1)) (pg_sub (pv 0) (pe_int) set_list))
 (pss_one (ps_ret (pv 2))))) (pss_nil))
 (pss_cons (ps_asg (pe_op op_mod (pe_callTy call_int1 (by rfl) tx.b_int boot_int (pa_cons (pe_op op_add (pe_op op_mul (pe_ix ix_list (pv 0) (pe_int) (fun _ _ => rfl)) (pe_int)) (pe_int)) (pa_nil))) (pe_int)) (pg_sub (pv 0) (pe_int) set_list))
 (pss_one (ps_ret (pe_op op_mod (pe_callTy call_int1 (by rfl) tx.b_int boot_int (pa_cons (pe_op op_fdiv (pe_ix ix_list (pv 0) (pe_int) (fun _ _ => rfl)) (pe_int)) (pa_nil))) (pv 1)))))), ?_⟩)) fun f F => below_ext F
  · obtain ⟨d, ns, n, rfl, _⟩ := h
    rfl
  · obtain ⟨d, ns, n, rfl, hd, ok, ⟨n0, n1⟩, k⟩ := h
    have lim : n.natAbs < 1073741824 := by omega
    -- from a list that is okD on: the part behind the first if
    have rest : ∀ (ns : List Int), okD ns → ∀ H' : Hp, (∀ ms : List Int, upd H' d (.lst (ms.map V.int)) = upd H d (.lst (ms.map V.int))) → H' d = some (.lst (ns.map V.int)) →
        (tSeq (tIfS (tTest (tOp (rI0 fun i j => .bl (decide (j < i))) (tOp (rIxL K) (tVar 0) (tC (.int 1))) (tC (.int 0))))
          (tSeq (tAsg (tOp (rI (fun _ j => 0 < j) fun i j => .int (i % j)) (tCB (fun xs H Q => (∃ i, xs = [.int i] ∧ Q (.int i) H) ∨ ∃ k, xs = [.bl k] ∧ Q (.int (if k then 1 else 0)) H) (tCons (tOp (rIxL K) (tVar 0) (tC (.int 1))) tNil)) (tVar 1)) (gName 2))
            (tSeq (tAsg (tOp (rI CDiv fun i j => .int (i / j)) (tOp (rIxL K) (tVar 0) (tC (.int 1))) (tVar 1)) (gSub (tVar 0) (tC (.int 1)) rSetL)) (tRet (tVar 2)))) tNext)
          (tSeq (tAsg (tOp (rI (fun _ j => 0 < j) fun i j => .int (i % j)) (tCB (fun xs H Q => (∃ i, xs = [.int i] ∧ Q (.int i) H) ∨ ∃ k, xs = [.bl k] ∧ Q (.int (if k then 1 else 0)) H) (tCons (tOp (rI0 fun i j => .int (i + j)) (tOp (rI CMul fun i j => .int (i * j)) (tOp (rIxL K) (tVar 0) (tC (.int 0))) (tC (.int 48271))) (tC (.int 11))) tNil)) (tC (.int 2147483647))) (gSub (tVar 0) (tC (.int 0)) rSetL))
            (tRet (tOp (rI (fun _ j => 0 < j) fun i j => .int (i % j)) (tCB (fun xs H Q => (∃ i, xs = [.int i] ∧ Q (.int i) H) ∨ ∃ k, xs = [.bl k] ∧ Q (.int (if k then 1 else 0)) H) (tCons (tOp (rI CDiv fun i j => .int (i / j)) (tOp (rIxL K) (tVar 0) (tC (.int 0))) (tC (.int 64))) tNil)) (tVar 1)))))
        { nx := fun _ H' => Q .non H', rt := Q } [some (.ref d), some (.int n), none] H' := by
      intro ns ok H' hU hd
      obtain ⟨s, x, r, rfl, ⟨s0, s1⟩, x0, hr, hl⟩ := ok
      by_cases hx : 0 < x
      · refine ⟨_, rfl, d, _, _, _, rfl, rfl, Evl.sq_of hd, at1, _, _, rfl, rfl, _, rfl, ?_⟩
        refine ifT (decide_eq_true hx) ?_
        refine ⟨_, rfl, d, _, _, _, rfl, rfl, Evl.sq_of hd, at1, .inl ⟨x, rfl, _, rfl, x, n, rfl, rfl, n0, ?_⟩⟩
        refine ⟨_, rfl, d, _, _, _, rfl, rfl, Evl.sq_of hd, at1, _, rfl, x, n, rfl, rfl, ⟨n0, by omega⟩, _, rfl, d, _, _, 1, rfl, rfl, hd, ix1, ?_⟩
        refine ⟨_, rfl, ?_⟩
        have := k (x % n) (s :: x / n :: r) (Int.emod_nonneg _ (by omega)) (Int.emod_lt_of_pos _ n0) ⟨s, x / n, r, rfl, ⟨s0, s1⟩, Int.ediv_nonneg x0 (by omega), hr, hl⟩
        rw [← hU] at this
        exact this
      · refine ⟨_, rfl, d, _, _, _, rfl, rfl, Evl.sq_of hd, at1, _, _, rfl, rfl, _, rfl, ?_⟩
        refine ifF (decide_eq_false hx) ?_
        refine ⟨_, rfl, d, _, _, _, rfl, rfl, Evl.sq_of hd, at0, s, _, rfl, rfl, .inr ⟨by decide, by decide⟩, _, _, rfl, rfl, .inl ⟨_, rfl, _, _, rfl, rfl, (show (0 : Int) < 2147483647 by decide), _, rfl, d, _, _, 0, rfl, rfl, hd, ix0, ?_⟩⟩
        refine ⟨_, rfl, d, _, _, _, rfl, rfl, Evl.sq_of upd_same, at0, _, _, rfl, rfl, ⟨by decide, by decide⟩, .inl ⟨_, rfl, _, rfl, _, n, rfl, rfl, n0, ?_⟩⟩
        have := k ((s * 48271 + 11) % 2147483647 / 64 % n) (((s * 48271 + 11) % 2147483647) :: x :: r) (Int.emod_nonneg _ (by omega)) (Int.emod_lt_of_pos _ n0) ⟨_, x, r, rfl, ⟨Int.emod_nonneg _ (by decide), Int.emod_lt_of_pos _ (by decide)⟩, x0, hr, hl⟩
        rw [← hU] at this
        exact this
    obtain ⟨s, x, r, rfl, ⟨s0, s1⟩, x0, hr', hl⟩ := id ok
    refine ⟨_, rfl, d, _, _, .int x, rfl, rfl, Evl.sq_of hd, at1, rfl, _, rfl, ?_⟩
    by_cases hx : x = 0
    · subst hx
      refine ifT (by simp) ?_
      refine ⟨_, rfl, d, _, rfl, .inl (Evl.sq_of hd), _, _, rfl, rfl, _, rfl, ?_⟩
      cases r with
      | nil =>
        refine ifF (by simp) ?_
        exact rest _ ok H (fun _ => rfl) hd
      | cons y r =>
        refine ifT (by simp; omega) ?_
        refine ⟨_, rfl, .inl ⟨rfl, _, Evl.sq_of hd⟩, d, _, 2, 2, .int y, rfl, rfl, hd, by decide, by decide, (ixN_seq (Evl.ixN_nat (j := 2) (by simp))).1, rfl, ?_⟩
        refine ⟨_, rfl, d, _, _, 1, rfl, rfl, upd_same, ix1 (a := s) (c := 0) (r := r), ?_⟩
        refine rest (s :: y :: r) ⟨s, y, r, rfl, ⟨s0, s1⟩, hr' y List.mem_cons_self, fun z hz => hr' z (List.mem_cons_of_mem _ hz), by rw [List.length_cons] at hl; omega⟩ _ (fun ms => by rw [upd_upd, upd_upd]) upd_same
    · refine ifF (by simp [hx]) ?_
      exact rest _ ok H (fun _ => rfl) hd
end
section
variable {P : Program} {w : World} {K : PySem.W.Frag} {mg : Str → Option Value} {base : Heap}
theorem fnp_int {i : Int} : FnP (fun xs H Q => (∃ i, xs = [.int i] ∧ Q (.int i) H) ∨ ∃ k, xs = [.bl k] ∧ Q (.int (if k = true then 1 else 0)) H) [I K i] (I K i) := fnp_int1 fun H Q q => .inl ⟨i, rfl, q⟩
theorem map_int_get {ns : List Int} {i : Nat} {d : PyData} (hd : (ns.map PyData.int)[i]? = some d) : ∃ z, ns[i]? = some z ∧ d = .int z := by
  rw [List.getElem?_map] at hd
  cases e : ns[i]? with
  | none => rw [e] at hd; cases hd
  | some z => rw [e] at hd; exact ⟨z, rfl, (Option.some.inj hd).symm⟩
/-- a comprehension whose items are ints: as G says -/
def GI (K : PySem.W.Frag) (R : Nat → List Int → Prop) (i : Nat) (Ps : List Pr) : Prop := ∃ ms : List Int, Ps = ms.map (fun m => I K m) ∧ R i ms
theorem gi_data {R : Nat → List Int → Prop} {i : Nat} {v : V} {h : Hp} (q : (Pr.some fun Ps : { Ps // GI K R i Ps } => L K Ps.1).p v h) : ∃ ms, R i ms ∧ (D K (dI ms)).p v h := by
  obtain ⟨⟨Ps, ms, rfl, r⟩, q⟩ := q
  refine ⟨ms, r, l_data ?_⟩
  rw [List.map_map]
  exact q
theorem ok_law_random (tx : Tx mg) (d : Dn K mg "_law_random" s__law_random P__law_random) : Fx P w K mg base 1 "_law_random" (spRand K) := by
  refine fx_len (d.fx (N := N__law_random) (sp := spRandL K) sc__law_random (fun vs H Q E h => ?_) (fun f cdv A outer s H vs Q E hr h => ⟨_, pss_cons (ps_set (i := 2) sc__law_random.nd rfl (Or.inl rfl) (pv 1))
 (pss_cons (ps_for PassesOwn.never rfl (pi_list (pv 0)) (pg_name (i := 3) sc__law_random.nd rfl (Or.inl rfl)) (pss_one (ps_set (i := 2) sc__law_random.nd rfl (Or.inl rfl) (pe_op op_mod (pe_callTy call_int1 (by rfl) tx.b_int boot_int (pa_cons (pe_op op_add (pe_op op_mul (pv 2) (pe_int)) (pe_callB call_abs (by rfl) tx.b_abs boot_abs (pa_cons (pv 3) (pa_nil)))) (pa_nil))) (pe_int)))))
 (pss_one (ps_ret (pe_op op_cat (pe_lst (pa_cons (pv 2) (pa_cons (pe_int) (pa_nil)))) (pe_lc (own := [("_law_cell", 3)]) (g := gName 3) rfl sc__law_random.nd (pi_list (pv 0)) (blkOk_by (N := N__law_random) (sc := defScope s__law_random) (by decide +kernel)) (fun _ _ _ _ _ => pg_name (i := 3) sc__law_random.nd rfl (by first | exact Or.inl rfl | exact Or.inr rfl)) (fun _ _ _ _ _ => pts_one (pt_cmpR op_ge (pv 3) (pe_op op_pow (pe_int) (pe_int)) (nomark _))) (fun _ _ _ _ _ => pv 3)))))), ?_⟩)) fun f F => rand_ext F
  · obtain ⟨ns, n, h, e, q, _⟩ := h
    rw [q.len]; rfl
  · obtain ⟨ns, n, h, e, q, hn, hl, k⟩ := h
    have en := en_start (α := Unit) (args := fun _ => [Scr K ns, I K n]) (N := N__law_random) (ps := P__law_random) (a := ()) (fun _ => rfl) q
    revert en
    refine fun en => (?_ : Nx ⟨h, H, h⟩ _ none _) _ h H en ⟨Stp.refl e, fun _ _ q => q⟩ trivial
    refine q_asg (P := I K n) (t_var rfl) ?_
    refine q_seq ?_
    refine n_forLA (γ := { s : Int // 0 ≤ s ∧ s < 2147483647 }) (A := Scr K ns) (fun _ _ => True) (fun _ g => [some (Scr K ns), none, some (I K g.1), none]) (fun _ _ => none) ⟨n, by omega⟩ isL_scr (t_var rfl) trivial (le_same (le_skip (le_same (le_same le_nil)))) ?_ ?_
    · rintro hb i d ⟨s, s0, s1⟩ hd _
      obtain ⟨z, hz, rfl⟩ := map_int_get hd
      refine n_asg (P := I K ((s * 31 + (if z < 0 then -z else z)) % 2147483647)) (t_op (t_cb (ta_cons (t_op (t_op (t_var rfl) t_int (opp_IC (i := s) (j := 31) (.inl ⟨by omega, by omega⟩))) (t_cb (ta_cons (t_var rfl) ta_nil) fnp_abs) opp_I) ta_nil) fnp_int) t_int (opp_IC (by decide))) ?_
      refine n_pv ⟨(s * 31 + (if z < 0 then -z else z)) % 2147483647, Int.emod_nonneg _ (by decide), Int.emod_lt_of_pos _ (by decide)⟩ ?_ ?_ ?_
      · trivial
      · rfl
      · exact le_same (le_skip (le_same (le_skip le_nil)))
    · rintro hb ⟨s, s0, s1⟩ _
      refine n_retR fun σ h1 H1 x1 o1 => ?_
      have t1 : T [some (Scr K ns), none, some (I K s), none] (tLst (tCons (tVar 2) (tCons (tC (.int 0)) tNil))) (D K (dI [s, 0])) := t_lst (ds := [.int s, .int 0]) (ta_cons (t_var rfl) (ta_cons t_int ta_nil)) (by simp)
      refine raw_op t1 (t_lcLA (A := Scr K ns) (ds := ns.map PyData.int) (φ := fun i c => ∃ z, ns[i]? = some z ∧ c = decide ((10 : Int) ^ (18 : Int).toNat ≤ z)) (GI K fun i ms => (∀ y ∈ ms, 0 ≤ y) ∧ ms.length ≤ i) isL_scr (t_var rfl) ?_ ⟨[], rfl, by simp, Nat.le_refl _⟩ ?_ ?_ ?_ ?_) x1 o1.st.i fun u v h3 H3 s3 q1 q2 => ?_
      · rw [List.length_map]; omega
      · rintro i Ps ⟨ms, rfl, _, hm⟩
        rw [List.length_map]; exact hm
      · intro i d hd
        obtain ⟨z, hz, rfl⟩ := map_int_get hd
        exact tb_weak (tb_test (t_op (t_var rfl) (t_op t_int t_int (opp_IC ⟨by decide, by decide, by decide⟩)) opp_B)) fun c h => ⟨z, hz, h⟩
      · rintro i d hd ⟨z', hz', hc⟩ Ps ⟨ms, rfl, hm, hl'⟩
        obtain ⟨z, hz, rfl⟩ := map_int_get hd
        rw [hz'] at hz
        cases hz
        have hz0 : 0 ≤ z' := Int.le_trans (by decide) (of_decide_eq_true hc.symm)
        refine ⟨Unit, fun _ => I K z', t_some () (t_var rfl), fun _ => ⟨ms ++ [z'], by rw [List.map_append]; rfl, fun y hy => ?_, by rw [List.length_append, List.length_singleton]; omega⟩⟩
        rcases List.mem_append.mp hy with q | q
        · exact hm y q
        · rw [List.mem_singleton.mp q]; exact hz0
      · rintro i d hd _ Ps ⟨ms, rfl, hm, hl'⟩
        exact ⟨ms, rfl, hm, by omega⟩
      · obtain ⟨ms, ⟨hm, hl'⟩, q2⟩ := gi_data q2
        rw [List.length_map] at hl'
        obtain ⟨p1, rfl, hp1⟩ := dp_ints q1
        obtain ⟨p2, rfl, hp2⟩ := dp_ints q2
        refine ⟨p1, p2, _, _, rfl, rfl, s3.i _ _ hp1, s3.i _ _ hp2, ?_, fun r nr => ?_⟩
        · rw [List.length_map, List.length_map]
          refine Evl.sz_of ?_
          simp; omega
        · have e3 : Ex H H3 := fun a o z => s3.e a o (o1.st.e a o z)
          refine k r _ (s :: 0 :: ms) (Evl.fresh_back e3 nr) (fun a o z => by rw [upd_ne (ne_of_none (e3 a o z) nr)]; exact e3 a o z) ?_ ⟨s, 0, ms, rfl, ⟨s0, s1⟩, Int.le_refl 0, hm, by omega⟩
          rw [upd_same]
          rfl
end
section
variable {P : Program} {w : World} {K : PySem.W.Frag} {mg : Str → Option Value} {base : Heap}
abbrev spRw (K : PySem.W.Frag) : Sp := Sv (fun a : Int × Int => [Drw, I K a.1, I K a.2]) (fun a => (0 ≤ a.1 ∧ a.1 ≤ 900) ∧ (0 ≤ a.2 ∧ a.2 ≤ 900000)) (fun a => Pr.some fun ns : { ns : List Int // (ns.length : Int) ≤ a.1 ∧ ∀ x ∈ ns, -a.2 ≤ x ∧ x ≤ a.2 } => D K (dI ns.1))
theorem ok_law_row (tx : Tx mg) (d : Dn K mg "_law_row" s__law_row P__law_row) (c__law_below : Fx P w K mg base 1 "_law_below" (spBelow K)) : Fx P w K mg base 2 "_law_row" (spRw K) := by
  refine d.sv (N := N__law_row) sc__law_row (fun _ => rfl) (by decide) fun f cdv A outer s H E hr => ⟨_, pss_cons (ps_set (i := 3) sc__law_row.nd rfl (Or.inr rfl) (pe_ix ix_list (pe_lst (pa_cons (pe_int) (pa_cons (pe_op op_sub (pe_int) (pv 2)) (pa_nil)))) (pe_f c__law_below hr (by first | exact Nat.le_refl _ | decide) rfl (pa_cons (pv 0) (pa_cons (pe_int) (pa_nil)))) (fun _ _ => rfl)))
 (pss_one (ps_ret (pe_lc (own := [("_law_k", 4)]) (g := gName 4) (tt := tYes) rfl sc__law_row.nd (pi_range1 rfl tx.b_range (pa_cons (pe_f c__law_below hr (by first | exact Nat.le_refl _ | decide) rfl (pa_cons (pv 0) (pa_cons (pe_op op_add (pv 1) (pe_int)) (pa_nil)))) (pa_nil))) (blkOk_by (N := N__law_row) (sc := defScope s__law_row) (by decide +kernel)) (fun _ _ _ _ _ => pg_name (i := 4) sc__law_row.nd rfl (by first | exact Or.inl rfl | exact Or.inr rfl)) (fun _ _ _ _ _ => pts_nil) (fun _ _ _ _ _ => pe_op op_add (pv 3) (pe_f c__law_below hr (by first | exact Nat.le_refl _ | decide) rfl (pa_cons (pv 0) (pa_cons (pe_op op_add (pe_op op_sub (pv 2) (pv 3)) (pe_int)) (pa_nil)))))))), ?_⟩
  rintro ⟨mo, far⟩ b ⟨⟨m0, m1⟩, f0, f1⟩ Q k
  refine q_asg (P := Pr.some fun l : { l : Int // l = 0 ∨ l = 0 - far } => I K l.1) (t_op (t_lst (ds := [.int 0, .int (0 - far)]) (ta_cons t_int (ta_cons (t_op t_int (t_var rfl) opp_I) ta_nil)) (by simp)) (t_f 2 (ta_cons (t_var rfl) (ta_cons t_int ta_nil)) ⟨by decide, by decide⟩) (opp_someR fun r => ?_)) ?_
  · obtain ⟨r, r0, r1⟩ := r
    by_cases c : r = 0
    · subst c
      exact opp_to (opp_ixLI (ns := [0, 0 - far]) (z := 0) (atI_nat (j := 0) rfl)) fun v h q => ⟨⟨0, .inl rfl⟩, q⟩
    · have e : r = ((1 : Nat) : Int) := by omega
      subst e
      exact opp_to (opp_ixLI (ns := [0, 0 - far]) (z := 0 - far) (atI_nat (j := 1) rfl)) fun v h q => ⟨⟨0 - far, .inr rfl⟩, q⟩
  refine n_open 3 fun l => ?_
  obtain ⟨l, hl⟩ := l
  refine n_ret (P := Pr.some fun ns : { ns : List Int // (ns.length : Int) ≤ mo ∧ ∀ x ∈ ns, -far ≤ x ∧ x ≤ far } => D K (dI ns.1)) (t_lcR1S (ψ := fun n => 0 ≤ n ∧ n < mo + 1) (φ := fun _ _ c => c = true) (fun n => GI K fun i ms => (∀ x ∈ ms, -far ≤ x ∧ x ≤ far) ∧ ms.length ≤ i) (ta_cons (t_weak (t_f (mo + 1) (ta_cons (t_var rfl) (ta_cons (t_op (t_var rfl) t_int opp_I) ta_nil)) ⟨by omega, by omega⟩) fun v h ⟨⟨r, r0, r1⟩, q⟩ => ⟨⟨r, r0, r1⟩, q⟩) ta_nil) (fun n hn => by omega) (fun n hn => ⟨[], rfl, by simp, Nat.le_refl _⟩) ?_ ?_ ?_ ?_ ?_) k
  · rintro n i Ps ⟨ms, rfl, _, hm⟩
    rw [List.length_map]; exact hm
  · intro n i _ _
    exact tb_yes
  · rintro n i hn hi _ Ps ⟨ms, rfl, hm, hl'⟩
    refine ⟨{ r : Int // 0 ≤ r ∧ r < far - l + 1 }, fun r => I K (l + r.1), t_op (t_var rfl) (t_f (far - l + 1) (ta_cons (t_var rfl) (ta_cons (t_op (t_op (t_var rfl) (t_var rfl) opp_I) t_int opp_I) ta_nil)) ⟨by omega, by omega⟩) (opp_someR fun r => opp_to opp_I fun v h q => ⟨r, q⟩), fun r => ⟨ms ++ [l + r.1], by rw [List.map_append]; rfl, fun y hy => ?_, by rw [List.length_append, List.length_singleton]; omega⟩⟩
    rcases List.mem_append.mp hy with q | q
    · exact hm y q
    · rw [List.mem_singleton.mp q]
      have := r.2
      omega
  · rintro n i hn hi hc
    cases hc
  · rintro n Ps hn g v h q
    obtain ⟨ms, ⟨hm, hl'⟩, q⟩ := gi_data (K := K) (R := fun i ms => (∀ x ∈ ms, -far ≤ x ∧ x ≤ far) ∧ ms.length ≤ i) (i := n.toNat) ⟨⟨Ps, g⟩, q⟩
    exact ⟨⟨ms, by omega, hm⟩, q⟩
end
theorem leB_anti {lo : Bool} {a b : Int} (h : leB lo a b) (k : leB lo b a) : a = b := by
  cases lo <;> simp [leB] at * <;> omega
theorem getD_at {xs : List Int} {i : Nat} {z : Int} (h : xs[i]? = some z) : xs.getD i 0 = z := by rw [List.getD_eq_getElem?_getD, h]; rfl
theorem getD_mem {xs : List Int} {i : Nat} (h : i < xs.length) : xs.getD i 0 ∈ xs := by
  rw [List.getD_eq_getElem?_getD, List.getElem?_eq_getElem h]; exact List.getElem_mem h
theorem mean_at {lo : Bool} {xs ms : List Int} {m : Int} (M : Mean lo xs ms) (hm : m ∈ xs) (hx : ∀ y ∈ xs, leB lo m y) :
    ∃ j, j < xs.length ∧ xs.getD j 0 = m ∧ (∀ j', j < j' → j' < xs.length → xs.getD j' 0 ≠ m) ∧ ((j + 1 = xs.length ∧ ms = [m]) ∨ (j + 1 < xs.length ∧ ∃ ms', ms = m :: ms' ∧ Mean (!lo) (xs.drop j) ms')) := by
  obtain ⟨F, r, hF, hle⟩ := M.head
  cases M with
  | @last lo E a h =>
    cases hF
    have e : m = F := leB_anti (hx F (by simp)) (hle m hm)
    subst e
    refine ⟨a.length, by simp, getD_at (by simp), fun j' h1 h2 => ?_, .inl ⟨by simp, rfl⟩⟩
    simp at h2
    omega
  | @more lo E t ms a h h2 ne M =>
    cases hF
    have e : m = F := leB_anti (hx F (by simp)) (hle m hm)
    subst e
    have tp : 0 < t.length := List.length_pos_iff.mpr ne
    refine ⟨a.length, by simp, getD_at (by simp), fun j' h1 h3 c => ?_, .inr ⟨by simp; omega, r, rfl, by rw [List.drop_left]; exact M⟩⟩
    simp at h3
    have e1 : (a ++ m :: t).getD j' 0 = t.getD (j' - a.length - 1) 0 := by
      rw [List.getD_eq_getElem?_getD, List.getD_eq_getElem?_getD, List.getElem?_append_right (by omega)]
      obtain ⟨q, hq⟩ : ∃ q, j' - a.length = q + 1 := ⟨j' - a.length - 1, by omega⟩
      rw [hq, List.getElem?_cons_succ, Nat.add_sub_cancel]
    have : t.getD (j' - a.length - 1) 0 ∈ t := getD_mem (by omega)
    rw [← e1, c] at this
    exact h2 m this leB_rfl
theorem Mean.ne {lo : Bool} {xs ms : List Int} (M : Mean lo xs ms) : xs ≠ [] := by cases M <;> simp
/-! ### a memory's own row is the shortest -/
theorem leB_total {lo : Bool} {a b : Int} : leB lo a b ∨ leB lo b a := by
  cases lo <;> simp [leB] <;> omega
theorem Mean.drop1 {lo : Bool} {E : Int} {t ms : List Int} (M : Mean lo (E :: t) ms) (ne : t ≠ []) (h : ∀ y ∈ t, ¬ leB lo E y) : Mean lo t ms := by
  generalize hxs : E :: t = xs at M
  cases M with
  | @last lo F a h' =>
    cases a with
    | nil =>
      cases hxs
      exact absurd rfl ne
    | cons a0 a =>
      have e1 : t = a ++ [F] := (List.cons.inj hxs).2
      subst e1
      exact Mean.last a fun y hy => h' y (List.mem_cons_of_mem _ hy)
  | @more lo F t' ms a h' h2 ne' M =>
    cases a with
    | nil =>
      cases hxs
      obtain ⟨y, hy⟩ := List.exists_mem_of_ne_nil t ne
      rcases leB_total (lo := lo) (a := E) (b := y) with q | q
      · exact absurd q (h y hy)
      · exact absurd q (h2 y hy)
    | cons a0 a =>
      have e1 : t = a ++ F :: t' := (List.cons.inj hxs).2
      subst e1
      exact Mean.more a (fun y hy => h' y (List.mem_cons_of_mem _ hy)) h2 ne' M
theorem Mean.pre {lo : Bool} {x : Int} {xs ms : List Int} (M : Mean lo xs ms) (h : ∀ F r, ms = F :: r → leB lo F x) : Mean lo (x :: xs) ms := by
  cases M with
  | @last lo F a h' =>
    refine Mean.last (x :: a) fun y hy => ?_
    rcases List.mem_cons.mp hy with q | q
    · rw [q]; exact h _ _ rfl
    · exact h' y q
  | @more lo F t' ms a h' h2 ne' M =>
    refine Mean.more (x :: a) (fun y hy => ?_) h2 ne' M
    rcases List.mem_cons.mp hy with q | q
    · rw [q]; exact h _ _ rfl
    · exact h' y q
theorem Mean.next {lo : Bool} {E : Int} {t ms : List Int} (M : Mean (!lo) (E :: t) ms) (ne : t ≠ []) (h2 : ∀ y ∈ t, ¬ leB lo y E) : Mean (!lo) t ms := M.drop1 ne fun y hy => by
  have := h2 y hy
  cases lo <;> simp [leB] at * <;> omega
theorem Mean.sub : ∀ {ms : List Int} {lo : Bool} {xs : List Int}, Mean lo xs ms → ms.Sublist xs
  | [], lo, xs, M => List.nil_sublist _
  | E :: ms, lo, xs, M => by
    cases M with
    | last a h => exact List.sublist_append_right a [E]
    | more a h h2 ne M => exact (((M.next ne h2).sub).cons₂ E).trans (List.sublist_append_right a _)
theorem Mean.self : ∀ {ms : List Int} {lo : Bool} {xs : List Int}, Mean lo xs ms → Mean lo ms ms
  | [], lo, xs, M => by cases M
  | E :: ms, lo, xs, M => by
    cases M with
    | last a h => exact Mean.last [] (by simp)
    | @more _ _ t _ a h h2 ne M =>
      obtain ⟨F, r, rfl, hF⟩ := M.head
      exact Mean.more [] (by simp) (fun y hy => h2 y ((M.next ne h2).sub.subset hy)) (by simp) (M.self.pre fun F' r' e => by
        cases e
        exact hF E List.mem_cons_self)
theorem Mean.uniq : ∀ {n : Nat} {lo : Bool} {xs ms ns : List Int}, ms.length ≤ n → Mean lo xs ms → Mean lo xs ns → ms = ns
  | 0, lo, xs, ms, ns, h, M, N => by
    obtain ⟨F, r, rfl, _⟩ := M.head
    simp at h
  | n + 1, lo, xs, ms, ns, h, M, N => by
    obtain ⟨F, r, rfl, hF⟩ := M.head
    obtain ⟨F', r', rfl, hF'⟩ := N.head
    have m1 : F ∈ xs := M.sub.subset List.mem_cons_self
    have m2 : F' ∈ xs := N.sub.subset List.mem_cons_self
    have e : F = F' := leB_anti (hF _ m2) (hF' _ m1)
    subst e
    obtain ⟨j, j1, j2, j3, j4⟩ := mean_at M m1 hF
    obtain ⟨i, i1, i2, i3, i4⟩ := mean_at N m1 hF
    have e : i = j := by
      rcases Nat.lt_trichotomy i j with q | q | q
      · exact absurd j2 (i3 j q j1)
      · exact q
      · exact absurd i2 (j3 i q i1)
    subst e
    rcases j4 with ⟨a, b⟩ | ⟨a, m', b, M'⟩ <;> rcases i4 with ⟨c, d⟩ | ⟨c, n', d, N'⟩
    · rw [b, d]
    · omega
    · omega
    · obtain rfl := (List.cons.inj b).2
      obtain rfl := (List.cons.inj d).2
      have hl : r.length ≤ n := by simpa using h
      rw [Mean.uniq hl M' N']
theorem memF_uniq {row ms : List Int} (M : Mean true (0 :: row) ms) : memF row = ms := Mean.uniq (Nat.le_refl _) (mean_mem row) M
theorem memF_head (row : List Int) : ∃ F r, memF row = F :: r ∧ F ≤ 0 := by
  obtain ⟨F, r, e, h⟩ := (mean_mem row).head
  refine ⟨F, r, e, ?_⟩
  have := h 0 List.mem_cons_self
  simpa [leB] using this
theorem rowM_0 {r : List Int} : rowM (0 :: r) = r := rfl
theorem rowM_ne {F : Int} {r : List Int} (h : F ≠ 0) : rowM (F :: r) = F :: r := if_neg h
theorem memF_row (row : List Int) : memF (rowM (memF row)) = memF row := by
  have S := (mean_mem row).self
  obtain ⟨F, r, e, h⟩ := memF_head row
  rw [e] at S ⊢
  by_cases c : F = 0
  · subst c
    exact memF_uniq S
  · rw [rowM_ne c]
    exact memF_uniq (S.pre fun F' r' e => by cases e; simpa [leB] using h)
theorem row_min {row r : List Int} (h : memF r = memF row) : (rowM (memF row)).length ≤ r.length := by
  have M := mean_mem r
  rw [h] at M
  obtain ⟨F, q, e, _⟩ := memF_head row
  rw [e] at M ⊢
  have S := M.sub
  by_cases c : F = 0
  · subst c
    have := S.length_le
    simp at this
    exact this
  · rw [rowM_ne c]
    cases S with
    | cons _ S => exact S.length_le
    | cons_cons _ S => exact absurd rfl c
theorem rowM_mem {ns : List Int} {x : Int} (h : x ∈ rowM (memF ns)) : x = 0 ∨ x ∈ ns := by
  have h1 : x ∈ memF ns := by
    unfold rowM at h
    split at h
    · exact List.mem_of_mem_drop h
    · exact h
  exact List.mem_cons.mp ((mean_mem ns).sub.subset h1)
theorem isPl_in {x f : Int} (h : -f ≤ x ∧ x ≤ f) (hf : f ≤ 1000000) : isPl x = true := by
  show isNum (.int x) (-1000000) 1000000 = true
  unfold isNum
  simp
  omega
/-! ### rigs: arms, the ends of rods -/
section
variable {P : Program} {w : World} {K : PySem.W.Frag} {mg : Str → Option Value} {base : Heap} {C R f p : Addr}
abbrev fAr : Str := "_arms"
abbrev pA (arms : List (Int × Int)) : List (PyData × PyData) := arms.map fun a => (.int a.1, .int a.2)
abbrev dA (arms : List (Int × Int)) : PyData := .tuple ((pA arms).map fun p => .tuple [p.1, p.2])
abbrev Rg (K : PySem.W.Frag) (R : Addr) (arms : List (Int × Int)) : Pr := Ob K R fAr (dA arms)
def okA (arms : List (Int × Int)) : Prop := arms.length ≤ 60 ∧ ∀ a ∈ arms, a.1 ≤ 999 ∧ -1000000 ≤ a.2 ∧ a.2 ≤ 1000000
theorem pA_get {arms : List (Int × Int)} {i : Nat} {q : PyData × PyData} (h : (pA arms)[i]? = some q) : ∃ a, arms[i]? = some a ∧ q = (.int a.1, .int a.2) := by
  rw [List.getElem?_map] at h
  cases e : arms[i]? with
  | none => rw [e] at h; cases h
  | some a => rw [e] at h; exact ⟨a, rfl, (Option.some.inj h).symm⟩
theorem dA_len (arms : List (Int × Int)) : (((pA arms).map fun p => PyData.tuple [p.1, p.2]).length : Int) = (arms.length : Int) := by rw [List.length_map, List.length_map]
abbrev spCkA (K : PySem.W.Frag) : Sp := Sv (fun a : List (Int × Int) => [D K (dA a)]) okA (fun _ => D K .none)
theorem ok_check_arms (tx : Tx mg) (d : Dn K mg "_check_arms" s__check_arms P__check_arms) : Fx P w K mg base 1 "_check_arms" (spCkA K) := by
  refine d.sv (N := N__check_arms) sc__check_arms (fun _ => rfl) (by decide) fun f cdv A outer s H E hr => ⟨_, pss_cons (ps_if (pt_cmpR op_gt (pe_callB call_len_seq (by rfl) tx.b_len boot_len (pa_cons (pv 0) (pa_nil))) (pe_gK rfl tx.g_MOST_ARMS) (nomark _)) (pss_one (ps_never)) (pss_nil))
 (pss_one (ps_for PassesOwn.never rfl (pi_tup (pv 0)) (pg_tup rfl (pgs_cons (pg_name (i := 1) sc__check_arms.nd rfl (Or.inl rfl)) (pgs_cons (pg_name (i := 2) sc__check_arms.nd rfl (Or.inl rfl)) (pgs_nil)))) (pss_one (ps_if ((PW.pt (pw_or (pt_cmpR op_gt (pv 1) (pe_gK rfl tx.g_GREATEST_SLACK) (nomark _)) (pw_or1 (pt_not (pt_chain op_le op_le (pe_un un_neg (pe_gK rfl tx.g_GREATEST_ARM)) (pv 2) (pe_gK rfl tx.g_GREATEST_ARM))))))) (pss_one (ps_never)) (pss_nil))))), ?_⟩
  rintro arms b ⟨hl, ha⟩ Q k
  refine q_if (tb_weak (tb_test (t_op (t_eqI (t_len (t_var rfl)) (dA_len arms)) t_int opp_B)) (ψ := fun c => c = false) fun c h => by rw [h]; simp; omega) (fun h => by cases h) (fun _ => n_next ?_)
  refine n_forT2k (K := K) (γ := Unit) (prs := pA arms) (fun _ _ => True) (fun _ _ => [some (D K (dA arms)), none, none]) (fun _ _ => none) () isT_D (t_var rfl) trivial (le_same (le_skip (le_skip le_nil))) ?_ ?_
  · intro hb _ i q _ hq _
    obtain ⟨a, h1, rfl⟩ := pA_get hq
    have hb := ha a (List.mem_of_getElem? h1)
    refine n_if (tb_or (a := false) (b := false) (tb_weak (tb_test (t_op (t_var rfl) t_int opp_B)) fun c h => by rw [h]; simp; omega) fun _ => tb_weak (tb_not (tb_test (t_chain (t_un t_int unp_neg) (t_var rfl) t_int))) fun c h => by rw [h]; simp; omega) (fun h => by cases h) (fun _ => n_next ?_)
    refine n_pv () ?_ ?_ ?_
    · trivial
    · rfl
    · exact le_same (le_skip (le_skip le_nil))
  · intro hb _ _ _
    exact fun σ h H x s m => k .non h H s.st .non
abbrev spRInit (K : PySem.W.Frag) (R : Addr) : Sp := spIni K R fAr (fun d => ∃ arms, d = dA arms ∧ okA arms)
theorem ok_rig_init (c : CK K R fAr) (d : Dm K "__init__" "Rig.__init__" s_Rig__init_ P_Rig__init_ f) (c__check_arms : Fx P w K mg base 1 "_check_arms" (spCkA K)) : ∃ fd, FnOk P w K mg base CX0 2 f fd P_Rig__init_ (spRInit K R) ∧ Binds K fd P_Rig__init_ [] := by
  refine d.ok (N := N_Rig__init_) sc_Rig__init_ (fun vs H Q E h => ?_) (fun cdv A outer s H vs Q E hr h => ⟨_, pss_cons (ps_expr (pe_f c__check_arms hr (by first | exact Nat.le_refl _ | decide) rfl (pa_cons (pv 1) (pa_nil))))
 (pss_one (ps_fld (pv 0) (pv 1) rfl)), ?_⟩)
  · obtain ⟨x, dx, d, v, h, rfl, _⟩ := h
    rfl
  · obtain ⟨x, dx, d, v, h, rfl, ho, e, nh, dq, ⟨ps, rfl, ok⟩, k⟩ := h
    refine ⟨_, rfl, ps, h, e, .cons dq .nil, ok, fun _ h1 H1 s1 _ => ?_⟩
    exact ⟨_, rfl, _, rfl, x, R, dx, [], rfl, s1.e _ _ ho, c.cl, c.na, by decide, k h1 H1 s1⟩
abbrev spRArms (K : PySem.W.Frag) (R : Addr) : Sp := Sv (fun a : List (Int × Int) => [Rg K R a]) (fun _ => True) (fun a => D K (dA a))
theorem ok_rig_arms (c : CK K R fAr) (d : Dm K "arms" "Rig.arms" s_Rig_arms P_Rig_arms f) : ∃ fd, FnOk P w K mg base CX0 1 f fd P_Rig_arms (spRArms K R) ∧ Binds K fd P_Rig_arms [] := by
  refine d.sv (N := N_Rig_arms) sc_Rig_arms (fun _ => rfl) fun cdv A outer s H E hr => ⟨_, pss_one (ps_ret (pe_fld (pv 0) rfl)), ?_⟩
  intro ps b _ Q k
  exact n_ret (t_fld c.cl c.na (t_var rfl)) k
abbrev spRod (K : PySem.W.Frag) (R : Addr) : Sp := Sv (fun a : Int => [I K a]) (fun a => 0 ≤ a ∧ a ≤ 99) (fun a => Rg K R [(a, 1)])
theorem ok_rod (tx : Tx mg) (d : Dn K mg "rod" s_rod P_rod) (c_is_number : Fx P w K mg base 1 "is_number" (spNum K)) (m_Rig : Ix P w K mg base 2 "Rig" R (spRInit K R)) : Fx P w K mg base 4 "rod" (spRod K R) := by
  refine d.sv (N := N_rod) sc_rod (fun _ => rfl) (by decide) fun f cdv A outer s H E hr => ⟨_, pss_cons (ps_if (pt_not (pt_val (pe_f c_is_number hr (by first | exact Nat.le_refl _ | decide) rfl (pa_cons (pv 0) (pa_cons (pe_int) (pa_cons (pe_gK rfl tx.g_GREATEST_ROD) (pa_nil))))))) (pss_one (ps_never)) (pss_nil))
 (pss_one (ps_ret (pe_mkR m_Rig hr (by decide) rfl (pa_cons (pe_tup (pa_cons (pe_tup (pa_cons (pv 0) (pa_cons (pe_int) (pa_nil)))) (pa_nil))) (pa_nil))))), ?_⟩
  rintro a b ⟨a0, a1⟩ Q k
  refine q_if (tb_weak (tb_not (tb_val (t_f (.int a, 0, 99) (ta_cons (t_var rfl) (ta_cons t_int (ta_cons t_int ta_nil))) rfl))) (ψ := fun c => c = false) fun c h => by rw [h]; simp [isNum]; omega) (fun h => by cases h) (fun _ => n_next ?_)
  refine n_ret (P := Rg K R [(a, 1)]) (t_mkOb (pre := fun d => ∃ arms, d = dA arms ∧ okA arms) (d := dA [(a, 1)]) (t_tup (ds := [.tuple [.int a, .int 1]]) (ta_cons (t_tup (ds := [.int a, .int 1]) (ta_cons (t_var rfl) (ta_cons t_int ta_nil)) (by simp)) ta_nil) (by simp)) ⟨_, rfl, by simp, fun x hx => ?_⟩) k
  rw [List.mem_singleton.mp hx]
  show a ≤ 999 ∧ (-1000000 : Int) ≤ 1 ∧ (1 : Int) ≤ 1000000
  omega
/-! the end of one rod -/
def rodSt (s e x : Int) : Int := min (max e (x - s)) x
/-- the ends after each place, from end e -/
def rodEs (s : Int) : Int → List Int → List Int
  | _, [] => []
  | e, x :: xs => rodSt s e x :: rodEs s (rodSt s e x) xs
def rodE (s e : Int) (xs : List Int) : Int := xs.foldl (rodSt s) e
theorem rodEs_len (s : Int) : ∀ (e : Int) (xs : List Int), (rodEs s e xs).length = xs.length
  | _, [] => rfl
  | e, x :: xs => by show (rodEs s _ xs).length + 1 = _; rw [rodEs_len s _ xs]; rfl
theorem rodEs_take {s : Int} : ∀ {e : Int} {xs : List Int} {i : Nat} {x : Int}, xs[i]? = some x → rodEs s e (xs.take (i + 1)) = rodEs s e (xs.take i) ++ [rodE s e (xs.take (i + 1))] ∧ rodE s e (xs.take (i + 1)) = rodSt s (rodE s e (xs.take i)) x
  | e, [], i, x, h => by simp at h
  | e, y :: ys, 0, x, h => by
    have : y = x := by simpa using h
    subst this
    exact ⟨rfl, rfl⟩
  | e, y :: ys, i + 1, x, h => by
    have ih := rodEs_take (s := s) (e := rodSt s e y) (xs := ys) (i := i) (x := x) (by simpa using h)
    refine ⟨?_, ih.2⟩
    show rodSt s e y :: rodEs s (rodSt s e y) (ys.take (i + 1)) = rodSt s e y :: rodEs s (rodSt s e y) (ys.take i) ++ [rodE s (rodSt s e y) (ys.take (i + 1))]
    rw [ih.1]; rfl
abbrev spEoR (K : PySem.W.Frag) : Sp := Sv (fun a : Int × List Int => [I K a.1, D K (dT a.2)]) (fun a => a.2.length ≤ 5000) (fun a => D K (dI (rodEs a.1 0 a.2)))
theorem ok_ends_of_rod (tx : Tx mg) (d : Dn K mg "_ends_of_rod" s__ends_of_rod P__ends_of_rod) : Fx P w K mg base 1 "_ends_of_rod" (spEoR K) := by
  refine d.sv (N := N__ends_of_rod) sc__ends_of_rod (fun _ => rfl) (by decide) fun f cdv A outer s H E hr => ⟨_, pss_cons (ps_set (i := 2) sc__ends_of_rod.nd rfl (Or.inl rfl) (pe_lst (pa_nil)))
 (pss_cons (ps_set (i := 3) sc__ends_of_rod.nd rfl (Or.inl rfl) (pe_int))
 (pss_cons (ps_for PassesOwn.never rfl (pi_tup (pv 1)) (pg_name (i := 4) sc__ends_of_rod.nd rfl (Or.inl rfl)) (pss_cons (ps_set (i := 3) sc__ends_of_rod.nd rfl (Or.inl rfl) (pe_callB (call_min2 rfl) (by rfl) tx.b_min boot_min (pa_cons (pe_callB (call_max2 rfl) (by rfl) tx.b_max boot_max (pa_cons (pv 3) (pa_cons (pe_op op_sub (pv 4) (pv 0)) (pa_nil)))) (pa_cons (pv 4) (pa_nil)))))
 (pss_one (ps_expr (pe_bm PySem.F.plainAttrs_list PySem.F.slot_list_append PySem.F.type_list_append mt_append (pv 2) (pa_cons (pv 3) (pa_nil)))))))
 (pss_one (ps_ret (pv 2))))), ?_⟩
  rintro ⟨sl, ps⟩ b hl Q k
  have hl' : ps.length ≤ 5000 := hl
  refine qm_new (i := 2) ta_nil (by simp) ?_ (hl := (by decide : 2 < 5))
  refine q_asg (P := I K 0) t_int ?_
  refine q_seq ?_
  refine n_forTk (K := K) (γ := Unit) (ds := ps.map PyData.int) (fun _ _ => True) (fun i _ => [some (I K sl), some (D K (dT ps)), none, some (I K (rodE sl 0 (ps.take i))), none]) (fun i _ => some (2, Ct.lst ((rodEs sl 0 (ps.take i)).map fun n => I K n))) () isT_D (t_var rfl) trivial (le_same (le_same (le_skip (le_same (le_same le_nil))))) ?_ ?_
  · intro hb _ i d _ hd _
    obtain ⟨z, hz, rfl⟩ := map_int_get hd
    have hi := (List.getElem?_eq_some_iff.mp hz).1
    have tk := rodEs_take (s := sl) (e := 0) hz
    refine q_asg (P := I K (rodSt sl (rodE sl 0 (ps.take i)) z)) (t_cb (ta_cons (t_cb (ta_cons (t_var rfl) (ta_cons (t_op (t_var rfl) (t_var rfl) opp_I) ta_nil)) fnp_max2) (ta_cons (t_var rfl) ta_nil)) fnp_min2) ?_
    refine m_app (P := I K (rodSt sl (rodE sl 0 (ps.take i)) z)) (t_var rfl) (by rw [List.length_map, rodEs_len, List.length_take]; omega) ?_
    refine n_pv () ?_ ?_ ?_
    · trivial
    · show some (2, Ct.lst _) = some (2, Ct.lst _)
      rw [tk.1, tk.2, List.map_append]; rfl
    · exact le_same (le_same (le_skip (le_eqI tk.2.symm (le_skip le_nil))))
  · intro hb _ _ _
    refine m_freeze (K := K) ?_ (hl := (by decide : 2 < 5))
    exact n_ret (P := D K (dI (rodEs sl 0 ps))) (t_eqD (t_lI (t_var rfl)) (by rw [List.length_map, List.take_length])) k
end
/-! ### the ends of a rig -/
section
variable {P : Program} {w : World} {K : PySem.W.Frag} {mg : Str → Option Value} {base : Heap} {C R f p : Addr}
def addE (arm : Int) : List Int → List Int → List Int
  | e :: es, f :: fs => (e + arm * f) :: addE arm es fs
  | _, _ => []
def armsEs (ps : List Int) (init : List Int) (arms : List (Int × Int)) : List Int := arms.foldl (fun es a => addE a.2 es (rodEs a.1 0 ps)) init
theorem addE_len (arm : Int) : ∀ (es fs : List Int), es.length = fs.length → (addE arm es fs).length = es.length
  | [], [], _ => rfl
  | e :: es, f :: fs, h => by show (addE arm es fs).length + 1 = _; rw [addE_len arm es fs (by simpa using h)]; rfl
  | [], _ :: _, h => by simp at h
  | _ :: _, [], h => by simp at h
theorem addE_take {arm : Int} : ∀ {es fs : List Int} {i : Nat} {e f : Int}, es[i]? = some e → fs[i]? = some f → addE arm (es.take (i + 1)) (fs.take (i + 1)) = addE arm (es.take i) (fs.take i) ++ [e + arm * f]
  | [], _, i, e, f, h, _ => by simp at h
  | _ :: _, [], i, e, f, _, h => by simp at h
  | a :: es, b :: fs, 0, e, f, h1, h2 => by
    have : a = e := by simpa using h1
    subst this
    have : b = f := by simpa using h2
    subst this
    rfl
  | a :: es, b :: fs, i + 1, e, f, h1, h2 => by
    show (a + arm * b) :: addE arm (es.take (i + 1)) (fs.take (i + 1)) = (a + arm * b) :: addE arm (es.take i) (fs.take i) ++ [e + arm * f]
    rw [addE_take (es := es) (fs := fs) (by simpa using h1) (by simpa using h2)]; rfl
theorem armsEs_len {ps : List Int} : ∀ {arms : List (Int × Int)} {init : List Int}, init.length = ps.length → (armsEs ps init arms).length = ps.length
  | [], init, h => h
  | a :: arms, init, h => by
    show (armsEs ps (addE a.2 init (rodEs a.1 0 ps)) arms).length = _
    exact armsEs_len (by rw [addE_len _ _ _ (by rw [h, rodEs_len])]; exact h)
abbrev zEs (ps : List Int) : List Int := ps.map fun _ => 0
theorem ints_list {ns : List Int} {i : Nat} {d : PyData} (hd : (ns.map PyData.int)[i]? = some d) : ∃ z, ns[i]? = some z ∧ d = .int z := map_int_get hd
abbrev spEoA (K : PySem.W.Frag) : Sp := Sv (fun a : List (Int × Int) × List Int => [D K (dA a.1), D K (dT a.2)]) (fun a => okA a.1 ∧ a.2.length ≤ 5000) (fun a => D K (dI (armsEs a.2 (zEs a.2) a.1)))
theorem ok_ends_of_arms (tx : Tx mg) (d : Dn K mg "_ends_of_arms" s__ends_of_arms P__ends_of_arms) (c__ends_of_rod : Fx P w K mg base 1 "_ends_of_rod" (spEoR K)) : Fx P w K mg base 2 "_ends_of_arms" (spEoA K) := by
  refine d.sv (N := N__ends_of_arms) sc__ends_of_arms (fun _ => rfl) (by decide) fun f cdv A outer s H E hr => ⟨_, pss_cons (ps_setLc (i := 2) (own := [("_", 5)]) (g := gName 5) (tt := tYes) rfl sc__ends_of_arms.nd rfl rfl (sw_true rfl rfl rfl (by decide +kernel)) (pi_tup (pv 1)) (blkOk_by (N := N__ends_of_arms) (sc := defScope s__ends_of_arms) (by decide +kernel)) (fun _ _ _ _ _ => pg_name (i := 5) sc__ends_of_arms.nd rfl (by first | exact Or.inl rfl | exact Or.inr rfl)) (fun _ _ _ _ _ => pts_nil) (fun _ _ _ _ _ => pe_int))
 (pss_cons (ps_for PassesOwn.never rfl (pi_tup (pv 0)) (pg_tup rfl (pgs_cons (pg_name (i := 3) sc__ends_of_arms.nd rfl (Or.inl rfl)) (pgs_cons (pg_name (i := 4) sc__ends_of_arms.nd rfl (Or.inr rfl)) (pgs_nil)))) (pss_one (ps_setLc (i := 2) (own := [("end", 6), ("far", 7)]) (g := gTup K 2 (gCons (gName 6) (gCons (gName 7) (gNil)))) (tt := tYes) rfl sc__ends_of_arms.nd rfl rfl (sw_true rfl rfl rfl (by decide +kernel)) (pi_zip (by rfl) tx.b_zip (pa_cons (pv 2) (pa_cons (pe_f c__ends_of_rod hr (by first | exact Nat.le_refl _ | decide) rfl (pa_cons (pv 3) (pa_cons (pv 1) (pa_nil)))) (pa_nil)))) (blkOk_by (N := N__ends_of_arms) (sc := defScope s__ends_of_arms) (by decide +kernel)) (fun _ _ _ _ _ => (by exact pg_tup rfl (pgs_cons (pg_name (i := 6) sc__ends_of_arms.nd rfl (by first | exact Or.inl rfl | exact Or.inr rfl)) (pgs_cons (pg_name (i := 7) sc__ends_of_arms.nd rfl (by first | exact Or.inl rfl | exact Or.inr rfl)) (pgs_nil))))) (fun _ _ _ _ _ => pts_nil) (fun _ _ _ _ _ => pe_op op_add (pv 6) (pe_op op_mul (pv 4) (pv 7))))))
 (pss_one (ps_ret (pv 2)))), ?_⟩
  rintro ⟨arms, ps⟩ b ⟨⟨la, ha⟩, hl⟩ Q k
  have hl' : ps.length ≤ 5000 := hl
  refine q_asg (P := D K (dI (zEs ps))) (t_weak (t_lcT (K := K) (ds := ps.map PyData.int) (φ := fun _ c => c = true) (fun i Ps => Ps = (List.replicate i (0 : Int)).map fun n => I K n) isT_D (t_var rfl) (by rw [List.length_map]; omega) rfl (fun i Ps g => by rw [g]; simp) (fun i d _ => tb_yes) ?_ (fun i d _ h => by cases h)) fun v h q => ?_) ?_
  · rintro i d _ _ Ps rfl
    refine ⟨Unit, fun _ => I K 0, t_some () t_int, fun _ => ?_⟩
    rw [List.replicate_succ', List.map_append]; rfl
  · obtain ⟨⟨Ps, g⟩, q⟩ := q
    have e : Ps = (List.replicate (ps.map PyData.int).length (0 : Int)).map fun n => I K n := g
    subst e
    have e2 : zEs ps = List.replicate (ps.map PyData.int).length 0 := by rw [List.length_map]; exact List.map_const' ..
    rw [e2]
    exact l_data (by rw [List.map_map]; exact q)
  refine q_seq ?_
  refine n_forT2k (K := K) (γ := Unit) (prs := pA arms) (fun _ _ => True) (fun i _ => [some (D K (dA arms)), some (D K (dT ps)), some (D K (dI (armsEs ps (zEs ps) (arms.take i)))), none, none, none, none, none]) (fun _ _ => none) () isT_D (t_var rfl) trivial (le_same (le_same (le_same (le_skip (le_skip (le_skip (le_skip (le_skip le_nil)))))))) ?_ ?_
  · intro hb _ i q _ hq _
    obtain ⟨a, h1, rfl⟩ := pA_get hq
    have hb' := ha a (List.mem_of_getElem? h1)
    have hi := (List.getElem?_eq_some_iff.mp h1).1
    generalize hes : armsEs ps (zEs ps) (arms.take i) = es
    have les : es.length = ps.length := by rw [← hes]; exact armsEs_len (by simp)
    have lrs : (rodEs a.1 0 ps).length = ps.length := rodEs_len _ _ _
    refine n_asg (P := D K (dI (addE a.2 es (rodEs a.1 0 ps)))) (t_weak (t_lcZ (K := K) (ds := es.map PyData.int) (es := (rodEs a.1 0 ps).map PyData.int) (φ := fun _ c => c = true) (fun i Ps => Ps = (addE a.2 (es.take i) ((rodEs a.1 0 ps).take i)).map fun n => I K n) (ta_cons (t_var rfl) (ta_cons (t_f (a.1, ps) (ta_cons (t_var rfl) (ta_cons (t_var rfl) ta_nil)) hl') ta_nil)) (by rw [List.length_map]; omega) (by rw [List.length_map, List.length_map]; omega) rfl (fun i Ps g => ?_) (fun i d e _ _ => tb_yes) ?_ (fun i d e _ _ h => by cases h)) fun v h q => ?_) ?_
    · rw [g, List.length_map, addE_len _ _ _ (by rw [List.length_take, List.length_take]; omega), List.length_take]
      exact Nat.min_le_left _ _
    · rintro i d e hd he _ Ps rfl
      obtain ⟨z, hz, rfl⟩ := map_int_get hd
      obtain ⟨y, hy, rfl⟩ := map_int_get he
      refine ⟨Unit, fun _ => I K (z + a.2 * y), t_some () (t_op (t_var rfl) (t_op (t_var rfl) (t_var rfl) (opp_IC (.inl ⟨by omega, by omega⟩))) opp_I), fun _ => ?_⟩
      rw [addE_take hz hy, List.map_append]; rfl
    · obtain ⟨⟨Ps, g⟩, q⟩ := q
      have e : Ps = (addE a.2 (es.take (es.map PyData.int).length) ((rodEs a.1 0 ps).take (es.map PyData.int).length)).map fun n => I K n := g
      rw [List.length_map, List.take_length, List.take_of_length_le (by omega)] at e
      subst e
      exact l_data (by rw [List.map_map]; exact q)
    · refine n_pv () ?_ ?_ ?_
      · trivial
      · rfl
      · refine le_same (le_same (le_eqD ?_ (le_skip (le_skip (le_skip (le_skip (le_skip le_nil)))))))
        have e : arms.take (i + 1) = arms.take i ++ [a] := by rw [List.take_add_one, h1]; rfl
        unfold armsEs at hes ⊢
        rw [e, List.foldl_append, hes]; rfl
  · intro hb _ _ _
    refine n_ret (P := D K (dI (armsEs ps (zEs ps) arms))) (t_eqD (t_var rfl) ?_) k
    rw [List.length_map, List.take_length]
abbrev spRAt (K : PySem.W.Frag) (C R : Addr) : Sp := Sv (fun a : List (Int × Int) × { ps : List Int // ps ≠ [] } => [Rg K R a.1, Mem K C a.2.1]) (fun a => okA a.1 ∧ a.2.1.length ≤ 5000) (fun a => I K ((armsEs a.2.1 (zEs a.2.1) a.1).getLast?.getD 0))
theorem ok_rig_at (ck : CK K C fPl) (c : CK K R fAr) (d : Dm K "at" "Rig.at" s_Rig_at P_Rig_at f) (c__ends_of_arms : Fx P w K mg base 2 "_ends_of_arms" (spEoA K)) (gx_places : Gx P w K mg base 1 C "places" (spMPlaces K C)) : ∃ fd, FnOk P w K mg base CX0 3 f fd P_Rig_at (spRAt K C R) ∧ Binds K fd P_Rig_at [] := by
  refine d.sv (N := N_Rig_at) sc_Rig_at (fun _ => rfl) fun cdv A outer s H E hr => ⟨_, pss_one (ps_ret (pe_ix ix_list (pe_f c__ends_of_arms hr (by first | exact Nat.le_refl _ | decide) rfl (pa_cons (pe_fld (pv 0) rfl) (pa_cons (pe_get gx_places ck.cl hr (by decide) (pv 1)) (pa_nil)))) (pe_un un_neg (pe_int)) (fun _ _ => rfl))), ?_⟩
  rintro ⟨arms, ps, hne⟩ b ⟨ok, hl⟩ Q k
  have hl' : ps.length ≤ 5000 := hl
  have lz : (armsEs ps (zEs ps) arms).length = ps.length := armsEs_len (by simp)
  have hz : armsEs ps (zEs ps) arms ≠ [] := fun e => by rw [e] at lz; exact hne (List.length_eq_zero_iff.mp lz.symm)
  refine n_ret (P := I K ((armsEs ps (zEs ps) arms).getLast?.getD 0)) (t_op (t_f (arms, ps) (ta_cons (t_fld c.cl c.na (t_var rfl)) (ta_cons (t_prop ps (t_var rfl) rfl trivial) ta_nil)) ⟨ok, hl'⟩) (t_un t_int unp_neg) (opp_ixLI ?_)) k
  rw [at_lastI hz, List.getLast?_eq_some_getLast hz]; rfl
end
/-! ### the ends of rods tell memories apart -/
theorem rodE_cons {s e x : Int} {xs : List Int} : rodE s e (x :: xs) = rodE s (rodSt s e x) xs := rfl
theorem rodSt_0 {e x : Int} : rodSt 0 e x = x := by unfold rodSt; omega
theorem rodE_0 : ∀ {xs : List Int} {e : Int} (h : xs ≠ []), rodE 0 e xs = xs.getLast h
  | [x], e, _ => rodSt_0
  | x :: y :: xs, e, _ => by
    rw [rodE_cons, rodE_0 (xs := y :: xs) (by simp)]
    simp
theorem rodSt_step {s e e' x : Int} (h : 0 ≤ e - e' ∧ e - e' ≤ 1) : 0 ≤ rodSt s e x - rodSt (s + 1) e' x ∧ rodSt s e x - rodSt (s + 1) e' x ≤ 1 := by unfold rodSt; omega
theorem rodE_step : ∀ {xs : List Int} {s e e' : Int}, 0 ≤ e - e' ∧ e - e' ≤ 1 → 0 ≤ rodE s e xs - rodE (s + 1) e' xs ∧ rodE s e xs - rodE (s + 1) e' xs ≤ 1
  | [], _, _, _, h => h
  | x :: xs, s, e, e', h => rodE_step (xs := xs) (rodSt_step h)
theorem rodE_low : ∀ {xs : List Int} {s e lo : Int}, 0 ≤ s → lo ≤ e → (∀ x ∈ xs, lo ≤ x) → lo ≤ rodE s e xs
  | [], _, _, _, _, h, _ => h
  | x :: xs, s, e, lo, h0, h, hx => by
    refine rodE_low (xs := xs) h0 ?_ fun y hy => hx y (List.mem_cons_of_mem _ hy)
    have := hx x List.mem_cons_self
    unfold rodSt; omega
theorem rodE_last {xs : List Int} : ∀ {s e : Int} (h : xs ≠ []), rodE s e xs ≤ xs.getLast h := by
  induction xs with
  | nil => intro s e h; exact absurd rfl h
  | cons x xs ih =>
    intro s e h
    cases xs with
    | nil => show rodSt s e x ≤ x; unfold rodSt; omega
    | cons y ys =>
      rw [rodE_cons, List.getLast_cons (by simp)]
      exact ih (by simp)
/-- the end stays -/
theorem stay_low : ∀ {xs : List Int} {s a : Int}, (∀ x ∈ xs, a ≤ x ∧ x - s ≤ a) → rodE s a xs = a
  | [], _, _, _ => rfl
  | x :: xs, s, a, h => by
    have h1 := h x List.mem_cons_self
    have e : rodSt s a x = a := by unfold rodSt; omega
    rw [rodE_cons, e]
    exact stay_low fun y hy => h y (List.mem_cons_of_mem _ hy)
theorem stay_high : ∀ {xs : List Int} {s a : Int}, (∀ x ∈ xs, x ≤ a ∧ a - s ≤ x) → rodE s (a - s) xs = a - s
  | [], _, _, _ => rfl
  | x :: xs, s, a, h => by
    have h1 := h x List.mem_cons_self
    have e : rodSt s (a - s) x = a - s := by unfold rodSt; omega
    rw [rodE_cons, e]
    exact stay_high fun y hy => h y (List.mem_cons_of_mem _ hy)
/-- places that lie one within the two before -/
inductive NB : Int → Int → List Int → Prop
  | nil {c a : Int} : NB c a []
  | cons {c a b : Int} {r : List Int} : min c a < b ∧ b < max c a → NB a b r → NB c a (b :: r)
theorem NB.mem : ∀ {r : List Int} {c a : Int}, NB c a r → ∀ x ∈ r, min c a < x ∧ x < max c a
  | b :: r, c, a, .cons h n, x, hx => by
    rcases List.mem_cons.mp hx with q | q
    · rw [q]; exact h
    · have := n.mem x q
      omega
theorem low_far {a b s : Int} {r : List Int} (h : a < b) (n : NB a b r) (hs : b - a ≤ s) : rodE s a (b :: r) = a := by
  refine stay_low fun x hx => ?_
  rcases List.mem_cons.mp hx with q | q
  · rw [q]; omega
  · have := n.mem x q; omega
theorem low_near {a b s : Int} {r : List Int} (h : a < b) (h0 : 0 ≤ s) (hs : s < b - a) : rodE s a (b :: r) = rodE s (b - s) r := by
  have e : rodSt s a b = b - s := by unfold rodSt; omega
  rw [rodE_cons, e]
theorem high_far {a b s : Int} {r : List Int} (h : b < a) (n : NB a b r) (hs : a - b ≤ s) : rodE s (a - s) (b :: r) = a - s := by
  refine stay_high fun x hx => ?_
  rcases List.mem_cons.mp hx with q | q
  · rw [q]; omega
  · have := n.mem x q; omega
theorem high_near {a b s : Int} {r : List Int} (h : b < a) (h0 : 0 ≤ s) (hs : s < a - b) : rodE s (a - s) (b :: r) = rodE s b r := by
  have e : rodSt s (a - s) b = b := by unfold rodSt; omega
  rw [rodE_cons, e]
/-- right behind the greatest swing the end stands still -/
theorem low_at {a b : Int} {r : List Int} (h : a < b) (n : NB a b r) : rodE (b - a - 1) a (b :: r) = a + 1 := by
  rw [low_near h (by omega) (by omega)]
  have : rodE (b - a - 1) (b - (b - a - 1)) r = b - (b - a - 1) := stay_high fun x hx => by
    have := n.mem x hx
    omega
  rw [this]; omega
theorem high_at {a b : Int} {r : List Int} (h : b < a) (n : NB a b r) : rodE (a - b - 1) (a - (a - b - 1)) (b :: r) = b := by
  rw [high_near h (by omega) (by omega)]
  exact stay_low fun x hx => by
    have := n.mem x hx
    omega
theorem tell : ∀ {r1 r2 : List Int} {c a : Int}, NB c a r1 → NB c a r2 →
    (a < c → (∀ s, 0 ≤ s → s < c - a → rodE s a r1 = rodE s a r2) → r1 = r2) ∧ (c < a → (∀ s, 0 ≤ s → s < a - c → rodE s (a - s) r1 = rodE s (a - s) r2) → r1 = r2)
  | [], [], c, a, _, _ => ⟨fun _ _ => rfl, fun _ _ => rfl⟩
  | [], b :: r, c, a, _, .cons h n => by
    refine ⟨fun hc hs => ?_, fun hc hs => ?_⟩
    · have := hs (b - a - 1) (by omega) (by omega)
      rw [low_at (by omega) n] at this
      have e : rodE (b - a - 1) a [] = a := rfl
      rw [e] at this; omega
    · have := hs (a - b - 1) (by omega) (by omega)
      rw [high_at (by omega) n] at this
      have e : rodE (a - b - 1) (a - (a - b - 1)) [] = a - (a - b - 1) := rfl
      rw [e] at this; omega
  | b :: r, [], c, a, .cons h n, _ => by
    refine ⟨fun hc hs => ?_, fun hc hs => ?_⟩
    · have := hs (b - a - 1) (by omega) (by omega)
      rw [low_at (by omega) n] at this
      have e : rodE (b - a - 1) a [] = a := rfl
      rw [e] at this; omega
    · have := hs (a - b - 1) (by omega) (by omega)
      rw [high_at (by omega) n] at this
      have e : rodE (a - b - 1) (a - (a - b - 1)) [] = a - (a - b - 1) := rfl
      rw [e] at this; omega
  | b :: r, d :: q, c, a, .cons h n, .cons h' n' => by
    have ih := fun e : b = d => tell (r1 := r) (r2 := q) (c := a) (a := b) n (e ▸ n')
    refine ⟨fun hc hs => ?_, fun hc hs => ?_⟩
    · have e : b = d := by
        rcases Int.lt_trichotomy b d with z | z | z
        · have := hs (d - a - 1) (by omega) (by omega)
          rw [low_at (by omega) n', low_far (by omega) n (by omega)] at this
          omega
        · exact z
        · have := hs (b - a - 1) (by omega) (by omega)
          rw [low_at (by omega) n, low_far (by omega) n' (by omega)] at this
          omega
      subst e
      rw [(ih rfl).2 (by omega) fun s s0 s1 => by
        have := hs s s0 (by omega)
        rw [low_near (by omega) s0 (by omega), low_near (by omega) s0 (by omega)] at this
        exact this]
    · have e : b = d := by
        rcases Int.lt_trichotomy b d with z | z | z
        · have := hs (a - b - 1) (by omega) (by omega)
          rw [high_at (by omega) n, high_far (by omega) n' (by omega)] at this
          omega
        · exact z
        · have := hs (a - d - 1) (by omega) (by omega)
          rw [high_at (by omega) n', high_far (by omega) n (by omega)] at this
          omega
      subst e
      rw [(ih rfl).1 (by omega) fun s s0 s1 => by
        have := hs s s0 (by omega)
        rw [high_near (by omega) s0 (by omega), high_near (by omega) s0 (by omega)] at this
        exact this]
/-- a memory's places are so -/
theorem okMem_nb {ps : List Int} (ok : okMem ps) : ∀ {n i : Nat} {c : Int}, ps.length - i ≤ n → 1 ≤ i → i ≤ ps.length → (i = 1 → ∀ x ∈ ps, x < c ∧ ps.getD 0 0 ≤ c) → (2 ≤ i → c = ps.getD (i - 2) 0) → NB c (ps.getD (i - 1) 0) (ps.drop i)
  | 0, i, c, h, h1, h2, _, _ => by
    rw [List.drop_eq_nil_of_le (by omega)]
    exact .nil
  | n + 1, i, c, h, h1, h2, ha, hb => by
    by_cases hi : i < ps.length
    · have f := ok.2.2 i hi
      have e : ps.drop i = ps.getD i 0 :: ps.drop (i + 1) := by
        rw [List.drop_eq_getElem_cons hi, List.getD_eq_getElem?_getD, List.getElem?_eq_getElem hi]; rfl
      rw [e]
      refine .cons ?_ (okMem_nb ok (n := n) (i := i + 1) (c := ps.getD (i - 1) 0) (by omega) (by omega) (by omega) (fun q => by omega) fun _ => rfl)
      unfold fitB at f
      by_cases c1 : i = 1
      · subst c1
        rw [if_neg (by omega), if_pos rfl, Bool.and_eq_true] at f
        have f2 : ps.getD 0 0 < ps.getD 1 0 := of_decide_eq_true f.2
        have := ha rfl (ps.getD 1 0) (getD_mem hi)
        have e0 : ps.getD (1 - 1) 0 = ps.getD 0 0 := rfl
        rw [e0]
        omega
      · rw [if_neg (by omega), if_neg c1, Bool.and_eq_true] at f
        have f2 := f.2
        unfold btw at f2
        rw [hb (by omega)]
        simp only [Bool.and_eq_true, decide_eq_true_eq] at f2
        omega
    · rw [List.drop_eq_nil_of_le (by omega)]
      exact .nil
theorem okMem_head {ps : List Int} (ok : okMem ps) : ∃ a r, ps = a :: r ∧ a ≤ 0 ∧ ∀ x ∈ r, a < x := by
  obtain ⟨a, r, rfl⟩ := List.exists_cons_of_ne_nil ok.1
  have f := ok.2.2 0 (by simp)
  unfold fitB at f
  rw [if_pos rfl, Bool.and_eq_true] at f
  refine ⟨a, r, rfl, of_decide_eq_true f.2, fun x hx => ?_⟩
  have hm : ∃ M, ∀ x ∈ a :: r, x < M ∧ a ≤ M := by
    have : ∀ l : List Int, ∃ M, ∀ x ∈ l, x < M := by
      intro l
      induction l with
      | nil => exact ⟨0, by simp⟩
      | cons y l ih =>
        obtain ⟨M, hM⟩ := ih
        refine ⟨max M (y + 1), fun x hx => ?_⟩
        rcases List.mem_cons.mp hx with q | q
        · rw [q]; omega
        · have := hM x q; omega
    obtain ⟨M, hM⟩ := this (a :: r)
    exact ⟨M, fun x hx => ⟨hM x hx, by have := hM a List.mem_cons_self; omega⟩⟩
  obtain ⟨M, hM⟩ := hm
  have n := okMem_nb ok (n := (a :: r).length) (i := 1) (c := M) (by omega) (Nat.le_refl _) (by simp) (fun _ => hM) (fun q => by omega)
  have := n.mem x (by simpa using hx)
  have e : (a :: r).getD (1 - 1) 0 = a := rfl
  rw [e] at this
  have := (hM a List.mem_cons_self).1
  omega
theorem rodE_mem {s a : Int} {r : List Int} (h0 : 0 ≤ s) (ha : a ≤ 0) : rodE s 0 (a :: r) = rodE s a r := by
  have e : rodSt s 0 a = a := by unfold rodSt; omega
  rw [rodE_cons, e]
theorem rodE_far {ps : List Int} {f : Int} (ok : okMem ps) (hf : ∀ x ∈ ps, -f ≤ x ∧ x ≤ f) : rodE (2 * f + 1) 0 ps = ps.getD 0 0 := by
  obtain ⟨a, r, rfl, ha, hr⟩ := okMem_head ok
  have := hf a List.mem_cons_self
  rw [rodE_mem (by omega) ha]
  exact stay_low fun x hx => by
    have h1 := hr x hx
    have h2 := hf x (List.mem_cons_of_mem _ hx)
    omega
theorem tell_mem {ps qs : List Int} {f : Int} (o1 : okMem ps) (o2 : okMem qs) (h1 : ∀ x ∈ ps, -f ≤ x ∧ x ≤ f) (h2 : ∀ x ∈ qs, -f ≤ x ∧ x ≤ f) (hE : ∀ s, 0 ≤ s → s < 2 * f + 2 → rodE s 0 ps = rodE s 0 qs) : ps = qs := by
  have hd : ps.getD 0 0 = qs.getD 0 0 := by
    rw [← rodE_far o1 h1, ← rodE_far o2 h2]
    obtain ⟨a, r, rfl, ha, hr⟩ := okMem_head o1
    have := h1 a List.mem_cons_self
    exact hE _ (by omega) (by omega)
  obtain ⟨a, r, rfl, ha, hr⟩ := okMem_head o1
  obtain ⟨b, q, rfl, hb, hq⟩ := okMem_head o2
  have e : a = b := hd
  subst e
  have fa := h1 a List.mem_cons_self
  have n1 := okMem_nb o1 (n := (a :: r).length) (i := 1) (c := f + 1) (by omega) (Nat.le_refl _) (by simp) (fun _ x hx => ⟨by have := h1 x hx; omega, by show a ≤ f + 1; omega⟩) (fun q => by omega)
  have n2 := okMem_nb o2 (n := (a :: q).length) (i := 1) (c := f + 1) (by omega) (Nat.le_refl _) (by simp) (fun _ x hx => ⟨by have := h2 x hx; omega, by show a ≤ f + 1; omega⟩) (fun q => by omega)
  have := (tell (c := f + 1) (a := a) n1 n2).1 (by omega) fun s s0 s1 => by
    have := hE s s0 (by omega)
    rw [rodE_mem s0 ha, rodE_mem s0 ha] at this
    exact this
  have e2 : r = q := by simpa using this
  rw [e2]
theorem addE_one : ∀ {ps fs : List Int}, ps.length = fs.length → addE 1 (zEs ps) fs = fs
  | [], [], _ => rfl
  | p :: ps, f :: fs, h => by
    show (0 + 1 * f) :: addE 1 (zEs ps) fs = f :: fs
    rw [addE_one (by simpa using h)]
    have : 0 + 1 * f = f := by omega
    rw [this]
  | [], _ :: _, h => by simp at h
  | _ :: _, [], h => by simp at h
theorem rodEs_last {s : Int} : ∀ {xs : List Int} {e : Int}, xs ≠ [] → (rodEs s e xs).getLast? = some (rodE s e xs)
  | [x], e, _ => rfl
  | x :: y :: xs, e, _ => by
    have := rodEs_last (s := s) (xs := y :: xs) (e := rodSt s e x) (by simp)
    show (rodSt s e x :: rodEs s (rodSt s e x) (y :: xs)).getLast? = _
    rw [List.getLast?_cons, this]; rfl
theorem at_rod {s : Int} {ps : List Int} (h : ps ≠ []) : (armsEs ps (zEs ps) [(s, 1)]).getLast?.getD 0 = rodE s 0 ps := by
  show (addE 1 (zEs ps) (rodEs s 0 ps)).getLast?.getD 0 = _
  rw [addE_one (by rw [rodEs_len]), rodEs_last h]; rfl
def endsTo (n : Nat) (ps : List Int) : List Int := (List.range n).map fun (s : Nat) => rodE (s : Int) 0 ps
theorem endsTo_len (n : Nat) (ps : List Int) : (endsTo n ps).length = n := by simp [endsTo]
theorem endsTo_at {n i : Nat} {ps : List Int} (h : i < n) : atI (endsTo n ps) (i : Int) = some (rodE (i : Int) 0 ps) := by
  refine atI_get ?_
  unfold endsTo
  rw [List.getElem?_map, List.getElem?_range h]; rfl
theorem endsTo_eq {n : Nat} {ps qs : List Int} (h : endsTo n ps = endsTo n qs) : ∀ s : Int, 0 ≤ s → s < n → rodE s 0 ps = rodE s 0 qs := fun s s0 s1 => by
  obtain ⟨i, rfl⟩ := Int.eq_ofNat_of_zero_le s0
  have h1 := endsTo_at (ps := ps) (n := n) (i := i) (by omega)
  have h2 := endsTo_at (ps := qs) (n := n) (i := i) (by omega)
  rw [h, h2] at h1
  exact (Option.some.inj h1).symm
theorem memF_far {ns : List Int} {f : Int} (f0 : 0 ≤ f) (h : ∀ x ∈ ns, -f ≤ x ∧ x ≤ f) : ∀ x ∈ memF ns, -f ≤ x ∧ x ≤ f := fun x hx => by
  rcases List.mem_cons.mp ((mean_mem ns).sub.subset hx) with q | q
  · rw [q]; omega
  · exact h x q
section
variable {P : Program} {w : World} {K : PySem.W.Frag} {mg : Str → Option Value} {base : Heap} {C R : Addr}
/-- a call with one of many arguments -/
theorem t_fS {α : Type _} {β : Sort _} {Γ : Z.Ctx} {args : α → List Pr} {pre : α → Prop} {res : α → Pr} {As : List Pr} {tr : TA} (g : β → α) (x : TAs Γ tr As) (hA : ∀ vs h, Vs As vs h → ∃ c, Vs (args (g c)) vs h) (p : ∀ c, pre (g c)) : T Γ (tF (Sv args pre res) tr) (Pr.some fun c => res (g c)) := fun σ h H n e Q k =>
  x σ h H n e _ fun vs h1 H1 s1 q => by
    obtain ⟨c, q⟩ := hA vs h1 q
    exact ⟨g c, h1, s1.i, q, p c, fun v h2 H2 s2 z => k v h2 H2 (s1.trans s2) ⟨c, z⟩⟩
theorem vs_some1 {α : Sort _} {f : α → Pr} {vs : List V} {h : Hp} (q : Vs [Pr.some f] vs h) : ∃ c, Vs [f c] vs h := by
  cases q with
  | cons q z =>
    cases z
    obtain ⟨c, q⟩ := q
    exact ⟨c, .cons q .nil⟩
abbrev Rw (f : Int) (L : Nat) : Type := { ns : List Int // ns.length ≤ L ∧ ∀ x ∈ ns, -f ≤ x ∧ x ≤ f }
abbrev PM (K : PySem.W.Frag) (C : Addr) (f : Int) (L : Nat) : Pr := Pr.some fun ns : Rw f L => Mem K C (memF ns.1)
abbrev spLaw (K : PySem.W.Frag) : Sp := Sv (fun ns : List Int => [Scr K ns]) (fun ns => ns.length ≤ 63) (fun _ => B K true)
theorem ok_law {fl : Addr} {fdl : FuncData} (tx : Tx mg) (ck : CK K C fPl) (cr : CK K R fAr) (d : L2.Fun K "law" "law" s_law fl fdl) (c__law_random : Fx P w K mg base 1 "_law_random" (spRand K)) (c__law_below : Fx P w K mg base 1 "_law_below" (spBelow K)) (c__law_row : Fx P w K mg base 2 "_law_row" (spRw K)) (c_memory_of : Fx P w K mg base 7 "memory_of" (spMemOf K C)) (c_rod : Fx P w K mg base 4 "rod" (spRod K R)) (m_at : Hx P w K mg base 3 R "at" (spRAt K C R))
    (gx_places : Gx P w K mg base 1 C "places" (spMPlaces K C)) (gx_place : Gx P w K mg base 1 C "place" (spMPlace K C)) (gx_row : Gx P w K mg base 1 C "row" (spMRow K C)) (m_eq : Mx P w K mg base 1 C "__eq__" (spMEq K C)) : FnOk P w K mg base CX0 9 fl fdl P_law (spLaw K) := by
  refine fun_sv d (N := N_law) sc_law (fun _ => rfl) fun cdv A outer s H E hr => ⟨_, pss_cons (ps_set (i := 1) sc_law.nd rfl (Or.inl rfl) (pe_f c__law_random hr (by first | exact Nat.le_refl _ | decide) rfl (pa_cons (pv 0) (pa_cons (pe_int) (pa_nil)))))
 (pss_cons (ps_for PassesOwn.never rfl (pi_range1 rfl tx.b_range (pa_cons (pe_int) (pa_nil))) (pg_name (i := 2) sc_law.nd rfl (Or.inl rfl)) (pss_cons (ps_set (i := 3) sc_law.nd rfl (Or.inr rfl) (pe_op op_add (pe_int) (pe_f c__law_below hr (by first | exact Nat.le_refl _ | decide) rfl (pa_cons (pv 1) (pa_cons (pe_int) (pa_nil))))))
 (pss_cons (ps_par (i := 4) (j := 5) rfl sc_law.nd rfl rfl (by decide) rfl rfl (pa_cons (pe_f c_memory_of hr (by first | exact Nat.le_refl _ | decide) rfl (pa_cons (pe_f c__law_row hr (by first | exact Nat.le_refl _ | decide) rfl (pa_cons (pv 1) (pa_cons (pe_int) (pa_cons (pv 3) (pa_nil))))) (pa_nil))) (pa_cons (pe_f c_memory_of hr (by first | exact Nat.le_refl _ | decide) rfl (pa_cons (pe_f c__law_row hr (by first | exact Nat.le_refl _ | decide) rfl (pa_cons (pv 1) (pa_cons (pe_int) (pa_cons (pv 3) (pa_nil))))) (pa_nil))) (pa_nil))) (by rfl))
 (pss_cons (ps_if (pt_cmpR op_eq (pe_f c__law_below hr (by first | exact Nat.le_refl _ | decide) rfl (pa_cons (pv 1) (pa_cons (pe_int) (pa_nil)))) (pe_int) (nomark _)) (pss_one (ps_set (i := 5) sc_law.nd rfl (Or.inl rfl) (pe_f c_memory_of hr (by first | exact Nat.le_refl _ | decide) rfl (pa_cons (pe_op op_cat (pe_get gx_row ck.cl hr (by decide) (pv 4)) (pe_lst (pa_cons (pe_ifExp (pt_cmpR (op_neD hr.units) (pe_get gx_row ck.cl hr (by decide) (pv 4)) (pe_lst (pa_nil)) (nomark _)) (pe_ix ix_list (pe_get gx_row ck.cl hr (by decide) (pv 4)) (pe_un un_neg (pe_int)) (fun _ _ => rfl)) (pe_int)) (pa_cons (pe_f c__law_below hr (by first | exact Nat.le_refl _ | decide) rfl (pa_cons (pv 1) (pa_cons (pv 3) (pa_nil)))) (pa_nil))))) (pa_nil))))) (pss_nil))
 (pss_cons (ps_setLc (i := 6) (own := [("_law_memory", 8)]) (g := gName 8) (tt := tYes) rfl sc_law.nd rfl rfl (sw_true rfl rfl rfl (by decide +kernel)) (pi_tup (pe_tup (pa_cons (pv 4) (pa_cons (pv 5) (pa_nil))))) (blkOk_by (N := N_law) (sc := defScope s_law) (by decide +kernel)) (fun _ _ _ _ _ => pg_name (i := 8) sc_law.nd rfl (by first | exact Or.inl rfl | exact Or.inr rfl)) (fun _ _ _ _ _ => pts_nil) (fun _ _ _ _ _ => pe_lc (own := [("_law_slack", 9)]) (g := gName 9) (tt := tYes) rfl sc_law.nd (pi_range1 rfl tx.b_range (pa_cons (pe_op op_add (pe_op op_mul (pe_int) (pv 3)) (pe_int)) (pa_nil))) (by exact blkOk_by (N := N_law) rfl) (fun _ _ _ _ _ => pg_name (i := 9) sc_law.nd rfl (by first | exact Or.inl rfl | exact Or.inr rfl)) (fun _ _ _ _ _ => pts_nil) (fun _ _ _ _ _ => pe_mO m_at cr.cl hr (by decide) (pe_f c_rod hr (by first | exact Nat.le_refl _ | decide) rfl (pa_cons (pv 9) pa_nil)) (pa_cons (pv 8) pa_nil))))
 (pss_cons (ps_if ((PW.pt (pw_or (pt_cmpR op_ne (pe_cmpR (op_ownEq m_eq hr (by decide)) (pv 4) (pv 5) (nomark _)) (pe_cmpR (op_eqD hr.units) (pe_ix ix_list (pv 6) (pe_int) (fun _ _ => rfl)) (pe_ix ix_list (pv 6) (pe_int) (fun _ _ => rfl)) (nomark _)) (nomark _)) (pw_or1 (pt_cmpR op_ne (pe_cmpR (op_ownEq m_eq hr (by decide)) (pv 4) (pv 5) (nomark _)) (pe_cmpR (op_eqD hr.units) (pe_get gx_places ck.cl hr (by decide) (pv 4)) (pe_get gx_places ck.cl hr (by decide) (pv 5)) (nomark _)) (nomark _)))))) (pss_one (ps_ret (pe_bl))) (pss_nil))
 (pss_cons (ps_for PassesOwn.never rfl (pi_range1 rfl tx.b_range (pa_cons (pe_op op_sub (pe_callB call_len_seq (by rfl) tx.b_len boot_len (pa_cons (pe_ix ix_list (pv 6) (pe_int) (fun _ _ => rfl)) (pa_nil))) (pe_int)) (pa_nil))) (pg_name (i := 7) sc_law.nd rfl (Or.inl rfl)) (pss_one (ps_if ((PW.pt (pw_or (pt_not (pt_chain op_le op_le (pe_int) (pe_op op_sub (pe_ix ix_list (pe_ix ix_list (pv 6) (pe_int) (fun _ _ => rfl)) (pv 7) (fun _ _ => rfl)) (pe_ix ix_list (pe_ix ix_list (pv 6) (pe_int) (fun _ _ => rfl)) (pe_op op_add (pv 7) (pe_int)) (fun _ _ => rfl))) (pe_int))) (pw_or1 (pt_not (pt_chain op_le op_le (pe_ix ix_tup (pe_get gx_places ck.cl hr (by decide) (pv 4)) (pe_int) (fun _ _ => rfl)) (pe_ix ix_list (pe_ix ix_list (pv 6) (pe_int) (fun _ _ => rfl)) (pv 7) (fun _ _ => rfl)) (pe_callB (cr_maxT rfl) (by rfl) tx.b_max boot_max (pa_cons (pe_get gx_places ck.cl hr (by decide) (pv 4)) (pa_nil))))))))) (pss_one (ps_ret (pe_bl))) (pss_nil))))
 (pss_one (ps_if ((PW.pt (pw_or (pt_cmpR op_ne (pe_ix ix_list (pe_ix ix_list (pv 6) (pe_int) (fun _ _ => rfl)) (pe_int) (fun _ _ => rfl)) (pe_get gx_place ck.cl hr (by decide) (pv 4)) (nomark _)) (pw_or (pt_cmpR op_ne (pe_ix ix_list (pe_ix ix_list (pv 6) (pe_int) (fun _ _ => rfl)) (pe_int) (fun _ _ => rfl)) (pe_get gx_place ck.cl hr (by decide) (pv 5)) (nomark _)) (pw_or1 (pt_cmpR op_ne (pe_ix ix_list (pe_ix ix_list (pv 6) (pe_int) (fun _ _ => rfl)) (pe_op op_add (pe_op op_mul (pe_int) (pv 3)) (pe_int)) (fun _ _ => rfl)) (pe_ix ix_tup (pe_get gx_places ck.cl hr (by decide) (pv 4)) (pe_int) (fun _ _ => rfl)) (nomark _))))))) (pss_one (ps_ret (pe_bl))) (pss_nil))))))))))
 (pss_one (ps_ret (pe_bl)))), ?_⟩
  rintro script b hs Q k
  refine q_asg (P := Drw) (t_f (script, 17) (ta_cons (t_var rfl) (ta_cons t_int ta_nil)) ⟨(by decide : (0 : Int) ≤ 17 ∧ (17 : Int) < 1000000), hs⟩) ?_
  refine q_seq ?_
  refine n_forR1 (K := K) (γ := Unit) (n := 3) (fun _ _ => True) (fun _ _ => [some (Scr K script), some Drw, none, none, none, none, none, none, none, none]) (fun _ _ => none) () (ta_cons t_int ta_nil) (by decide) trivial (le_same (le_same (le_same (le_same (le_same (le_same (le_same (le_same (le_same (le_same le_nil)))))))))) ?_ (fun _ _ => n_ret (P := B K true) t_bl k)
  intro i _ _ _
  refine q_asg (P := Pr.some fun h : { h : Int // 3 ≤ h ∧ h ≤ 14 } => I K h.1) (t_op t_int (t_f 12 (ta_cons (t_var rfl) (ta_cons t_int ta_nil)) ⟨by decide, by decide⟩) (opp_someR fun r => opp_to (opp_I (g := fun i j => i + j) (i := 3)) fun v h q => ⟨⟨3 + r.1, by have := r.2; omega⟩, q⟩)) ?_
  refine n_open 3 fun far => ?_
  obtain ⟨far, f0, f1⟩ := far
  have mk : ∀ {Γ : Z.Ctx}, Γ[1]? = some (some Drw) → Γ[3]? = some (some (I K far)) → T Γ (tF (spMemOf K C) (tCons (tF (spRw K) (tCons (tVar 1) (tCons (tC (.int 9)) (tCons (tVar 3) tNil)))) tNil)) (PM K C far 9) := fun {Γ} e1 e2 =>
    t_weak (t_fS (args := fun a : List Int => [D K (dI a)]) (β := { ns : List Int // (ns.length : Int) ≤ 9 ∧ ∀ x ∈ ns, -far ≤ x ∧ x ≤ far }) (fun c => c.1) (ta_cons (t_f (9, far) (ta_cons (t_var e1) (ta_cons t_int (ta_cons (t_var e2) ta_nil))) ⟨⟨(by decide : (0 : Int) ≤ 9), (by decide : (9 : Int) ≤ 900)⟩, by show 0 ≤ far; omega, by show far ≤ 900000; omega⟩) ta_nil) (fun vs h q => vs_some1 q) (fun c => ⟨by have := c.2.1; show c.1.length ≤ 1000; omega, fun x hx => isPl_in (c.2.2 x hx) (by omega)⟩)) fun v h ⟨c, q⟩ => ⟨⟨c.1, by have := c.2.1; omega, c.2.2⟩, q⟩
  refine q_par (A := PM K C far 9) (C := PM K C far 9) (ta_cons (mk rfl rfl) (ta_cons (mk rfl rfl) ta_nil)) ?_
  refine n_open 4 fun n1 => ?_
  obtain ⟨n1, l1, b1⟩ := n1
  have p1 : ∀ x ∈ n1, isPl x = true := fun x hx => isPl_in (b1 x hx) (by omega)
  obtain ⟨ok1, ml1⟩ := okMem_memF (row := n1) p1 (by omega)
  have rl1 : (rowM (memF n1)).length ≤ n1.length := row_min rfl
  have rb1 : ∀ x ∈ rowM (memF n1), -far ≤ x ∧ x ≤ far := fun x hx => by
    rcases rowM_mem hx with q | q
    · omega
    · exact b1 x q
  have hx : -far ≤ ((rowM (memF n1)).getLast?.getD 0) ∧ ((rowM (memF n1)).getLast?.getD 0) ≤ far := by
    cases e : (rowM (memF n1)).getLast? with
    | none => exact ⟨by show -far ≤ 0; omega, by show 0 ≤ far; omega⟩
    | some y => exact rb1 y (List.mem_of_getLast? e)
  have rbx : ∀ (c : { r : Int // 0 ≤ r ∧ r < far }), ∀ x ∈ (rowM (memF n1)) ++ [((rowM (memF n1)).getLast?.getD 0), c.1], -far ≤ x ∧ x ≤ far := fun c x hm => by
    rcases List.mem_append.mp hm with q | q
    · exact rb1 x q
    · rcases List.mem_cons.mp q with q | q
      · rw [q]; exact hx
      · rw [List.mem_singleton.mp q]
        have := c.2
        omega
  refine q_ifm (μ' := none) [some (Scr K script), some Drw, none, some (I K far), some (Mem K C (memF n1)), some (PM K C far 20), none, none, none, none] (tb_testS (K := K) (t_op (t_f 2 (ta_cons (t_var rfl) (ta_cons t_int ta_nil)) ⟨by decide, by decide⟩) t_int (opp_someL fun r => opp_to opp_eqI fun v h q => ⟨r, q⟩))) (fun _ F kF => ?yes) (fun _ F kF => n_next (n_le (le_same (le_same (le_skip (le_same (le_same (le_imp (R := PM K C far 9) (P := PM K C far 20) (fun v h ⟨c, q⟩ => ⟨⟨c.1, Nat.le_trans c.2.1 (by decide), c.2.2⟩, q⟩) (le_same (le_same (le_same (le_same le_nil)))))))))) kF)) ?_
  case yes =>
    refine n_asg (P := PM K C far 20) (t_weak (P := Pr.some fun c : { r : Int // 0 ≤ r ∧ r < far } => Mem K C (memF ((rowM (memF n1)) ++ [((rowM (memF n1)).getLast?.getD 0), c.1]))) (t_fS (args := fun a : List Int => [D K (dI a)]) (β := { r : Int // 0 ≤ r ∧ r < far }) (fun c => (rowM (memF n1)) ++ [((rowM (memF n1)).getLast?.getD 0), c.1]) (ta_cons (A := Pr.some fun c : { r : Int // 0 ≤ r ∧ r < far } => D K (dI ((rowM (memF n1)) ++ [((rowM (memF n1)).getLast?.getD 0), c.1]))) (t_op (t_prop (memF n1) (t_var rfl) rfl ok1.1) (t_weak (P := L K [I K ((rowM (memF n1)).getLast?.getD 0), Pr.some fun c : { r : Int // 0 ≤ r ∧ r < far } => I K c.1]) (R := Pr.some fun c : { r : Int // 0 ≤ r ∧ r < far } => D K (dI [((rowM (memF n1)).getLast?.getD 0), c.1])) (t_lstP (ta_cons ?last (ta_cons (t_f far (ta_cons (t_var rfl) (ta_cons (t_var rfl) ta_nil)) ⟨by omega, by omega⟩) ta_nil)) (by simp)) fun v h q => l_pair q) (opp_someR fun c => opp_to (opp_catL ?sz) fun v h q => ⟨c, ?cat⟩)) ta_nil) (fun vs h q => vs_some1 q) (fun c => ⟨?len, ?pl⟩)) fun v h q => ?wk) ?next
    case last =>
      refine t_if (φ := fun c => c = !decide ((rowM (memF n1)) = [])) (tb_weak (tb_test (t_op (t_prop (memF n1) (t_var rfl) rfl ok1.1) (t_lst (ds := []) ta_nil (by simp)) (opp_ne (shaped_dI (rowM (memF n1))) shaped_nil))) fun c h => by rw [h]; exact congrArg (!·) (eqv_dI (rowM (memF n1)) [])) (fun h => ?_) (fun h => ?_)
      · have hne : (rowM (memF n1)) ≠ [] := fun e => by rw [e] at h; cases h
        refine t_eqI (t_op (t_prop (memF n1) (t_var rfl) rfl ok1.1) (t_un t_int unp_neg) (opp_ixLI (at_lastI hne))) ?_
        rw [List.getLast?_eq_some_getLast hne]; rfl
      · have he : (rowM (memF n1)) = [] := by
          by_cases e : (rowM (memF n1)) = []
          · exact e
          · rw [decide_eq_false e] at h; cases h
        exact t_eqI t_int (by rw [he]; rfl)
    case sz => rw [List.length_map, List.length_map]; simp; omega
    case cat =>
      have e : PyData.list ((rowM (memF n1)).map PyData.int ++ [((rowM (memF n1)).getLast?.getD 0), c.1].map PyData.int) = dI ((rowM (memF n1)) ++ [((rowM (memF n1)).getLast?.getD 0), c.1]) := by
        show PyData.list _ = PyData.list _
        rw [List.map_append]
      show (D K (dI (rowM (memF n1) ++ [(rowM (memF n1)).getLast?.getD 0, c.1]))).p v h
      rw [← e]
      exact q
    case len => show ((rowM (memF n1)) ++ [((rowM (memF n1)).getLast?.getD 0), c.1]).length ≤ 1000; simp; omega
    case pl =>
      intro x hx
      exact isPl_in (rbx c x hx) (by omega)
    case wk =>
      obtain ⟨c, q⟩ := q
      exact ⟨⟨(rowM (memF n1)) ++ [((rowM (memF n1)).getLast?.getD 0), c.1], by simp; omega, rbx c⟩, q⟩
    case next => exact n_le (le_same (le_same (le_skip (le_same (le_same (le_same (le_same (le_same (le_same (le_same le_nil)))))))))) kF
  refine n_open 5 fun n2 => ?_
  obtain ⟨n2, l2, b2⟩ := n2
  have p2 : ∀ x ∈ n2, isPl x = true := fun x hx => isPl_in (b2 x hx) (by omega)
  obtain ⟨ok2, ml2⟩ := okMem_memF (row := n2) p2 (by omega)
  have far1 := memF_far (by omega) b1
  have far2 := memF_far (by omega) b2
  generalize hps : memF n1 = ps at *
  generalize hqs : memF n2 = qs at *
  have g1 : 0 < ps.length := List.length_pos_iff.mpr ok1.1
  obtain ⟨N, hN⟩ : ∃ N : Nat, (N : Int) = 2 * far + 2 := ⟨(2 * far + 2).toNat, by omega⟩
  have inner : ∀ {Γ : Z.Ctx} {rs : List Int}, rs ≠ [] → rs.length ≤ 5000 → Γ[3]? = some (some (I K far)) → Γ[8]? = some (some (Mem K C rs)) → (wpΓ Γ [9])[8]? = some (some (Mem K C rs)) → (∀ i : Nat, ((wpΓ Γ [9]).set 9 (some (I K (i : Int))))[8]? = some (some (Mem K C rs))) → (∀ i : Nat, ((wpΓ Γ [9]).set 9 (some (I K (i : Int))))[9]? = some (some (I K (i : Int)))) →
      T Γ (tLc (iRng1 (tCons (tOp (rI0 fun i j => .int (i + j)) (tOp (rI CMul fun i j => .int (i * j)) (tC (.int 2)) (tVar 3)) (tC (.int 2))) tNil)) (gName 9) tYes (tMethR R "at" (spRAt K C R) E0 (tF (spRod K R) (tCons (tVar 9) tNil)) (tCons (tVar 8) tNil)) [9]) (D K (dI (endsTo N rs))) := by
    intro Γ rs hne hl e3 e8 e8' e8i e9i
    refine t_weak (t_lcR1 (n := (N : Int)) (φ := fun i c => c = true) (fun i Ps => Ps = (endsTo i rs).map fun n => I K n) (ta_cons (t_eqI (t_op (t_op t_int (t_var e3) (opp_IC (.inl ⟨by omega, by omega⟩))) t_int opp_I) hN.symm) ta_nil) (by omega) rfl (fun i Ps g => by rw [g, List.length_map, endsTo_len]; exact Nat.le_refl _) (fun i _ => tb_yes) ?_ (fun i _ h => by cases h)) fun v h q => ?_
    · rintro i hi _ Ps rfl
      refine ⟨Unit, fun _ => I K (rodE (i : Int) 0 rs), t_some () (t_eqI (t_mth ([((i : Int), 1)], ⟨rs, hne⟩) (t_f (i : Int) (ta_cons (t_var (e9i i)) ta_nil) ⟨by omega, by omega⟩) (ta_cons (t_var (e8i i)) ta_nil) rfl ⟨⟨by simp, fun a ha => ?_⟩, hl⟩) (at_rod hne)), fun _ => ?_⟩
      · rw [List.mem_singleton.mp ha]
        show (i : Int) ≤ 999 ∧ (-1000000 : Int) ≤ 1 ∧ (1 : Int) ≤ 1000000
        omega
      · unfold endsTo
        rw [List.range_succ, List.map_append, List.map_append]; rfl
    · obtain ⟨⟨Ps, g⟩, q⟩ := q
      have e : Ps = (endsTo N rs).map fun n => I K n := g
      subst e
      exact l_data (by rw [List.map_map]; exact q)
  refine q_asg (P := D K (.list [dI (endsTo N ps), dI (endsTo N qs)])) (t_weak (t_lcTV (K := K) (As := [Mem K C ps, Mem K C qs]) (φ := fun _ c => c = true) (fun i Ps => Ps = ([dI (endsTo N ps), dI (endsTo N qs)].take i).map (D K)) (t_tupP (ta_cons (t_var rfl) (ta_cons (t_var rfl) ta_nil)) (by simp)) (by simp) rfl (fun i Ps g => by rw [g, List.length_map, List.length_take]; exact Nat.min_le_left _ _) (fun i d _ => tb_yes) ?_ (fun i d _ h => by cases h)) fun v h q => ?_) ?_
  · rintro i d hd _ Ps rfl
    match i, hd with
    | 0, hd =>
      obtain rfl : Mem K C ps = d := by simpa using hd
      exact ⟨Unit, fun _ => D K (dI (endsTo N ps)), t_some () (inner ok1.1 ok1.2.1 rfl rfl rfl (fun _ => rfl) (fun _ => rfl)), fun _ => rfl⟩
    | 1, hd =>
      obtain rfl : Mem K C qs = d := by simpa using hd
      exact ⟨Unit, fun _ => D K (dI (endsTo N qs)), t_some () (inner ok2.1 ok2.2.1 rfl rfl rfl (fun _ => rfl) (fun _ => rfl)), fun _ => rfl⟩
    | i + 2, hd => simp at hd
  · obtain ⟨⟨Ps, g⟩, q⟩ := q
    have e : Ps = ([dI (endsTo N ps), dI (endsTo N qs)].take 2).map (D K) := g
    subst e
    exact l_data q
  have same : decide (ps = qs) = decide (endsTo N ps = endsTo N qs) := by
    by_cases e : ps = qs
    · rw [e]; simp
    · rw [decide_eq_false e, decide_eq_false]
      intro e2
      exact e (tell_mem ok1 ok2 far1 far2 fun s s0 s1 => endsTo_eq e2 s s0 (by omega))
  have E0' : ∀ {Γ : Z.Ctx}, Γ[6]? = some (some (D K (.list [dI (endsTo N ps), dI (endsTo N qs)]))) → T Γ (tOp (rIxL K) (tVar 6) (tC (.int 0))) (D K (dI (endsTo N ps))) := fun e => t_op (t_var e) t_int (opp_ixL (atI_nat (j := 0) rfl))
  have E1' : ∀ {Γ : Z.Ctx}, Γ[6]? = some (some (D K (.list [dI (endsTo N ps), dI (endsTo N qs)]))) → T Γ (tOp (rIxL K) (tVar 6) (tC (.int 1))) (D K (dI (endsTo N qs))) := fun e => t_op (t_var e) t_int (opp_ixL (atI_nat (j := 1) rfl))
  refine q_if (tb_or (a := false) (b := false) (tb_weak (tb_test (t_op (t_op (t_var rfl) (t_var rfl) (opp_ownEq (ps, qs) (fun v h q => ob_ty q) notFirst_self rfl trivial)) (t_op (E0' rfl) (E1' rfl) (opp_eq (shaped_dI _) (shaped_dI _))) opp_neB)) fun c h => ?_) fun _ => tb_weak (tb_test (t_op (t_op (t_var rfl) (t_var rfl) (opp_ownEq (ps, qs) (fun v h q => ob_ty q) notFirst_self rfl trivial)) (t_op (t_prop ps (t_var rfl) rfl trivial) (t_prop qs (t_var rfl) rfl trivial) (opp_eq (shaped_dT ps) (shaped_dT qs))) opp_neB)) fun c h => ?_) (fun h => by cases h) (fun _ => n_next ?_)
  · rw [h, eqv_dI]
    show (!decide (decide (ps = qs) = decide (endsTo N ps = endsTo N qs))) = false
    rw [same]; simp
  · rw [h, eqv_dT]; simp
  refine q_seq ?_
  refine n_forR1 (K := K) (γ := Unit) (n := 2 * far + 1) (fun _ _ => True) (fun _ _ => [some (Scr K script), some Drw, none, some (I K far), some (Mem K C ps), some (Mem K C qs), some (D K (.list [dI (endsTo N ps), dI (endsTo N qs)])), none, none, none]) (fun _ _ => none) () (ta_cons (t_eqI (t_op (t_cb (ta_cons (E0' rfl) ta_nil) fnp_lenL) t_int opp_I) (by rw [List.length_map, endsTo_len]; omega)) ta_nil) (by omega) trivial (le_same (le_same (le_same (le_same (le_same (le_same (le_same (le_same (le_same (le_same le_nil)))))))))) ?_ ?_
  · intro j _ hj _
    obtain ⟨a, r, er, ha, hr⟩ := okMem_head ok1
    have hlow : ps.getD 0 0 ≤ rodE (j : Int) 0 ps := by
      rw [er, rodE_mem (by omega) ha]
      exact rodE_low (by omega) (Int.le_refl _) fun x hx => by have := hr x hx; show a ≤ x; omega
    have hup : ∀ m : { m : Int // m ∈ ps ∧ ∀ y ∈ ps, y ≤ m }, rodE (j : Int) 0 ps ≤ m.1 := fun m => Int.le_trans (rodE_last ok1.1) (m.2.2 _ (List.getLast_mem ok1.1))
    have st := rodE_step (xs := ps) (s := (j : Int)) (e := 0) (e' := 0) (by omega)
    have ix : ∀ {Γ : Z.Ctx}, Γ[6]? = some (some (D K (.list [dI (endsTo N ps), dI (endsTo N qs)]))) → Γ[7]? = some (some (I K (j : Int))) → T Γ (tOp (rIxL K) (tOp (rIxL K) (tVar 6) (tC (.int 0))) (tVar 7)) (I K (rodE (j : Int) 0 ps)) := fun e e7 => t_op (E0' e) (t_var e7) (opp_ixLI (endsTo_at (by omega)))
    refine n_if (tb_or (a := false) (b := false) (tb_weak (tb_not (tb_test (t_chain t_int (t_op (ix rfl rfl) (t_op (E0' rfl) (t_eqI (t_op (t_var rfl) t_int opp_I) (show (j : Int) + 1 = ((j + 1 : Nat) : Int) by omega)) (opp_ixLI (endsTo_at (by omega)))) opp_I) t_int))) fun c h => ?_) fun _ => tb_weak (tb_not (tb_test (t_chainC (c := true) (t_op (t_prop ps (t_var rfl) rfl trivial) t_int (opp_ixTI (at_getD (i := 0) g1))) (ix rfl rfl) (t_cb (ta_cons (t_prop ps (t_var rfl) rfl trivial) ta_nil) (fnp_maxT ok1.1)) (fun m => decide_eq_true (hup m))))) fun c h => ?_) (fun h => by cases h) (fun _ => n_next ?_)
    · rw [h]
      have e1 : ((j + 1 : Nat) : Int) = (j : Int) + 1 := by omega
      rw [e1]
      have h1 : decide ((0 : Int) ≤ rodE (j : Int) 0 ps - rodE ((j : Int) + 1) 0 ps) = true := decide_eq_true st.1
      have h2 : decide (rodE (j : Int) 0 ps - rodE ((j : Int) + 1) 0 ps ≤ 1) = true := decide_eq_true st.2
      rw [h1, h2]; rfl
    · rw [h]
      have h1 : decide (ps.getD 0 0 ≤ rodE (j : Int) 0 ps) = true := decide_eq_true hlow
      rw [h1]; rfl
    · refine n_pv () ?_ ?_ ?_
      · trivial
      · rfl
      · exact le_same (le_same (le_skip (le_same (le_same (le_same (le_same (le_skip (le_skip (le_skip le_nil)))))))))
  · intro _ _
    have ef := rodE_far ok1 far1
    refine n_if (tb_or (a := false) (b := false) (tb_weak (tb_test (t_op (t_op (E0' rfl) t_int (opp_ixLI (endsTo_at (i := 0) (by omega)))) (t_prop (⟨ps, ok1.1⟩ : { ps : List Int // ps ≠ [] }) (t_var rfl) rfl trivial) opp_neI)) fun c h => ?_) fun _ => tb_or (a := false) (b := false) (tb_weak (tb_test (t_op (t_op (E1' rfl) t_int (opp_ixLI (endsTo_at (i := 0) (by omega)))) (t_prop (⟨qs, ok2.1⟩ : { ps : List Int // ps ≠ [] }) (t_var rfl) rfl trivial) opp_neI)) fun c h => ?_) fun _ => tb_weak (tb_test (t_op (t_op (E0' rfl) (t_eqI (t_op (t_op t_int (t_var rfl) (opp_IC (.inl ⟨by omega, by omega⟩))) t_int opp_I) (show 2 * far + 1 = ((N - 1 : Nat) : Int) by omega)) (opp_ixLI (endsTo_at (by omega)))) (t_op (t_prop ps (t_var rfl) rfl trivial) t_int (opp_ixTI (at_getD (i := 0) g1))) opp_neI)) fun c h => ?_) (fun h => by cases h) (fun _ => n_next ?_)
    · rw [h]
      have : rodE ((0 : Nat) : Int) 0 ps = ps.getLast ok1.1 := rodE_0 ok1.1
      rw [this]; simp
    · rw [h]
      have : rodE ((0 : Nat) : Int) 0 qs = qs.getLast ok2.1 := rodE_0 ok2.1
      rw [this]; simp
    · rw [h]
      have e : ((N - 1 : Nat) : Int) = 2 * far + 1 := by omega
      rw [e, ef]; simp
    · refine n_pv () ?_ ?_ ?_
      · trivial
      · rfl
      · exact le_same (le_same (le_skip (le_skip (le_skip (le_skip (le_skip (le_skip (le_skip (le_skip le_nil)))))))))
end

theorem all_mk {l : PySem.W.OpenLaw} {w : World} {K : PySem.W.Frag} {h : Heap} {mg : Str → Option Value} {fa f_is_number f_is_place f_check_row f__is_between f__fits f__check_places f__after_move f_memory_of f__check_arms f__ends_of_rod f__ends_of_arms f_rod f__law_random f__law_below f__law_row f_law C_Memory f_Memory__init_ f_Memory__eq_ f_Memory_places p_Memory_places f_Memory_place p_Memory_place f_Memory_row p_Memory_row C_Rig f_Rig__init_ f_Rig_at : Addr} (X : K.In h) (G : h.Ns mainGlobals mg) (hfa : mg "law" = some (.ref fa))
    {od_is_number an_is_number : Option Addr} {sl_is_number : Array (Option Value)} {oc_is_number kV_is_number dc_is_number pm_is_number cd_is_number ct_is_number : Value}
    {od_is_place an_is_place : Option Addr} {sl_is_place : Array (Option Value)} {oc_is_place kV_is_place dc_is_place pm_is_place cd_is_place ct_is_place : Value}
    {od_check_row an_check_row : Option Addr} {sl_check_row : Array (Option Value)} {oc_check_row kV_check_row dc_check_row pm_check_row cd_check_row ct_check_row : Value}
    {od__is_between an__is_between : Option Addr} {sl__is_between : Array (Option Value)} {oc__is_between kV__is_between dc__is_between pm__is_between cd__is_between ct__is_between : Value}
    {od__fits an__fits : Option Addr} {sl__fits : Array (Option Value)} {oc__fits kV__fits dc__fits pm__fits cd__fits ct__fits : Value}
    {od__check_places an__check_places : Option Addr} {sl__check_places : Array (Option Value)} {oc__check_places kV__check_places dc__check_places pm__check_places cd__check_places ct__check_places : Value}
    {od__after_move an__after_move : Option Addr} {sl__after_move : Array (Option Value)} {oc__after_move kV__after_move dc__after_move pm__after_move cd__after_move ct__after_move : Value}
    {od_memory_of an_memory_of : Option Addr} {sl_memory_of : Array (Option Value)} {oc_memory_of kV_memory_of dc_memory_of pm_memory_of cd_memory_of ct_memory_of : Value}
    {od__check_arms an__check_arms : Option Addr} {sl__check_arms : Array (Option Value)} {oc__check_arms kV__check_arms dc__check_arms pm__check_arms cd__check_arms ct__check_arms : Value}
    {od__ends_of_rod an__ends_of_rod : Option Addr} {sl__ends_of_rod : Array (Option Value)} {oc__ends_of_rod kV__ends_of_rod dc__ends_of_rod pm__ends_of_rod cd__ends_of_rod ct__ends_of_rod : Value}
    {od__ends_of_arms an__ends_of_arms : Option Addr} {sl__ends_of_arms : Array (Option Value)} {oc__ends_of_arms kV__ends_of_arms dc__ends_of_arms pm__ends_of_arms cd__ends_of_arms ct__ends_of_arms : Value}
    {od_rod an_rod : Option Addr} {sl_rod : Array (Option Value)} {oc_rod kV_rod dc_rod pm_rod cd_rod ct_rod : Value}
    {od__law_random an__law_random : Option Addr} {sl__law_random : Array (Option Value)} {oc__law_random kV__law_random dc__law_random pm__law_random cd__law_random ct__law_random : Value}
    {od__law_below an__law_below : Option Addr} {sl__law_below : Array (Option Value)} {oc__law_below kV__law_below dc__law_below pm__law_below cd__law_below ct__law_below : Value}
    {od__law_row an__law_row : Option Addr} {sl__law_row : Array (Option Value)} {oc__law_row kV__law_row dc__law_row pm__law_row cd__law_row ct__law_row : Value}
    {od_law an_law : Option Addr} {sl_law : Array (Option Value)} {oc_law kV_law dc_law pm_law cd_law ct_law : Value}
    {od_Memory__init_ an_Memory__init_ : Option Addr} {sl_Memory__init_ : Array (Option Value)} {oc_Memory__init_ kV_Memory__init_ dc_Memory__init_ pm_Memory__init_ cd_Memory__init_ ct_Memory__init_ : Value}
    {od_Memory__eq_ an_Memory__eq_ : Option Addr} {sl_Memory__eq_ : Array (Option Value)} {oc_Memory__eq_ kV_Memory__eq_ dc_Memory__eq_ pm_Memory__eq_ cd_Memory__eq_ ct_Memory__eq_ : Value}
    {r_Memory_places : List Value}
    {od_Memory_places an_Memory_places : Option Addr} {sl_Memory_places : Array (Option Value)} {oc_Memory_places kV_Memory_places dc_Memory_places pm_Memory_places cd_Memory_places ct_Memory_places : Value}
    {r_Memory_place : List Value}
    {od_Memory_place an_Memory_place : Option Addr} {sl_Memory_place : Array (Option Value)} {oc_Memory_place kV_Memory_place dc_Memory_place pm_Memory_place cd_Memory_place ct_Memory_place : Value}
    {r_Memory_row : List Value}
    {od_Memory_row an_Memory_row : Option Addr} {sl_Memory_row : Array (Option Value)} {oc_Memory_row kV_Memory_row dc_Memory_row pm_Memory_row cd_Memory_row ct_Memory_row : Value}
    {od_Rig__init_ an_Rig__init_ : Option Addr} {sl_Rig__init_ : Array (Option Value)} {oc_Rig__init_ kV_Rig__init_ dc_Rig__init_ pm_Rig__init_ cd_Rig__init_ ct_Rig__init_ : Value}
    {od_Rig_at an_Rig_at : Option Addr} {sl_Rig_at : Array (Option Value)} {oc_Rig_at kV_Rig_at dc_Rig_at pm_Rig_at cd_Rig_at ct_Rig_at : Value}
    {u_FARTHEST : Value}
    {u_LONGEST_ROW : Value}
    {u_GREATEST_ROD : Value}
    {u_GREATEST_SLACK : Value}
    {u_GREATEST_ARM : Value}
    {u_MOST_ARMS : Value}
    (a_is_number : PySem.W.nsIn K mainGlobals "is_number" = some (some (.ref f_is_number)))
    (l_is_number : K.lookup f_is_number = some ⟨oc_is_number, od_is_number, .func (PySem.W.fnOf "is_number" "is_number" (defArgs s_is_number) (defBody s_is_number) (defScope s_is_number) .none kV_is_number dc_is_number pm_is_number an_is_number cd_is_number ct_is_number), sl_is_number⟩)
    (c_is_number : PySem.W.codeIn K cd_is_number "is_number" = true)
    (k_is_number : PySem.W.keepIn K (.ref f_is_number) = true)
    (a_is_place : PySem.W.nsIn K mainGlobals "is_place" = some (some (.ref f_is_place)))
    (l_is_place : K.lookup f_is_place = some ⟨oc_is_place, od_is_place, .func (PySem.W.fnOf "is_place" "is_place" (defArgs s_is_place) (defBody s_is_place) (defScope s_is_place) .none kV_is_place dc_is_place pm_is_place an_is_place cd_is_place ct_is_place), sl_is_place⟩)
    (c_is_place : PySem.W.codeIn K cd_is_place "is_place" = true)
    (k_is_place : PySem.W.keepIn K (.ref f_is_place) = true)
    (a_check_row : PySem.W.nsIn K mainGlobals "check_row" = some (some (.ref f_check_row)))
    (l_check_row : K.lookup f_check_row = some ⟨oc_check_row, od_check_row, .func (PySem.W.fnOf "check_row" "check_row" (defArgs s_check_row) (defBody s_check_row) (defScope s_check_row) .none kV_check_row dc_check_row pm_check_row an_check_row cd_check_row ct_check_row), sl_check_row⟩)
    (c_check_row : PySem.W.codeIn K cd_check_row "check_row" = true)
    (k_check_row : PySem.W.keepIn K (.ref f_check_row) = true)
    (a__is_between : PySem.W.nsIn K mainGlobals "_is_between" = some (some (.ref f__is_between)))
    (l__is_between : K.lookup f__is_between = some ⟨oc__is_between, od__is_between, .func (PySem.W.fnOf "_is_between" "_is_between" (defArgs s__is_between) (defBody s__is_between) (defScope s__is_between) .none kV__is_between dc__is_between pm__is_between an__is_between cd__is_between ct__is_between), sl__is_between⟩)
    (c__is_between : PySem.W.codeIn K cd__is_between "_is_between" = true)
    (k__is_between : PySem.W.keepIn K (.ref f__is_between) = true)
    (a__fits : PySem.W.nsIn K mainGlobals "_fits" = some (some (.ref f__fits)))
    (l__fits : K.lookup f__fits = some ⟨oc__fits, od__fits, .func (PySem.W.fnOf "_fits" "_fits" (defArgs s__fits) (defBody s__fits) (defScope s__fits) .none kV__fits dc__fits pm__fits an__fits cd__fits ct__fits), sl__fits⟩)
    (c__fits : PySem.W.codeIn K cd__fits "_fits" = true)
    (k__fits : PySem.W.keepIn K (.ref f__fits) = true)
    (a__check_places : PySem.W.nsIn K mainGlobals "_check_places" = some (some (.ref f__check_places)))
    (l__check_places : K.lookup f__check_places = some ⟨oc__check_places, od__check_places, .func (PySem.W.fnOf "_check_places" "_check_places" (defArgs s__check_places) (defBody s__check_places) (defScope s__check_places) .none kV__check_places dc__check_places pm__check_places an__check_places cd__check_places ct__check_places), sl__check_places⟩)
    (c__check_places : PySem.W.codeIn K cd__check_places "_check_places" = true)
    (k__check_places : PySem.W.keepIn K (.ref f__check_places) = true)
    (a__after_move : PySem.W.nsIn K mainGlobals "_after_move" = some (some (.ref f__after_move)))
    (l__after_move : K.lookup f__after_move = some ⟨oc__after_move, od__after_move, .func (PySem.W.fnOf "_after_move" "_after_move" (defArgs s__after_move) (defBody s__after_move) (defScope s__after_move) .none kV__after_move dc__after_move pm__after_move an__after_move cd__after_move ct__after_move), sl__after_move⟩)
    (c__after_move : PySem.W.codeIn K cd__after_move "_after_move" = true)
    (k__after_move : PySem.W.keepIn K (.ref f__after_move) = true)
    (a_memory_of : PySem.W.nsIn K mainGlobals "memory_of" = some (some (.ref f_memory_of)))
    (l_memory_of : K.lookup f_memory_of = some ⟨oc_memory_of, od_memory_of, .func (PySem.W.fnOf "memory_of" "memory_of" (defArgs s_memory_of) (defBody s_memory_of) (defScope s_memory_of) .none kV_memory_of dc_memory_of pm_memory_of an_memory_of cd_memory_of ct_memory_of), sl_memory_of⟩)
    (c_memory_of : PySem.W.codeIn K cd_memory_of "memory_of" = true)
    (k_memory_of : PySem.W.keepIn K (.ref f_memory_of) = true)
    (a__check_arms : PySem.W.nsIn K mainGlobals "_check_arms" = some (some (.ref f__check_arms)))
    (l__check_arms : K.lookup f__check_arms = some ⟨oc__check_arms, od__check_arms, .func (PySem.W.fnOf "_check_arms" "_check_arms" (defArgs s__check_arms) (defBody s__check_arms) (defScope s__check_arms) .none kV__check_arms dc__check_arms pm__check_arms an__check_arms cd__check_arms ct__check_arms), sl__check_arms⟩)
    (c__check_arms : PySem.W.codeIn K cd__check_arms "_check_arms" = true)
    (k__check_arms : PySem.W.keepIn K (.ref f__check_arms) = true)
    (a__ends_of_rod : PySem.W.nsIn K mainGlobals "_ends_of_rod" = some (some (.ref f__ends_of_rod)))
    (l__ends_of_rod : K.lookup f__ends_of_rod = some ⟨oc__ends_of_rod, od__ends_of_rod, .func (PySem.W.fnOf "_ends_of_rod" "_ends_of_rod" (defArgs s__ends_of_rod) (defBody s__ends_of_rod) (defScope s__ends_of_rod) .none kV__ends_of_rod dc__ends_of_rod pm__ends_of_rod an__ends_of_rod cd__ends_of_rod ct__ends_of_rod), sl__ends_of_rod⟩)
    (c__ends_of_rod : PySem.W.codeIn K cd__ends_of_rod "_ends_of_rod" = true)
    (k__ends_of_rod : PySem.W.keepIn K (.ref f__ends_of_rod) = true)
    (a__ends_of_arms : PySem.W.nsIn K mainGlobals "_ends_of_arms" = some (some (.ref f__ends_of_arms)))
    (l__ends_of_arms : K.lookup f__ends_of_arms = some ⟨oc__ends_of_arms, od__ends_of_arms, .func (PySem.W.fnOf "_ends_of_arms" "_ends_of_arms" (defArgs s__ends_of_arms) (defBody s__ends_of_arms) (defScope s__ends_of_arms) .none kV__ends_of_arms dc__ends_of_arms pm__ends_of_arms an__ends_of_arms cd__ends_of_arms ct__ends_of_arms), sl__ends_of_arms⟩)
    (c__ends_of_arms : PySem.W.codeIn K cd__ends_of_arms "_ends_of_arms" = true)
    (k__ends_of_arms : PySem.W.keepIn K (.ref f__ends_of_arms) = true)
    (a_rod : PySem.W.nsIn K mainGlobals "rod" = some (some (.ref f_rod)))
    (l_rod : K.lookup f_rod = some ⟨oc_rod, od_rod, .func (PySem.W.fnOf "rod" "rod" (defArgs s_rod) (defBody s_rod) (defScope s_rod) .none kV_rod dc_rod pm_rod an_rod cd_rod ct_rod), sl_rod⟩)
    (c_rod : PySem.W.codeIn K cd_rod "rod" = true)
    (k_rod : PySem.W.keepIn K (.ref f_rod) = true)
    (a__law_random : PySem.W.nsIn K mainGlobals "_law_random" = some (some (.ref f__law_random)))
    (l__law_random : K.lookup f__law_random = some ⟨oc__law_random, od__law_random, .func (PySem.W.fnOf "_law_random" "_law_random" (defArgs s__law_random) (defBody s__law_random) (defScope s__law_random) .none kV__law_random dc__law_random pm__law_random an__law_random cd__law_random ct__law_random), sl__law_random⟩)
    (c__law_random : PySem.W.codeIn K cd__law_random "_law_random" = true)
    (k__law_random : PySem.W.keepIn K (.ref f__law_random) = true)
    (a__law_below : PySem.W.nsIn K mainGlobals "_law_below" = some (some (.ref f__law_below)))
    (l__law_below : K.lookup f__law_below = some ⟨oc__law_below, od__law_below, .func (PySem.W.fnOf "_law_below" "_law_below" (defArgs s__law_below) (defBody s__law_below) (defScope s__law_below) .none kV__law_below dc__law_below pm__law_below an__law_below cd__law_below ct__law_below), sl__law_below⟩)
    (c__law_below : PySem.W.codeIn K cd__law_below "_law_below" = true)
    (k__law_below : PySem.W.keepIn K (.ref f__law_below) = true)
    (a__law_row : PySem.W.nsIn K mainGlobals "_law_row" = some (some (.ref f__law_row)))
    (l__law_row : K.lookup f__law_row = some ⟨oc__law_row, od__law_row, .func (PySem.W.fnOf "_law_row" "_law_row" (defArgs s__law_row) (defBody s__law_row) (defScope s__law_row) .none kV__law_row dc__law_row pm__law_row an__law_row cd__law_row ct__law_row), sl__law_row⟩)
    (c__law_row : PySem.W.codeIn K cd__law_row "_law_row" = true)
    (k__law_row : PySem.W.keepIn K (.ref f__law_row) = true)
    (a_law : PySem.W.nsIn K mainGlobals "law" = some (some (.ref f_law)))
    (l_law : K.lookup f_law = some ⟨oc_law, od_law, .func (PySem.W.fnOf "law" "law" (defArgs s_law) (defBody s_law) (defScope s_law) .none kV_law dc_law pm_law an_law cd_law ct_law), sl_law⟩)
    (c_law : PySem.W.codeIn K cd_law "law" = true)
    (k_law : PySem.W.keepIn K (.ref f_law) = true)
    (aC_Memory : PySem.W.nsIn K mainGlobals "Memory" = some (some (.ref C_Memory)))
    (pg_Memory : PySem.W.plainGet K C_Memory Str.empty = true)
    (hd_Memory : PySem.W.hasDictIn K C_Memory = true)
    (po_Memory : PySem.W.plainOver K C_Memory = true)
    (sa_Memory : PySem.W.findIn K (.ref C_Memory) "__setattr__" = some (some (.builtin "object.__setattr__")))
    (na_Memory : PySem.W.findIn K (.ref C_Memory) "_places" = some none)
    (ha_Memory : PySem.W.findIn K (.ref C_Memory) "__class__" = some (some (.builtin "object.__class__")))
    (hn_Memory : PySem.W.specialIn K (.builtin "object.__class__") "__get__" = some (some (.builtin "getset_descriptor.__get__")))
    (ht_Memory : PySem.W.takesIn K (.builtin "object.__class__") = some true)
    (hm_Memory : PySem.W.mroIn K C_Memory (.type "object") = some true)
    (ne_Memory : PySem.W.findIn K (.ref C_Memory) "__ne__" = some (some (.builtin "object.__ne__")))
    (ic_Memory : PySem.W.isClsIn K C_Memory = true)
    (ty_Memory : PySem.W.typeIn K (.ref C_Memory) = some (.type "type"))
    (st_Memory : PySem.W.subIn K (.type "tuple") (.ref C_Memory) = some false)
    (mk_Memory : PySem.W.makesIn K C_Memory = true)
    (kc_Memory : PySem.W.keepIn K (.ref C_Memory) = true)
    (a_Memory__init_ : PySem.W.findIn K (.ref C_Memory) "__init__" = some (some (.ref f_Memory__init_)))
    (i_Memory__init_ : PySem.W.isFn K (.ref f_Memory__init_) = true)
    (fi_Memory__init_ : PySem.W.fnIn K f_Memory__init_ = true)
    (l_Memory__init_ : K.lookup f_Memory__init_ = some ⟨oc_Memory__init_, od_Memory__init_, .func (PySem.W.fnOf "__init__" "Memory.__init__" (defArgs s_Memory__init_) (defBody s_Memory__init_) (defScope s_Memory__init_) .none kV_Memory__init_ dc_Memory__init_ pm_Memory__init_ an_Memory__init_ cd_Memory__init_ ct_Memory__init_), sl_Memory__init_⟩)
    (c_Memory__init_ : PySem.W.codeIn K cd_Memory__init_ "Memory.__init__" = true)
    (k_Memory__init_ : PySem.W.keepIn K (.ref f_Memory__init_) = true)
    (a_Memory__eq_ : PySem.W.findIn K (.ref C_Memory) "__eq__" = some (some (.ref f_Memory__eq_)))
    (i_Memory__eq_ : PySem.W.isFn K (.ref f_Memory__eq_) = true)
    (fi_Memory__eq_ : PySem.W.fnIn K f_Memory__eq_ = true)
    (l_Memory__eq_ : K.lookup f_Memory__eq_ = some ⟨oc_Memory__eq_, od_Memory__eq_, .func (PySem.W.fnOf "__eq__" "Memory.__eq__" (defArgs s_Memory__eq_) (defBody s_Memory__eq_) (defScope s_Memory__eq_) .none kV_Memory__eq_ dc_Memory__eq_ pm_Memory__eq_ an_Memory__eq_ cd_Memory__eq_ ct_Memory__eq_), sl_Memory__eq_⟩)
    (c_Memory__eq_ : PySem.W.codeIn K cd_Memory__eq_ "Memory.__eq__" = true)
    (k_Memory__eq_ : PySem.W.keepIn K (.ref f_Memory__eq_) = true)
    (a_Memory_places : PySem.W.findIn K (.ref C_Memory) "places" = some (some (.ref p_Memory_places)))
    (g_Memory_places : PySem.W.specialIn K (.ref p_Memory_places) "__get__" = some (some (.builtin "property.__get__")))
    (t_Memory_places : PySem.W.takesIn K (.ref p_Memory_places) = some true)
    (r_Memory_places_ : PySem.W.recIn K p_Memory_places "property" = some (.ref f_Memory_places :: r_Memory_places))
    (l_Memory_places : K.lookup f_Memory_places = some ⟨oc_Memory_places, od_Memory_places, .func (PySem.W.fnOf "places" "Memory.places" (defArgs s_Memory_places) (defBody s_Memory_places) (defScope s_Memory_places) .none kV_Memory_places dc_Memory_places pm_Memory_places an_Memory_places cd_Memory_places ct_Memory_places), sl_Memory_places⟩)
    (c_Memory_places : PySem.W.codeIn K cd_Memory_places "Memory.places" = true)
    (k_Memory_places : PySem.W.keepIn K (.ref f_Memory_places) = true)
    (a_Memory_place : PySem.W.findIn K (.ref C_Memory) "place" = some (some (.ref p_Memory_place)))
    (g_Memory_place : PySem.W.specialIn K (.ref p_Memory_place) "__get__" = some (some (.builtin "property.__get__")))
    (t_Memory_place : PySem.W.takesIn K (.ref p_Memory_place) = some true)
    (r_Memory_place_ : PySem.W.recIn K p_Memory_place "property" = some (.ref f_Memory_place :: r_Memory_place))
    (l_Memory_place : K.lookup f_Memory_place = some ⟨oc_Memory_place, od_Memory_place, .func (PySem.W.fnOf "place" "Memory.place" (defArgs s_Memory_place) (defBody s_Memory_place) (defScope s_Memory_place) .none kV_Memory_place dc_Memory_place pm_Memory_place an_Memory_place cd_Memory_place ct_Memory_place), sl_Memory_place⟩)
    (c_Memory_place : PySem.W.codeIn K cd_Memory_place "Memory.place" = true)
    (k_Memory_place : PySem.W.keepIn K (.ref f_Memory_place) = true)
    (a_Memory_row : PySem.W.findIn K (.ref C_Memory) "row" = some (some (.ref p_Memory_row)))
    (g_Memory_row : PySem.W.specialIn K (.ref p_Memory_row) "__get__" = some (some (.builtin "property.__get__")))
    (t_Memory_row : PySem.W.takesIn K (.ref p_Memory_row) = some true)
    (r_Memory_row_ : PySem.W.recIn K p_Memory_row "property" = some (.ref f_Memory_row :: r_Memory_row))
    (l_Memory_row : K.lookup f_Memory_row = some ⟨oc_Memory_row, od_Memory_row, .func (PySem.W.fnOf "row" "Memory.row" (defArgs s_Memory_row) (defBody s_Memory_row) (defScope s_Memory_row) .none kV_Memory_row dc_Memory_row pm_Memory_row an_Memory_row cd_Memory_row ct_Memory_row), sl_Memory_row⟩)
    (c_Memory_row : PySem.W.codeIn K cd_Memory_row "Memory.row" = true)
    (k_Memory_row : PySem.W.keepIn K (.ref f_Memory_row) = true)
    (aC_Rig : PySem.W.nsIn K mainGlobals "Rig" = some (some (.ref C_Rig)))
    (pg_Rig : PySem.W.plainGet K C_Rig Str.empty = true)
    (hd_Rig : PySem.W.hasDictIn K C_Rig = true)
    (po_Rig : PySem.W.plainOver K C_Rig = true)
    (sa_Rig : PySem.W.findIn K (.ref C_Rig) "__setattr__" = some (some (.builtin "object.__setattr__")))
    (na_Rig : PySem.W.findIn K (.ref C_Rig) "_arms" = some none)
    (ha_Rig : PySem.W.findIn K (.ref C_Rig) "__class__" = some (some (.builtin "object.__class__")))
    (hn_Rig : PySem.W.specialIn K (.builtin "object.__class__") "__get__" = some (some (.builtin "getset_descriptor.__get__")))
    (ht_Rig : PySem.W.takesIn K (.builtin "object.__class__") = some true)
    (hm_Rig : PySem.W.mroIn K C_Rig (.type "object") = some true)
    (ne_Rig : PySem.W.findIn K (.ref C_Rig) "__ne__" = some (some (.builtin "object.__ne__")))
    (ic_Rig : PySem.W.isClsIn K C_Rig = true)
    (ty_Rig : PySem.W.typeIn K (.ref C_Rig) = some (.type "type"))
    (st_Rig : PySem.W.subIn K (.type "tuple") (.ref C_Rig) = some false)
    (mk_Rig : PySem.W.makesIn K C_Rig = true)
    (kc_Rig : PySem.W.keepIn K (.ref C_Rig) = true)
    (a_Rig__init_ : PySem.W.findIn K (.ref C_Rig) "__init__" = some (some (.ref f_Rig__init_)))
    (i_Rig__init_ : PySem.W.isFn K (.ref f_Rig__init_) = true)
    (fi_Rig__init_ : PySem.W.fnIn K f_Rig__init_ = true)
    (l_Rig__init_ : K.lookup f_Rig__init_ = some ⟨oc_Rig__init_, od_Rig__init_, .func (PySem.W.fnOf "__init__" "Rig.__init__" (defArgs s_Rig__init_) (defBody s_Rig__init_) (defScope s_Rig__init_) .none kV_Rig__init_ dc_Rig__init_ pm_Rig__init_ an_Rig__init_ cd_Rig__init_ ct_Rig__init_), sl_Rig__init_⟩)
    (c_Rig__init_ : PySem.W.codeIn K cd_Rig__init_ "Rig.__init__" = true)
    (k_Rig__init_ : PySem.W.keepIn K (.ref f_Rig__init_) = true)
    (a_Rig_at : PySem.W.findIn K (.ref C_Rig) "at" = some (some (.ref f_Rig_at)))
    (i_Rig_at : PySem.W.isFn K (.ref f_Rig_at) = true)
    (fi_Rig_at : PySem.W.fnIn K f_Rig_at = true)
    (l_Rig_at : K.lookup f_Rig_at = some ⟨oc_Rig_at, od_Rig_at, .func (PySem.W.fnOf "at" "Rig.at" (defArgs s_Rig_at) (defBody s_Rig_at) (defScope s_Rig_at) .none kV_Rig_at dc_Rig_at pm_Rig_at an_Rig_at cd_Rig_at ct_Rig_at), sl_Rig_at⟩)
    (c_Rig_at : PySem.W.codeIn K cd_Rig_at "Rig.at" = true)
    (k_Rig_at : PySem.W.keepIn K (.ref f_Rig_at) = true)
    (z_len : PySem.W.nsIn K mainGlobals "len" = some none)
    (z_isinstance : PySem.W.nsIn K mainGlobals "isinstance" = some none)
    (z_min : PySem.W.nsIn K mainGlobals "min" = some none)
    (z_max : PySem.W.nsIn K mainGlobals "max" = some none)
    (z_abs : PySem.W.nsIn K mainGlobals "abs" = some none)
    (z_int : PySem.W.nsIn K mainGlobals "int" = some none)
    (z_bool : PySem.W.nsIn K mainGlobals "bool" = some none)
    (z_list : PySem.W.nsIn K mainGlobals "list" = some none)
    (z_tuple : PySem.W.nsIn K mainGlobals "tuple" = some none)
    (z_range : PySem.W.nsIn K mainGlobals "range" = some none)
    (z_enumerate : PySem.W.nsIn K mainGlobals "enumerate" = some none)
    (z_zip : PySem.W.nsIn K mainGlobals "zip" = some none)
    (z_FARTHEST : PySem.W.nsIn K mainGlobals "FARTHEST" = some (some u_FARTHEST))
    (v_FARTHEST : RelV (.int 1000000) u_FARTHEST)
    (z_LONGEST_ROW : PySem.W.nsIn K mainGlobals "LONGEST_ROW" = some (some u_LONGEST_ROW))
    (v_LONGEST_ROW : RelV (.int 1000) u_LONGEST_ROW)
    (z_GREATEST_ROD : PySem.W.nsIn K mainGlobals "GREATEST_ROD" = some (some u_GREATEST_ROD))
    (v_GREATEST_ROD : RelV (.int 99) u_GREATEST_ROD)
    (z_GREATEST_SLACK : PySem.W.nsIn K mainGlobals "GREATEST_SLACK" = some (some u_GREATEST_SLACK))
    (v_GREATEST_SLACK : RelV (.int 999) u_GREATEST_SLACK)
    (z_GREATEST_ARM : PySem.W.nsIn K mainGlobals "GREATEST_ARM" = some (some u_GREATEST_ARM))
    (v_GREATEST_ARM : RelV (.int 1000000) u_GREATEST_ARM)
    (z_MOST_ARMS : PySem.W.nsIn K mainGlobals "MOST_ARMS" = some (some u_MOST_ARMS))
    (v_MOST_ARMS : RelV (.int 60) u_MOST_ARMS)
    : ∃ fd : FuncData, (∀ (s : Shared) (u : Value), BindsTo s fd ⟨[u], []⟩ [("_law_script", u)]) ∧ ∀ base : Heap, K.In base → base.Ns mainGlobals mg → FnOk l.prog w K mg base CX0 9 fa fd ["_law_script"] (spLaw K) := by
  have e := hfa.symm.trans (PySem.W.mg_of X G a_law)
  cases e
  have d_is_number : Dn K mg "is_number" s_is_number P_is_number := ⟨f_is_number, _, fun_mk (st := s_is_number) l_is_number c_is_number k_is_number, PySem.W.mg_of X G a_is_number, (fun_mk (st := s_is_number) l_is_number c_is_number k_is_number).binds (ps := P_is_number) fun _ _ _ _ _ _ us hl => match us, hl with | [_, _, _], _ => rfl⟩
  have d_is_place : Dn K mg "is_place" s_is_place P_is_place := ⟨f_is_place, _, fun_mk (st := s_is_place) l_is_place c_is_place k_is_place, PySem.W.mg_of X G a_is_place, (fun_mk (st := s_is_place) l_is_place c_is_place k_is_place).binds (ps := P_is_place) fun _ _ _ _ _ _ us hl => match us, hl with | [_], _ => rfl⟩
  have d_check_row : Dn K mg "check_row" s_check_row P_check_row := ⟨f_check_row, _, fun_mk (st := s_check_row) l_check_row c_check_row k_check_row, PySem.W.mg_of X G a_check_row, (fun_mk (st := s_check_row) l_check_row c_check_row k_check_row).binds (ps := P_check_row) fun _ _ _ _ _ _ us hl => match us, hl with | [_], _ => rfl⟩
  have d__is_between : Dn K mg "_is_between" s__is_between P__is_between := ⟨f__is_between, _, fun_mk (st := s__is_between) l__is_between c__is_between k__is_between, PySem.W.mg_of X G a__is_between, (fun_mk (st := s__is_between) l__is_between c__is_between k__is_between).binds (ps := P__is_between) fun _ _ _ _ _ _ us hl => match us, hl with | [_, _, _], _ => rfl⟩
  have d__fits : Dn K mg "_fits" s__fits P__fits := ⟨f__fits, _, fun_mk (st := s__fits) l__fits c__fits k__fits, PySem.W.mg_of X G a__fits, (fun_mk (st := s__fits) l__fits c__fits k__fits).binds (ps := P__fits) fun _ _ _ _ _ _ us hl => match us, hl with | [_, _], _ => rfl⟩
  have d__check_places : Dn K mg "_check_places" s__check_places P__check_places := ⟨f__check_places, _, fun_mk (st := s__check_places) l__check_places c__check_places k__check_places, PySem.W.mg_of X G a__check_places, (fun_mk (st := s__check_places) l__check_places c__check_places k__check_places).binds (ps := P__check_places) fun _ _ _ _ _ _ us hl => match us, hl with | [_], _ => rfl⟩
  have d__after_move : Dn K mg "_after_move" s__after_move P__after_move := ⟨f__after_move, _, fun_mk (st := s__after_move) l__after_move c__after_move k__after_move, PySem.W.mg_of X G a__after_move, (fun_mk (st := s__after_move) l__after_move c__after_move k__after_move).binds (ps := P__after_move) fun _ _ _ _ _ _ us hl => match us, hl with | [_, _], _ => rfl⟩
  have d_memory_of : Dn K mg "memory_of" s_memory_of P_memory_of := ⟨f_memory_of, _, fun_mk (st := s_memory_of) l_memory_of c_memory_of k_memory_of, PySem.W.mg_of X G a_memory_of, (fun_mk (st := s_memory_of) l_memory_of c_memory_of k_memory_of).binds (ps := P_memory_of) fun _ _ _ _ _ _ us hl => match us, hl with | [_], _ => rfl⟩
  have d__check_arms : Dn K mg "_check_arms" s__check_arms P__check_arms := ⟨f__check_arms, _, fun_mk (st := s__check_arms) l__check_arms c__check_arms k__check_arms, PySem.W.mg_of X G a__check_arms, (fun_mk (st := s__check_arms) l__check_arms c__check_arms k__check_arms).binds (ps := P__check_arms) fun _ _ _ _ _ _ us hl => match us, hl with | [_], _ => rfl⟩
  have d__ends_of_rod : Dn K mg "_ends_of_rod" s__ends_of_rod P__ends_of_rod := ⟨f__ends_of_rod, _, fun_mk (st := s__ends_of_rod) l__ends_of_rod c__ends_of_rod k__ends_of_rod, PySem.W.mg_of X G a__ends_of_rod, (fun_mk (st := s__ends_of_rod) l__ends_of_rod c__ends_of_rod k__ends_of_rod).binds (ps := P__ends_of_rod) fun _ _ _ _ _ _ us hl => match us, hl with | [_, _], _ => rfl⟩
  have d__ends_of_arms : Dn K mg "_ends_of_arms" s__ends_of_arms P__ends_of_arms := ⟨f__ends_of_arms, _, fun_mk (st := s__ends_of_arms) l__ends_of_arms c__ends_of_arms k__ends_of_arms, PySem.W.mg_of X G a__ends_of_arms, (fun_mk (st := s__ends_of_arms) l__ends_of_arms c__ends_of_arms k__ends_of_arms).binds (ps := P__ends_of_arms) fun _ _ _ _ _ _ us hl => match us, hl with | [_, _], _ => rfl⟩
  have d_rod : Dn K mg "rod" s_rod P_rod := ⟨f_rod, _, fun_mk (st := s_rod) l_rod c_rod k_rod, PySem.W.mg_of X G a_rod, (fun_mk (st := s_rod) l_rod c_rod k_rod).binds (ps := P_rod) fun _ _ _ _ _ _ us hl => match us, hl with | [_], _ => rfl⟩
  have d__law_random : Dn K mg "_law_random" s__law_random P__law_random := ⟨f__law_random, _, fun_mk (st := s__law_random) l__law_random c__law_random k__law_random, PySem.W.mg_of X G a__law_random, (fun_mk (st := s__law_random) l__law_random c__law_random k__law_random).binds (ps := P__law_random) fun _ _ _ _ _ _ us hl => match us, hl with | [_, _], _ => rfl⟩
  have d__law_below : Dn K mg "_law_below" s__law_below P__law_below := ⟨f__law_below, _, fun_mk (st := s__law_below) l__law_below c__law_below k__law_below, PySem.W.mg_of X G a__law_below, (fun_mk (st := s__law_below) l__law_below c__law_below k__law_below).binds (ps := P__law_below) fun _ _ _ _ _ _ us hl => match us, hl with | [_, _], _ => rfl⟩
  have d__law_row : Dn K mg "_law_row" s__law_row P__law_row := ⟨f__law_row, _, fun_mk (st := s__law_row) l__law_row c__law_row k__law_row, PySem.W.mg_of X G a__law_row, (fun_mk (st := s__law_row) l__law_row c__law_row k__law_row).binds (ps := P__law_row) fun _ _ _ _ _ _ us hl => match us, hl with | [_, _, _], _ => rfl⟩
  have ck_Memory : CK K C_Memory "_places" := ⟨⟨pg_Memory, hd_Memory, po_Memory, sa_Memory⟩, na_Memory, ha_Memory, hn_Memory, ht_Memory, hm_Memory, ne_Memory, ic_Memory, ty_Memory, st_Memory⟩
  have g_Memory : mg "Memory" = some (.ref C_Memory) := PySem.W.mg_of X G aC_Memory
  have d_Memory__init_ : Dm K "__init__" "Memory.__init__" s_Memory__init_ P_Memory__init_ f_Memory__init_ := ⟨_, fun_mk (st := s_Memory__init_) l_Memory__init_ c_Memory__init_ k_Memory__init_, (fun_mk (st := s_Memory__init_) l_Memory__init_ c_Memory__init_ k_Memory__init_).binds (ps := P_Memory__init_) fun _ _ _ _ _ _ us hl => match us, hl with | [_, _], _ => rfl⟩
  have mk_Memory_ : Mk K C_Memory f_Memory__init_ := ⟨mk_Memory, a_Memory__init_, i_Memory__init_, kc_Memory⟩
  have d_Memory__eq_ : Dm K "__eq__" "Memory.__eq__" s_Memory__eq_ P_Memory__eq_ f_Memory__eq_ := ⟨_, fun_mk (st := s_Memory__eq_) l_Memory__eq_ c_Memory__eq_ k_Memory__eq_, (fun_mk (st := s_Memory__eq_) l_Memory__eq_ c_Memory__eq_ k_Memory__eq_).binds (ps := P_Memory__eq_) fun _ _ _ _ _ _ us hl => match us, hl with | [_, _], _ => rfl⟩
  have mt_Memory__eq_ : Mt K C_Memory "__eq__" f_Memory__eq_ := ⟨a_Memory__eq_, i_Memory__eq_, fi_Memory__eq_⟩
  have po_Memory_places : PropOf K C_Memory "places" p_Memory_places f_Memory_places := ⟨a_Memory_places, g_Memory_places, t_Memory_places, ⟨_, r_Memory_places_⟩⟩
  have d_Memory_places : Dm K "places" "Memory.places" s_Memory_places P_Memory_places f_Memory_places := ⟨_, fun_mk (st := s_Memory_places) l_Memory_places c_Memory_places k_Memory_places, (fun_mk (st := s_Memory_places) l_Memory_places c_Memory_places k_Memory_places).binds (ps := P_Memory_places) fun _ _ _ _ _ _ us hl => match us, hl with | [_], _ => rfl⟩
  have po_Memory_place : PropOf K C_Memory "place" p_Memory_place f_Memory_place := ⟨a_Memory_place, g_Memory_place, t_Memory_place, ⟨_, r_Memory_place_⟩⟩
  have d_Memory_place : Dm K "place" "Memory.place" s_Memory_place P_Memory_place f_Memory_place := ⟨_, fun_mk (st := s_Memory_place) l_Memory_place c_Memory_place k_Memory_place, (fun_mk (st := s_Memory_place) l_Memory_place c_Memory_place k_Memory_place).binds (ps := P_Memory_place) fun _ _ _ _ _ _ us hl => match us, hl with | [_], _ => rfl⟩
  have po_Memory_row : PropOf K C_Memory "row" p_Memory_row f_Memory_row := ⟨a_Memory_row, g_Memory_row, t_Memory_row, ⟨_, r_Memory_row_⟩⟩
  have d_Memory_row : Dm K "row" "Memory.row" s_Memory_row P_Memory_row f_Memory_row := ⟨_, fun_mk (st := s_Memory_row) l_Memory_row c_Memory_row k_Memory_row, (fun_mk (st := s_Memory_row) l_Memory_row c_Memory_row k_Memory_row).binds (ps := P_Memory_row) fun _ _ _ _ _ _ us hl => match us, hl with | [_], _ => rfl⟩
  have ck_Rig : CK K C_Rig "_arms" := ⟨⟨pg_Rig, hd_Rig, po_Rig, sa_Rig⟩, na_Rig, ha_Rig, hn_Rig, ht_Rig, hm_Rig, ne_Rig, ic_Rig, ty_Rig, st_Rig⟩
  have g_Rig : mg "Rig" = some (.ref C_Rig) := PySem.W.mg_of X G aC_Rig
  have d_Rig__init_ : Dm K "__init__" "Rig.__init__" s_Rig__init_ P_Rig__init_ f_Rig__init_ := ⟨_, fun_mk (st := s_Rig__init_) l_Rig__init_ c_Rig__init_ k_Rig__init_, (fun_mk (st := s_Rig__init_) l_Rig__init_ c_Rig__init_ k_Rig__init_).binds (ps := P_Rig__init_) fun _ _ _ _ _ _ us hl => match us, hl with | [_, _], _ => rfl⟩
  have mk_Rig_ : Mk K C_Rig f_Rig__init_ := ⟨mk_Rig, a_Rig__init_, i_Rig__init_, kc_Rig⟩
  have d_Rig_at : Dm K "at" "Rig.at" s_Rig_at P_Rig_at f_Rig_at := ⟨_, fun_mk (st := s_Rig_at) l_Rig_at c_Rig_at k_Rig_at, (fun_mk (st := s_Rig_at) l_Rig_at c_Rig_at k_Rig_at).binds (ps := P_Rig_at) fun _ _ _ _ _ _ us hl => match us, hl with | [_, _], _ => rfl⟩
  have me_Rig_at : Meth K C_Rig "at" f_Rig_at := ⟨a_Rig_at, i_Rig_at, k_Rig_at⟩
  have mt_Rig_at : Mt K C_Rig "at" f_Rig_at := ⟨a_Rig_at, i_Rig_at, fi_Rig_at⟩
  have tx : Tx mg := ⟨PySem.W.mg_none_of X G z_len, PySem.W.mg_none_of X G z_isinstance, PySem.W.mg_none_of X G z_min, PySem.W.mg_none_of X G z_max, PySem.W.mg_none_of X G z_abs, PySem.W.mg_none_of X G z_int, PySem.W.mg_none_of X G z_bool, PySem.W.mg_none_of X G z_list, PySem.W.mg_none_of X G z_tuple, PySem.W.mg_none_of X G z_range, PySem.W.mg_none_of X G z_enumerate, PySem.W.mg_none_of X G z_zip, ⟨_, PySem.W.mg_of X G z_FARTHEST, v_FARTHEST⟩, ⟨_, PySem.W.mg_of X G z_LONGEST_ROW, v_LONGEST_ROW⟩, ⟨_, PySem.W.mg_of X G z_GREATEST_ROD, v_GREATEST_ROD⟩, ⟨_, PySem.W.mg_of X G z_GREATEST_SLACK, v_GREATEST_SLACK⟩, ⟨_, PySem.W.mg_of X G z_GREATEST_ARM, v_GREATEST_ARM⟩, ⟨_, PySem.W.mg_of X G z_MOST_ARMS, v_MOST_ARMS⟩⟩
  refine ⟨PySem.W.fnOf "law" "law" (defArgs s_law) (defBody s_law) (defScope s_law) .none kV_law dc_law pm_law an_law cd_law ct_law, fun s v => .of_eq rfl, fun base _ _ => ?_⟩
  have c_is_number := ok_is_number (P := l.prog) (w := w) (base := base) tx d_is_number
  have c_is_place := ok_is_place tx d_is_place c_is_number
  have c_btw := ok_is_between (P := l.prog) (w := w) (base := base) tx d__is_between
  have c_fits := ok_fits tx d__fits c_is_place c_btw
  have c_chk := ok_check_places tx d__check_places c_fits
  have c_aft := ok_after_move tx d__after_move c_btw
  have c_row := ok_check_row tx d_check_row c_is_place
  have m_Memory := ix_of (x := "Memory") mk_Memory_ g_Memory (ok_mem_init ck_Memory d_Memory__init_ c_chk)
  have c_mo := ok_memory_of tx d_memory_of c_row c_aft m_Memory
  have c_below := ok_law_below (P := l.prog) (w := w) (base := base) tx d__law_below
  have c_ca := ok_check_arms (P := l.prog) (w := w) (base := base) tx d__check_arms
  have m_Rig := ix_of (x := "Rig") mk_Rig_ g_Rig (ok_rig_init ck_Rig d_Rig__init_ c_ca)
  have c_eor := ok_ends_of_rod (P := l.prog) (w := w) (base := base) tx d__ends_of_rod
  have c_eoa := ok_ends_of_arms tx d__ends_of_arms c_eor
  have gx_pl := gx_of po_Memory_places (ok_mem_places (P := l.prog) (w := w) (mg := mg) (base := base) ck_Memory d_Memory_places)
  exact ok_law tx ck_Memory ck_Rig (fun_mk (st := s_law) l_law c_law k_law) (ok_law_random tx d__law_random) c_below (ok_law_row tx d__law_row c_below) c_mo (ok_rod tx d_rod c_is_number m_Rig) (hx_of me_Rig_at (ok_rig_at ck_Memory ck_Rig d_Rig_at c_eoa gx_pl))
    gx_pl (gx_of po_Memory_place (ok_mem_place ck_Memory d_Memory_place)) (gx_of po_Memory_row (ok_mem_row tx ck_Memory d_Memory_row)) (mt_Memory__eq_.mx (ok_mem_eq tx g_Memory ck_Memory d_Memory__eq_))
end Pf
open PySem PySem.W PyProof.Rows in
set_option maxRecDepth 100000 in
set_option maxHeartbeats 0 in
theorem PySem.Challenge.cw_slackrods_k17_whole_unlike_memories_are_holds : PySem.Challenge.rw_slackrods_k17_whole_unlike_memories_are.Holds := by
  w_on; o_law; k_head; (case hw => w_witness2)
  k_fill
  refine Z.walk_sv (k := 9) (l := PySem.Challenge.rw_slackrods_k17_whole_unlike_memories_are) rfl rfl ⟨rfl, by decide, by decide⟩ (fun w h Y => PySem.W.kIn_of Y) ?F
  case F =>
    intro w mg fa h KX G hmg
    refine' Pf.all_mk KX G hmg ?a_is_number ?l_is_number ?c_is_number ?k_is_number ?a_is_place ?l_is_place ?c_is_place ?k_is_place ?a_check_row ?l_check_row ?c_check_row ?k_check_row ?a__is_between ?l__is_between ?c__is_between ?k__is_between ?a__fits ?l__fits ?c__fits ?k__fits ?a__check_places ?l__check_places ?c__check_places ?k__check_places ?a__after_move ?l__after_move ?c__after_move ?k__after_move ?a_memory_of ?l_memory_of ?c_memory_of ?k_memory_of ?a__check_arms ?l__check_arms ?c__check_arms ?k__check_arms ?a__ends_of_rod ?l__ends_of_rod ?c__ends_of_rod ?k__ends_of_rod ?a__ends_of_arms ?l__ends_of_arms ?c__ends_of_arms ?k__ends_of_arms ?a_rod ?l_rod ?c_rod ?k_rod ?a__law_random ?l__law_random ?c__law_random ?k__law_random ?a__law_below ?l__law_below ?c__law_below ?k__law_below ?a__law_row ?l__law_row ?c__law_row ?k__law_row ?a_law ?l_law ?c_law ?k_law ?aC_Memory ?pg_Memory ?hd_Memory ?po_Memory ?sa_Memory ?na_Memory ?ha_Memory ?hn_Memory ?ht_Memory ?hm_Memory ?ne_Memory ?ic_Memory ?ty_Memory ?st_Memory ?mk_Memory ?kc_Memory ?a_Memory__init_ ?i_Memory__init_ ?fi_Memory__init_ ?l_Memory__init_ ?c_Memory__init_ ?k_Memory__init_ ?a_Memory__eq_ ?i_Memory__eq_ ?fi_Memory__eq_ ?l_Memory__eq_ ?c_Memory__eq_ ?k_Memory__eq_ ?a_Memory_places ?g_Memory_places ?t_Memory_places ?r_Memory_places_ ?l_Memory_places ?c_Memory_places ?k_Memory_places ?a_Memory_place ?g_Memory_place ?t_Memory_place ?r_Memory_place_ ?l_Memory_place ?c_Memory_place ?k_Memory_place ?a_Memory_row ?g_Memory_row ?t_Memory_row ?r_Memory_row_ ?l_Memory_row ?c_Memory_row ?k_Memory_row ?aC_Rig ?pg_Rig ?hd_Rig ?po_Rig ?sa_Rig ?na_Rig ?ha_Rig ?hn_Rig ?ht_Rig ?hm_Rig ?ne_Rig ?ic_Rig ?ty_Rig ?st_Rig ?mk_Rig ?kc_Rig ?a_Rig__init_ ?i_Rig__init_ ?fi_Rig__init_ ?l_Rig__init_ ?c_Rig__init_ ?k_Rig__init_ ?a_Rig_at ?i_Rig_at ?fi_Rig_at ?l_Rig_at ?c_Rig_at ?k_Rig_at ?z_len ?z_isinstance ?z_min ?z_max ?z_abs ?z_int ?z_bool ?z_list ?z_tuple ?z_range ?z_enumerate ?z_zip ?z_FARTHEST ?v_FARTHEST ?z_LONGEST_ROW ?v_LONGEST_ROW ?z_GREATEST_ROD ?v_GREATEST_ROD ?z_GREATEST_SLACK ?v_GREATEST_SLACK ?z_GREATEST_ARM ?v_GREATEST_ARM ?z_MOST_ARMS ?v_MOST_ARMS
    (case a_is_number => k_is)
    (case l_is_number => k_is)
    (case c_is_number => k_is)
    (case k_is_number => k_is)
    (case a_is_place => k_is)
    (case l_is_place => k_is)
    (case c_is_place => k_is)
    (case k_is_place => k_is)
    (case a_check_row => k_is)
    (case l_check_row => k_is)
    (case c_check_row => k_is)
    (case k_check_row => k_is)
    (case a__is_between => k_is)
    (case l__is_between => k_is)
    (case c__is_between => k_is)
    (case k__is_between => k_is)
    (case a__fits => k_is)
    (case l__fits => k_is)
    (case c__fits => k_is)
    (case k__fits => k_is)
    (case a__check_places => k_is)
    (case l__check_places => k_is)
    (case c__check_places => k_is)
    (case k__check_places => k_is)
    (case a__after_move => k_is)
    (case l__after_move => k_is)
    (case c__after_move => k_is)
    (case k__after_move => k_is)
    (case a_memory_of => k_is)
    (case l_memory_of => k_is)
    (case c_memory_of => k_is)
    (case k_memory_of => k_is)
    (case a__check_arms => k_is)
    (case l__check_arms => k_is)
    (case c__check_arms => k_is)
    (case k__check_arms => k_is)
    (case a__ends_of_rod => k_is)
    (case l__ends_of_rod => k_is)
    (case c__ends_of_rod => k_is)
    (case k__ends_of_rod => k_is)
    (case a__ends_of_arms => k_is)
    (case l__ends_of_arms => k_is)
    (case c__ends_of_arms => k_is)
    (case k__ends_of_arms => k_is)
    (case a_rod => k_is)
    (case l_rod => k_is)
    (case c_rod => k_is)
    (case k_rod => k_is)
    (case a__law_random => k_is)
    (case l__law_random => k_is)
    (case c__law_random => k_is)
    (case k__law_random => k_is)
    (case a__law_below => k_is)
    (case l__law_below => k_is)
    (case c__law_below => k_is)
    (case k__law_below => k_is)
    (case a__law_row => k_is)
    (case l__law_row => k_is)
    (case c__law_row => k_is)
    (case k__law_row => k_is)
    (case a_law => k_is)
    (case l_law => k_is)
    (case c_law => k_is)
    (case k_law => k_is)
    (case aC_Memory => k_is)
    (case pg_Memory => k_is)
    (case hd_Memory => k_is)
    (case po_Memory => k_is)
    (case sa_Memory => k_is)
    (case na_Memory => k_is)
    (case ha_Memory => k_is)
    (case hn_Memory => k_is)
    (case ht_Memory => k_is)
    (case hm_Memory => k_is)
    (case ne_Memory => k_is)
    (case ic_Memory => k_is)
    (case ty_Memory => k_is)
    (case st_Memory => k_is)
    (case mk_Memory => k_is)
    (case kc_Memory => k_is)
    (case a_Memory__init_ => k_is)
    (case i_Memory__init_ => k_is)
    (case fi_Memory__init_ => k_is)
    (case l_Memory__init_ => k_is)
    (case c_Memory__init_ => k_is)
    (case k_Memory__init_ => k_is)
    (case a_Memory__eq_ => k_is)
    (case i_Memory__eq_ => k_is)
    (case fi_Memory__eq_ => k_is)
    (case l_Memory__eq_ => k_is)
    (case c_Memory__eq_ => k_is)
    (case k_Memory__eq_ => k_is)
    (case a_Memory_places => k_is)
    (case g_Memory_places => k_is)
    (case t_Memory_places => k_is)
    (case r_Memory_places_ => k_is)
    (case l_Memory_places => k_is)
    (case c_Memory_places => k_is)
    (case k_Memory_places => k_is)
    (case a_Memory_place => k_is)
    (case g_Memory_place => k_is)
    (case t_Memory_place => k_is)
    (case r_Memory_place_ => k_is)
    (case l_Memory_place => k_is)
    (case c_Memory_place => k_is)
    (case k_Memory_place => k_is)
    (case a_Memory_row => k_is)
    (case g_Memory_row => k_is)
    (case t_Memory_row => k_is)
    (case r_Memory_row_ => k_is)
    (case l_Memory_row => k_is)
    (case c_Memory_row => k_is)
    (case k_Memory_row => k_is)
    (case aC_Rig => k_is)
    (case pg_Rig => k_is)
    (case hd_Rig => k_is)
    (case po_Rig => k_is)
    (case sa_Rig => k_is)
    (case na_Rig => k_is)
    (case ha_Rig => k_is)
    (case hn_Rig => k_is)
    (case ht_Rig => k_is)
    (case hm_Rig => k_is)
    (case ne_Rig => k_is)
    (case ic_Rig => k_is)
    (case ty_Rig => k_is)
    (case st_Rig => k_is)
    (case mk_Rig => k_is)
    (case kc_Rig => k_is)
    (case a_Rig__init_ => k_is)
    (case i_Rig__init_ => k_is)
    (case fi_Rig__init_ => k_is)
    (case l_Rig__init_ => k_is)
    (case c_Rig__init_ => k_is)
    (case k_Rig__init_ => k_is)
    (case a_Rig_at => k_is)
    (case i_Rig_at => k_is)
    (case fi_Rig_at => k_is)
    (case l_Rig_at => k_is)
    (case c_Rig_at => k_is)
    (case k_Rig_at => k_is)
    (case z_len => k_is)
    (case z_isinstance => k_is)
    (case z_min => k_is)
    (case z_max => k_is)
    (case z_abs => k_is)
    (case z_int => k_is)
    (case z_bool => k_is)
    (case z_list => k_is)
    (case z_tuple => k_is)
    (case z_range => k_is)
    (case z_enumerate => k_is)
    (case z_zip => k_is)
    (case z_FARTHEST => k_is)
    (case v_FARTHEST => exact ⟨_, rfl⟩)
    (case z_LONGEST_ROW => k_is)
    (case v_LONGEST_ROW => exact ⟨_, rfl⟩)
    (case z_GREATEST_ROD => k_is)
    (case v_GREATEST_ROD => exact ⟨_, rfl⟩)
    (case z_GREATEST_SLACK => k_is)
    (case v_GREATEST_SLACK => exact ⟨_, rfl⟩)
    (case z_GREATEST_ARM => k_is)
    (case v_GREATEST_ARM => exact ⟨_, rfl⟩)
    (case z_MOST_ARMS => k_is)
    (case v_MOST_ARMS => exact ⟨_, rfl⟩)
#print axioms PySem.Challenge.cw_slackrods_k17_whole_unlike_memories_are_holds

