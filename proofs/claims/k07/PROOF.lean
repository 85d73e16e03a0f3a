import PyProof.Rows.All
import Wide.All
import OpenK.AllK
import Wide.FinOn
import HandS.ForMost
import HandS.IsInst
import HandS.Star
import HandS.SortRule
import HandS.Wide
import HandS.SortInts
import HandS.Conv
import PySem.Challenge.RW_firstway_k07_measures_of_trees
set_option Elab.async false
set_option linter.all false
set_option maxRecDepth 100000
set_option maxHeartbeats 4000000
namespace DL
open PySem PySem.Spec PyProof.Rows L2

abbrev D := PyData
abbrev Sto := List (List D)

/-! ### data stays when the heap grows -/
mutual
theorem dp_mono {K : PySem.W.Frag} {H H' : Hp} (e : Same H H') : ∀ (d : D) (v : V), Dp K H v d → Dp K H' v d
  | .none, _, h => by cases h; exact .non
  | .bool b, _, h => by cases h; exact .bl b
  | .int i, _, h => by cases h; exact .int i
  | .str x, _, h => by cases h; exact .str x
  | .list ds, _, h => by
    cases h with
    | lst h1 h2 => exact .lst (e.seq h1) (dpa_mono e ds _ h2)
  | .tuple ds, _, h => by
    cases h with
    | tup h1 h2 =>
      refine .tup ?_ (dpa_mono e ds _ h2)
      rcases h1 with (h1 | ⟨o, h1⟩) | h1
      · exact .inl (.inl (e _ _ h1))
      · exact .inl (.inr ⟨o, e _ _ h1⟩)
      · exact .inr h1
  | .dict kvs, _, h => by cases h
theorem dpa_mono {K : PySem.W.Frag} {H H' : Hp} (e : Same H H') : ∀ (ds : List D) (vs : List V), DpAll K H vs ds → DpAll K H' vs ds
  | [], _, h => by cases h; exact .nil
  | d :: ds, _, h => by
    cases h with
    | cons h1 h2 => exact .cons (dp_mono e d _ h1) (dpa_mono e ds _ h2)
end
theorem sqt_mono {K : PySem.W.Frag} {H H' : Hp} (e : Same H H') {a : Addr} {xs : List V} (h1 : SqT K H a xs) : SqT K H' a xs := by
  rcases h1 with (h1 | ⟨o, h1⟩) | h1
  · exact .inl (.inl (e _ _ h1))
  · exact .inl (.inr ⟨o, e _ _ h1⟩)
  · exact .inr h1
theorem dpa_len {K : PySem.W.Frag} {H : Hp} : ∀ {vs : List V} {ds : List D}, DpAll K H vs ds → vs.length = ds.length
  | _, _, .nil => rfl
  | _, _, .cons _ h => by simp [dpa_len h]
theorem dpa_get {K : PySem.W.Frag} {H : Hp} : ∀ {vs : List V} {ds : List D} {i : Nat} {d : D}, DpAll K H vs ds → ds[i]? = some d → ∃ v, vs[i]? = some v ∧ Dp K H v d
  | _, _, 0, d, .cons h _, e => ⟨_, rfl, by
      have := Option.some.inj e
      rw [← this]
      exact h⟩
  | _, _, i + 1, d, .cons _ h, e => dpa_get (i := i) h e
theorem dpa_get' {K : PySem.W.Frag} {H : Hp} : ∀ {vs : List V} {ds : List D} {i : Nat} {v : V}, DpAll K H vs ds → vs[i]? = some v → ∃ d, ds[i]? = some d ∧ Dp K H v d
  | _, _, 0, d, .cons h _, e => ⟨_, rfl, by
      have := Option.some.inj e
      rw [← this]
      exact h⟩
  | _, _, i + 1, d, .cons _ h, e => dpa_get' (i := i) h e
theorem dpa_app {K : PySem.W.Frag} {H : Hp} : ∀ {vs ws : List V} {ds es : List D}, DpAll K H vs ds → DpAll K H ws es → DpAll K H (vs ++ ws) (ds ++ es)
  | _, _, _, _, .nil, h => h
  | _, _, _, _, .cons h1 h2, h => .cons h1 (dpa_app h2 h)
theorem dpa_set {K : PySem.W.Frag} {H : Hp} : ∀ {vs : List V} {ds : List D} (i : Nat) {v : V} {d : D}, DpAll K H vs ds → Dp K H v d → DpAll K H (vs.set i v) (ds.set i d)
  | _, _, _, _, _, .nil, _ => .nil
  | _, _, 0, _, _, .cons _ h2, h => .cons h h2
  | _, _, i + 1, _, _, .cons h1 h2, h => .cons h1 (dpa_set i h2 h)
theorem dpa_take {K : PySem.W.Frag} {H : Hp} : ∀ {vs : List V} {ds : List D} (n : Nat), DpAll K H vs ds → DpAll K H (vs.take n) (ds.take n)
  | _, _, 0, _ => by simp only [List.take_zero]; exact .nil
  | _, _, _ + 1, .nil => .nil
  | _, _, n + 1, .cons h1 h2 => .cons h1 (dpa_take n h2)
theorem dpa_drop {K : PySem.W.Frag} {H : Hp} : ∀ {vs : List V} {ds : List D} (n : Nat), DpAll K H vs ds → DpAll K H (vs.drop n) (ds.drop n)
  | _, _, 0, h => h
  | _, _, _ + 1, .nil => .nil
  | _, _, n + 1, .cons h1 h2 => dpa_drop n h2

/-! ### one step: F what is known for ever, H what stands; L what may be written -/
structure Stp (L : List Addr) (F H F' H' : Hp) : Prop where
  fx : Same F F'
  keep : ∀ a o, H a = some o → a ∉ L → H' a = some o
  live : ∀ a, H a ≠ none → H' a ≠ none
  nof : ∀ a, H a ≠ none → F a = none → F' a = none
theorem Stp.refl (L : List Addr) (F H : Hp) : Stp L F H F H := ⟨Same.refl _, fun _ _ h _ => h, fun _ h => h, fun _ _ h => h⟩
theorem Stp.trans {L : List Addr} {F H F1 H1 F2 H2 : Hp} (a : Stp L F H F1 H1) (b : Stp L F1 H1 F2 H2) : Stp L F H F2 H2 :=
  ⟨a.fx.trans b.fx, fun x o h n => b.keep x o (a.keep x o h n) n, fun x h => b.live x (a.live x h), fun x h n => b.nof x (a.live x h) (a.nof x h n)⟩
/-- the written addresses: those of L1, or new ones -/
theorem Stp.trans' {L L1 : List Addr} {F H F1 H1 F2 H2 : Hp} (a : Stp L F H F1 H1) (b : Stp L1 F1 H1 F2 H2) (hl : ∀ x ∈ L1, x ∈ L ∨ H x = none) : Stp L F H F2 H2 :=
  ⟨a.fx.trans b.fx, fun x o h n => b.keep x o (a.keep x o h n) (fun m => by
    rcases hl x m with q | q
    · exact n q
    · rw [q] at h; cases h), fun x h => b.live x (a.live x h), fun x h n => b.nof x (a.live x h) (a.nof x h n)⟩
theorem Stp.fresh {L : List Addr} {F H F' H' : Hp} (a : Stp L F H F' H') {x : Addr} (h : H' x = none) : H x = none := by
  cases q : H x with
  | none => rfl
  | some o => exact absurd h (a.live x (by rw [q]; exact nofun))

structure SOk (K : PySem.W.Frag) (F H : Hp) (L : List Addr) (S : Sto) : Prop where
  sub : Same F H
  len : L.length = S.length
  nd : L.Nodup
  st : ∀ (n : Nat) (a : Addr), L[n]? = some a → F a = none ∧ ∃ vs ds, S[n]? = some ds ∧ H a = some (.lst vs) ∧ DpAll K F vs ds

inductive En where
  | un
  | dt (d : D)
  | mu (n : Nat)
abbrev Rho := List En
def EnOk (K : PySem.W.Frag) (F : Hp) (L : List Addr) : En → Option V → Prop
  | .un, _ => True
  | .dt d, o => ∃ v, o = some v ∧ Dp K F v d
  | .mu n, o => ∃ a, o = some (.ref a) ∧ L[n]? = some a
def EOk (K : PySem.W.Frag) (F : Hp) (L : List Addr) (σ : L2.St) (ρ : Rho) : Prop := ∀ (i : Nat) (e : En), ρ[i]? = some e → ∃ o, σ[i]? = some o ∧ EnOk K F L e o
theorem EnOk.mono {K : PySem.W.Frag} {F F' : Hp} {L : List Addr} (h : Same F F') {R : List Addr} : ∀ {e : En} {o : Option V}, EnOk K F L e o → EnOk K F' (L ++ R) e o
  | .un, _, _ => trivial
  | .dt d, _, ⟨v, e, q⟩ => ⟨v, e, dp_mono h d v q⟩
  | .mu n, _, ⟨a, e, q⟩ => ⟨a, e, by
      rw [List.getElem?_append_left (List.getElem?_eq_some_iff.mp q).1]
      exact q⟩
theorem EOk.mono {K : PySem.W.Frag} {F F' : Hp} {L R : List Addr} (h : Same F F') {σ : L2.St} {ρ : Rho} (E : EOk K F L σ ρ) : EOk K F' (L ++ R) σ ρ := fun i e q =>
  let ⟨o, a, b⟩ := E i e q
  ⟨o, a, b.mono h⟩
theorem EOk.mono0 {K : PySem.W.Frag} {F F' : Hp} {L : List Addr} (h : Same F F') {σ : L2.St} {ρ : Rho} (E : EOk K F L σ ρ) : EOk K F' L σ ρ := by
  have := EOk.mono (R := []) h E
  rw [List.append_nil] at this
  exact this
theorem EOk.set {K : PySem.W.Frag} {F : Hp} {L : List Addr} {σ : L2.St} {ρ : Rho} (E : EOk K F L σ ρ) (i : Nat) {e : En} {o : Option V} (h : EnOk K F L e o) : EOk K F L (σ.set i o) (ρ.set i e) := fun j u q => by
  by_cases hij : i = j
  · subst hij
    have hl : i < ρ.length := by
      have := (List.getElem?_eq_some_iff.mp q).1
      rw [List.length_set] at this
      exact this
    obtain ⟨o', a, _⟩ := E i _ (List.getElem?_eq_getElem hl)
    have hs : i < σ.length := (List.getElem?_eq_some_iff.mp a).1
    rw [List.getElem?_set_self hl] at q
    have := Option.some.inj q
    subst this
    exact ⟨o, List.getElem?_set_self hs, h⟩
  · rw [List.getElem?_set_ne hij] at q
    rw [List.getElem?_set_ne hij]
    exact E j u q

/-! ### results -/
inductive Rs where
  | v (d : D)
  | nl (ds : List D)
  | mu (n : Nat)
def RsOk (K : PySem.W.Frag) (L : List Addr) (F' H H' : Hp) (v : V) : Rs → Prop
  | .v d => Dp K F' v d
  | .nl ds => ∃ a vs, v = .ref a ∧ H a = none ∧ F' a = none ∧ H' a = some (.lst vs) ∧ DpAll K F' vs ds
  | .mu n => ∃ a, v = .ref a ∧ L[n]? = some a
/-- r as it is, or a new list taken as data -/
def RsLe (r2 r : Rs) : Prop := r2 = r ∨ ∃ ds, r2 = .nl ds ∧ r = .v (.list ds)

/-- a new list becomes data -/
theorem freeze {K : PySem.W.Frag} {L : List Addr} {S0 S : Sto} {F0 H0 F H : Hp} {a : Addr} {vs : List V} {ds : List D} (st : Stp L F0 H0 F H) (s0 : SOk K F0 H0 L S0) (so : SOk K F H L S) (h0 : H0 a = none) (hf : F a = none) (hh : H a = some (.lst vs)) (hd : DpAll K F vs ds) :
    Stp L F0 H0 (upd F a (.lst vs)) H ∧ SOk K (upd F a (.lst vs)) H L S ∧ Dp K (upd F a (.lst vs)) (.ref a) (.list ds) := by
  have sm : Same F (upd F a (.lst vs)) := fun b o e => by
    rw [upd_ne (ne_of_none e hf)]
    exact e
  refine ⟨⟨st.fx.trans sm, st.keep, st.live, fun b hb n => ?_⟩, ⟨fun b o e => ?_, so.len, so.nd, fun n b e => ?_⟩, .lst (.inl (.inl upd_same)) (dpa_mono sm _ _ hd)⟩
  · have : b ≠ a := fun q => hb (by rw [q]; exact h0)
    rw [upd_ne this]
    exact st.nof b hb n
  · by_cases q : b = a
    · subst q
      rw [upd_same] at e
      cases e
      exact hh
    · rw [upd_ne q] at e
      exact so.sub _ _ e
  · obtain ⟨f0, vs', ds', e1, e2, e3⟩ := so.st n b e
    obtain ⟨_, vs0, _, _, e0, _⟩ := s0.st n b e
    have : b ≠ a := fun q => by
      rw [q, h0] at e0
      cases e0
    rw [upd_ne this]
    exact ⟨f0, vs', ds', e1, e2, dpa_mono sm _ _ e3⟩

/-! ### what evaluates to what -/
def Ev (K : PySem.W.Frag) (ρ : Rho) (S : Sto) (te : TE) (r : Rs) (S' : Sto) : Prop := ∀ σ F H L, EOk K F L σ ρ → SOk K F H L S → ∀ Q : VK, (∀ v F' H', Stp L F H F' H' → SOk K F' H' L S' → RsOk K L F' H H' v r → Q v H') → te σ H Q
def EvT (K : PySem.W.Frag) (ρ : Rho) (S : Sto) (tt : TT) (b : Bool) (S' : Sto) : Prop := ∀ σ F H L, EOk K F L σ ρ → SOk K F H L S → ∀ Q : Bool → Hp → Prop, (∀ F' H', Stp L F H F' H' → SOk K F' H' L S' → Q b H') → tt σ H Q
def EvA (K : PySem.W.Frag) (ρ : Rho) (S : Sto) (ta : TA) (es : Rho) (S' : Sto) : Prop := ∀ σ F H L, EOk K F L σ ρ → SOk K F H L S → ∀ Q : List V → Hp → Prop, (∀ vs F' H', Stp L F H F' H' → SOk K F' H' L S' → vs.length = es.length → EOk K F' L (vs.map some) es → Q vs H') → ta σ H Q
section
variable {K : PySem.W.Frag} {ρ : Rho} {S S1 S2 S3 : Sto} {ta tb tc te : TE} {t u : TT} {d e f : D} {r : Rs}
theorem ev_dt (h : Ev K ρ S te r S1) (hr : RsLe r (.v d)) : Ev K ρ S te (.v d) S1 := by
  rcases hr with rfl | ⟨ds, rfl, e⟩
  · exact h
  · cases e
    intro σ F H L e s Q q
    refine h σ F H L e s Q fun v F' H' st s' rr => ?_
    obtain ⟨a, vs, rfl, h0, hf, hh, hd⟩ := rr
    obtain ⟨x, y, z⟩ := freeze st s s' h0 hf hh hd
    exact q _ _ _ x y z
theorem ev_fr {ds : List D} (h : Ev K ρ S te (.nl ds) S1) : Ev K ρ S te (.v (.list ds)) S1 := ev_dt h (.inr ⟨ds, rfl, rfl⟩)
theorem ev_is {r' : Rs} (h : Ev K ρ S te r S1) (e : r = r') : Ev K ρ S te r' S1 := e ▸ h
theorem ev_var {i : Nat} (h : ρ[i]? = some (.dt d)) : Ev K ρ S (tVar i) (.v d) S := fun σ F H L e s Q q => by
  obtain ⟨o, h1, v, h2, h3⟩ := e i _ h
  subst h2
  exact ⟨v, h1, q v F H (.refl _ _ _) s h3⟩
theorem ev_mu {i n : Nat} (h : ρ[i]? = some (.mu n)) : Ev K ρ S (tVar i) (.mu n) S := fun σ F H L e s Q q => by
  obtain ⟨o, h1, a, h2, h3⟩ := e i _ h
  subst h2
  exact ⟨_, h1, q _ F H (.refl _ _ _) s ⟨a, rfl, h3⟩⟩
theorem ev_int {i : Int} : Ev K ρ S (tC (.int i)) (.v (.int i)) S := fun σ F H L e s Q q => q _ F H (.refl _ _ _) s (.int i)
theorem ev_bl {b : Bool} : Ev K ρ S (tC (.bl b)) (.v (.bool b)) S := fun σ F H L e s Q q => q _ F H (.refl _ _ _) s (.bl b)
theorem ev_non : Ev K ρ S (tC .non) (.v .none) S := fun σ F H L e s Q q => q _ F H (.refl _ _ _) s .non
theorem ev_str {x : Str} : Ev K ρ S (tC (.str x)) (.v (.str x)) S := fun σ F H L e s Q q => q _ F H (.refl _ _ _) s (.str x)
/-- a constant of the module that is data of the written part -/
def KDat (K : PySem.W.Frag) (v : V) (d : D) : Prop := Dp K (fun _ => none) v d
theorem KDat.dp {v : V} (h : KDat K v d) (F : Hp) : Dp K F v d := dp_mono (fun _ _ e => by cases e) _ _ h
theorem ev_k {v : V} (h : KDat K v d) : Ev K ρ S (tC v) (.v d) S := fun σ F H L e s Q q => q _ F H (.refl _ _ _) s (h.dp F)

/-! operators by values -/
def Op1 (K : PySem.W.Frag) (r : V → Hp → VK → Prop) (d : D) (e : D) : Prop := ∀ F H x, Same F H → Dp K F x d → ∀ Q : VK, (∀ v, Dp K F v e → Q v H) → r x H Q
def Op2 (K : PySem.W.Frag) (r : R2) (d1 d2 : D) (e : D) : Prop := ∀ F H x y, Same F H → Dp K F x d1 → Dp K F y d2 → ∀ Q : VK, (∀ v, Dp K F v e → Q v H) → r x y H Q
theorem ev_op {rr : R2} (ha : Ev K ρ S ta (.v d) S1) (hb : Ev K ρ S1 tb (.v e) S2) (hr : Op2 K rr d e f) : Ev K ρ S (tOp rr ta tb) (.v f) S2 := fun σ F H L E s Q q =>
  ha σ F H L E s _ fun x F1 H1 st1 s1 r1 => hb σ F1 H1 L (E.mono0 st1.fx) s1 _ fun y F2 H2 st2 s2 r2 =>
    hr F2 H2 x y s2.sub (dp_mono st2.fx _ _ r1) r2 Q fun v hv => q v F2 H2 (st1.trans st2) s2 hv
theorem ev_un {rr : V → Hp → VK → Prop} (ha : Ev K ρ S ta (.v d) S1) (hr : Op1 K rr d e) : Ev K ρ S (tUn rr ta) (.v e) S1 := fun σ F H L E s Q q =>
  ha σ F H L E s _ fun x F1 H1 st1 s1 r1 => hr F1 H1 x s1.sub r1 Q fun v hv => q v F1 H1 st1 s1 hv
theorem op2_I0 {g : Int → Int → V} {i j : Int} (h : ∀ F, Dp K F (g i j) e) : Op2 K (rI0 g) (.int i) (.int j) e := fun F H x y _ hx hy Q q => by
  cases hx; cases hy
  exact ⟨i, j, rfl, rfl, q _ (h F)⟩
theorem op2_I {C : Int → Int → Prop} {g : Int → Int → V} {i j : Int} (hc : C i j) (h : ∀ F, Dp K F (g i j) e) : Op2 K (rI C g) (.int i) (.int j) e := fun F H x y _ hx hy Q q => by
  cases hx; cases hy
  exact ⟨i, j, rfl, rfl, hc, q _ (h F)⟩
theorem o_add {i j : Int} : Op2 K (rI0 fun i j => .int (i + j)) (.int i) (.int j) (.int (i + j)) := op2_I0 fun _ => .int _
theorem o_sub {i j : Int} : Op2 K (rI0 fun i j => .int (i - j)) (.int i) (.int j) (.int (i - j)) := op2_I0 fun _ => .int _
theorem o_lt {i j : Int} : Op2 K (rI0 fun i j => .bl (decide (i < j))) (.int i) (.int j) (.bool (decide (i < j))) := op2_I0 fun _ => .bl _
theorem o_le {i j : Int} : Op2 K (rI0 fun i j => .bl (decide (i ≤ j))) (.int i) (.int j) (.bool (decide (i ≤ j))) := op2_I0 fun _ => .bl _
theorem o_gt {i j : Int} : Op2 K (rI0 fun i j => .bl (decide (j < i))) (.int i) (.int j) (.bool (decide (j < i))) := op2_I0 fun _ => .bl _
theorem o_ge {i j : Int} : Op2 K (rI0 fun i j => .bl (decide (j ≤ i))) (.int i) (.int j) (.bool (decide (j ≤ i))) := op2_I0 fun _ => .bl _
theorem o_mul {i j : Int} (h : (-(2 ^ 64) < i ∧ i < 2 ^ 64) ∨ (-(2 ^ 64) < j ∧ j < 2 ^ 64)) : Op2 K (rI CMul fun i j => .int (i * j)) (.int i) (.int j) (.int (i * j)) := op2_I h fun _ => .int _
theorem o_mod {i j : Int} (h : 0 < j) : Op2 K (rI (fun _ j => 0 < j) fun i j => .int (i % j)) (.int i) (.int j) (.int (i % j)) := op2_I h fun _ => .int _
theorem o_div {i j : Int} (h : 0 < j ∧ j < 1073741824) : Op2 K (rI CDiv fun i j => .int (i / j)) (.int i) (.int j) (.int (i / j)) := op2_I h fun _ => .int _
theorem o_pow {i j : Int} (h : 0 ≤ j ∧ j ≤ 1000000 ∧ i.natAbs < 2 ^ 64) : Op2 K (rI CPow fun i j => .int (i ^ j.toNat)) (.int i) (.int j) (.int (i ^ j.toNat)) := op2_I h fun _ => .int _
theorem u_neg {i : Int} : Op1 K (rU fun i => .int (-i)) (.int i) (.int (-i)) := fun F H x _ hx Q q => by
  cases hx
  exact ⟨i, rfl, q _ (.int _)⟩
/-- == of any data -/
theorem o_eqD (h1 : SeqAt.shaped d = true) (h2 : SeqAt.shaped e = true) : Op2 K (rEqD K) d e (.bool (PyData.eqv d e)) := fun F H x y sm hx hy Q q =>
  ⟨d, e, dp_mono sm _ _ hx, dp_mono sm _ _ hy, h1, h2, q _ (.bl _)⟩
theorem o_neD (h1 : SeqAt.shaped d = true) (h2 : SeqAt.shaped e = true) : Op2 K (rNeD K) d e (.bool (!PyData.eqv d e)) := fun F H x y sm hx hy Q q =>
  ⟨d, e, dp_mono sm _ _ hx, dp_mono sm _ _ hy, h1, h2, q _ (.bl _)⟩
theorem o_isN : Op2 K (fun x y H Q => y = .non ∧ Q (.bl (decide (x = .non))) H) d .none (.bool (match d with | .none => true | _ => false)) := fun F H x y _ hx hy Q q => by
  cases hy
  refine ⟨rfl, q _ ?_⟩
  cases hx <;> exact .bl _
theorem o_notN : Op2 K (fun x y H Q => y = .non ∧ Q (.bl (!decide (x = .non))) H) d .none (.bool (match d with | .none => false | _ => true)) := fun F H x y _ hx hy Q q => by
  cases hy
  refine ⟨rfl, q _ ?_⟩
  cases hx <;> exact .bl _
theorem o_addS {a b : Str} (h : a.length + b.length ≤ sizeLine) : Op2 K (fun x y H Q => ∃ i j, x = .str i ∧ y = .str j ∧ i.length + j.length ≤ sizeLine ∧ Q (.str (i ++ j)) H) (.str a) (.str b) (.str (a ++ b)) := fun F H x y _ hx hy Q q => by
  cases hx; cases hy
  exact ⟨a, b, rfl, rfl, h, q _ (.str _)⟩
/-- a chain of two comparisons -/
theorem ev_chain {r1 r2 : R2} {b1 b2 : Bool} (ha : Ev K ρ S ta (.v d) S1) (hb : Ev K ρ S1 tb (.v e) S2) (h1 : Op2 K r1 d e (.bool b1)) (hc : b1 = true → Ev K ρ S2 tc (.v f) S2) (h2 : b1 = true → Op2 K r2 e f (.bool b2)) :
    Ev K ρ S (tChain r1 r2 ta tb tc) (.v (.bool (b1 && b2))) S2 := fun σ F H L E s Q q =>
  ha σ F H L E s _ fun x F1 H1 st1 s1 q1 => hb σ F1 H1 L (E.mono0 st1.fx) s1 _ fun y F2 H2 st2 s2 q2 =>
    h1 F2 H2 x y s2.sub (dp_mono st2.fx _ _ q1) q2 _ fun z hz => by
      cases hz
      refine ⟨b1, rfl, ?_⟩
      cases b1 with
      | true =>
        rw [if_pos rfl]
        refine hc rfl σ F2 H2 L (E.mono0 (st1.trans st2).fx) s2 _ fun w F3 H3 st3 s3 q3 => ?_
        exact h2 rfl F3 H3 y w s3.sub (dp_mono st3.fx _ _ q2) q3 Q fun v hv => q v F3 H3 ((st1.trans st2).trans st3) s3 hv
      | false =>
        rw [if_neg Bool.false_ne_true]
        exact q _ F2 H2 (st1.trans st2) s2 (.bl _)

/-! tests -/
theorem et_test {b : Bool} (h : Ev K ρ S te (.v (.bool b)) S1) : EvT K ρ S (tTest te) b S1 := fun σ F H L E s Q q => h σ F H L E s _ fun v F1 H1 st s1 hv => by
  cases hv
  exact ⟨b, rfl, q F1 H1 st s1⟩
theorem et_B {b : Bool} (h : Ev K ρ S te (.v (.bool b)) S1) : EvT K ρ S (tB te) b S1 := fun σ F H L E s Q q => h σ F H L E s _ fun v F1 H1 st s1 hv => by
  cases hv
  exact ⟨b, rfl, q F1 H1 st s1⟩
theorem et_and {a b : Bool} (h1 : EvT K ρ S t a S1) (h2 : a = true → EvT K ρ S1 u b S1) : EvT K ρ S (tAnd t u) (a && b) S1 := fun σ F H L E s Q q => h1 σ F H L E s _ fun F1 H1 st s1 => by
  cases a with
  | true =>
    show u σ H1 Q
    exact h2 rfl σ F1 H1 L (E.mono0 st.fx) s1 Q fun F2 H2 st2 s2 => q F2 H2 (st.trans st2) s2
  | false =>
    show Q false H1
    exact q F1 H1 st s1
theorem et_or {a b : Bool} (h1 : EvT K ρ S t a S1) (h2 : a = false → EvT K ρ S1 u b S1) : EvT K ρ S (tOr t u) (a || b) S1 := fun σ F H L E s Q q => h1 σ F H L E s _ fun F1 H1 st s1 => by
  cases a with
  | true =>
    show Q true H1
    exact q F1 H1 st s1
  | false =>
    show u σ H1 Q
    exact h2 rfl σ F1 H1 L (E.mono0 st.fx) s1 Q fun F2 H2 st2 s2 => q F2 H2 (st.trans st2) s2
theorem et_not {a : Bool} (h1 : EvT K ρ S t a S1) : EvT K ρ S (tNot t) (!a) S1 := fun σ F H L E s Q q => h1 σ F H L E s _ fun F1 H1 st s1 => q F1 H1 st s1
theorem et_is {a b : Bool} (h : EvT K ρ S t a S1) (e : a = b) : EvT K ρ S t b S1 := e ▸ h
theorem ev_andV {a : Bool} (h1 : Ev K ρ S ta (.v (.bool a)) S1) (h2 : a = true → Ev K ρ S1 tb (.v d) S1) (h3 : a = false → d = .bool false) : Ev K ρ S (tAndV ta tb) (.v d) S1 := fun σ F H L E s Q q => h1 σ F H L E s _ fun v F1 H1 st s1 hv => by
  cases hv
  refine ⟨a, rfl, ?_⟩
  cases a with
  | true =>
    show tb σ H1 Q
    exact h2 rfl σ F1 H1 L (E.mono0 st.fx) s1 Q fun v F2 H2 st2 s2 hv => q v F2 H2 (st.trans st2) s2 hv
  | false =>
    show Q (.bl false) H1
    refine q _ F1 H1 st s1 ?_
    rw [h3 rfl]
    exact Dp.bl _
theorem ev_orV {a : Bool} (h1 : Ev K ρ S ta (.v (.bool a)) S1) (h2 : a = false → Ev K ρ S1 tb (.v d) S1) (h3 : a = true → d = .bool true) : Ev K ρ S (tOrV ta tb) (.v d) S1 := fun σ F H L E s Q q => h1 σ F H L E s _ fun v F1 H1 st s1 hv => by
  cases hv
  refine ⟨a, rfl, ?_⟩
  cases a with
  | true =>
    show Q (.bl true) H1
    refine q _ F1 H1 st s1 ?_
    rw [h3 rfl]
    exact Dp.bl _
  | false =>
    show tb σ H1 Q
    exact h2 rfl σ F1 H1 L (E.mono0 st.fx) s1 Q fun v F2 H2 st2 s2 hv => q v F2 H2 (st.trans st2) s2 hv
theorem ev_andB {a b : Bool} (h1 : Ev K ρ S ta (.v (.bool a)) S1) (h2 : a = true → Ev K ρ S1 tb (.v (.bool b)) S1) : Ev K ρ S (tAndV ta tb) (.v (.bool (a && b))) S1 :=
  ev_andV h1 (fun e => by subst e; exact h2 rfl) (fun e => by subst e; rfl)
theorem ev_orB {a b : Bool} (h1 : Ev K ρ S ta (.v (.bool a)) S1) (h2 : a = false → Ev K ρ S1 tb (.v (.bool b)) S1) : Ev K ρ S (tOrV ta tb) (.v (.bool (a || b))) S1 :=
  ev_orV h1 (fun e => by subst e; exact h2 rfl) (fun e => by subst e; rfl)
theorem ev_notV {a : Bool} (h1 : Ev K ρ S ta (.v (.bool a)) S1) : Ev K ρ S (tNotV ta) (.v (.bool (!a))) S1 := fun σ F H L E s Q q => h1 σ F H L E s _ fun v F1 H1 st s1 hv => by
  cases hv
  exact ⟨a, rfl, q _ F1 H1 st s1 (.bl _)⟩
theorem ev_if {b : Bool} (h : EvT K ρ S t b S1) (h1 : b = true → Ev K ρ S1 ta (.v d) S2) (h2 : b = false → Ev K ρ S1 tb (.v d) S2) : Ev K ρ S (tIf t ta tb) (.v d) S2 := fun σ F H L E s Q q => h σ F H L E s _ fun F1 H1 st s1 => by
  cases b with
  | true =>
    show ta σ H1 Q
    exact h1 rfl σ F1 H1 L (E.mono0 st.fx) s1 Q fun v F2 H2 st2 s2 hv => q v F2 H2 (st.trans st2) s2 hv
  | false =>
    show tb σ H1 Q
    exact h2 rfl σ F1 H1 L (E.mono0 st.fx) s1 Q fun v F2 H2 st2 s2 hv => q v F2 H2 (st.trans st2) s2 hv
end
end DL

namespace DL
open PySem PySem.Spec PyProof.Rows L2

/-! ### sequences that are read -/
def RdSq (S : Sto) (r : Rs) (ds : List D) : Prop := r = .v (.list ds) ∨ r = .v (.tuple ds) ∨ ∃ n, r = .mu n ∧ S[n]? = some ds
def notNl : Rs → Bool
  | .nl _ => false
  | _ => true
theorem RsOk.pers {K : PySem.W.Frag} {L : List Addr} {F F' H0 H H0' H' : Hp} {v : V} (e : Same F F') : ∀ {r : Rs}, RsOk K L F H0 H v r → notNl r = true → RsOk K L F' H0' H' v r
  | .v d, h, _ => dp_mono e d v h
  | .mu n, h, _ => h
theorem RsOk.back {K : PySem.W.Frag} {L : List Addr} {F0 H0 F F' H H' : Hp} {v : V} (st : Stp L F0 H0 F H) : ∀ {r : Rs}, RsOk K L F' H H' v r → RsOk K L F' H0 H' v r
  | .v d, h => h
  | .mu n, h => h
  | .nl ds, ⟨a, vs, e, h0, h1, h2, h3⟩ => ⟨a, vs, e, st.fresh h0, h1, h2, h3⟩
theorem rd_sq {K : PySem.W.Frag} {L : List Addr} {F H H0 : Hp} {S : Sto} {v : V} {r : Rs} {ds : List D} (s : SOk K F H L S) (h : RsOk K L F H0 H v r) (q : RdSq S r ds) : ∃ a vs, v = .ref a ∧ (SqL K H a vs ∨ SqT K H a vs) ∧ DpAll K F vs ds := by
  rcases q with rfl | rfl | ⟨n, rfl, e⟩
  · have h' : Dp K F v (.list ds) := h
    cases h' with
    | lst h1 h2 => exact ⟨_, _, rfl, .inl (s.sub.seq h1), h2⟩
  · have h' : Dp K F v (.tuple ds) := h
    cases h' with
    | tup h1 h2 => exact ⟨_, _, rfl, .inr (sqt_mono s.sub h1), h2⟩
  · obtain ⟨a, rfl, e1⟩ := h
    obtain ⟨_, vs, ds', e2, e3, e4⟩ := s.st n a e1
    rw [e] at e2
    cases e2
    exact ⟨a, vs, rfl, .inl (.inl (.inl e3)), e4⟩
theorem atI_dp {K : PySem.W.Frag} {F : Hp} {vs : List V} {ds : List D} {i : Int} {d : D} (h : DpAll K F vs ds) (e : atI ds i = some d) : ∃ v, atI vs i = some v ∧ Dp K F v d := by
  unfold atI at e ⊢
  rw [dpa_len h]
  cases q : ixN ds.length i with
  | none => rw [q] at e; cases e
  | some j =>
    rw [q] at e
    exact dpa_get h e
/-- all arguments data -/
def EvD (K : PySem.W.Frag) (ρ : Rho) (S : Sto) (ta : TA) (ds : List D) (S' : Sto) : Prop := ∀ σ F H L, EOk K F L σ ρ → SOk K F H L S → ∀ Q : List V → Hp → Prop, (∀ vs F' H', Stp L F H F' H' → SOk K F' H' L S' → DpAll K F' vs ds → Q vs H') → ta σ H Q
theorem small5 {n : Nat} (h : n ≤ 100000) : n ≤ sizeLine := Nat.le_trans h (by decide)
theorem small5' {n : Nat} (h : n < 100000) : n < sizeLine := Nat.lt_of_lt_of_le h (by decide)

/-- a new tuple, a new list -/
theorem new_tup {K : PySem.W.Frag} {L : List Addr} {F H : Hp} {S : Sto} {vs : List V} {ds : List D} {p : Addr} (s : SOk K F H L S) (hd : DpAll K F vs ds) (hp : H p = none) :
    Stp L F H (upd F p (.tup vs)) (upd H p (.tup vs)) ∧ SOk K (upd F p (.tup vs)) (upd H p (.tup vs)) L S ∧ Dp K (upd F p (.tup vs)) (.ref p) (.tuple ds) := by
  have hf : F p = none := by
    cases q : F p with
    | none => rfl
    | some o => rw [s.sub _ _ q] at hp; cases hp
  have sm : Same F (upd F p (.tup vs)) := fun b o e => by
    rw [upd_ne (ne_of_none e hf)]
    exact e
  refine ⟨⟨sm, fun a o e _ => ?_, fun a h => ?_, fun a h n => ?_⟩, ⟨fun b o e => ?_, s.len, s.nd, fun n a e => ?_⟩, .tup (.inl (.inl upd_same)) (dpa_mono sm _ _ hd)⟩
  · rw [upd_ne (ne_of_none e hp)]; exact e
  · by_cases q : a = p
    · rw [q, upd_same]; exact nofun
    · rw [upd_ne q]; exact h
  · have : a ≠ p := fun q => h (by rw [q]; exact hp)
    rw [upd_ne this]; exact n
  · by_cases q : b = p
    · rw [q, upd_same] at e ⊢; exact e
    · rw [upd_ne q] at e ⊢; exact s.sub _ _ e
  · obtain ⟨f0, ws, es, e1, e2, e3⟩ := s.st n a e
    have : a ≠ p := fun q => by rw [q, hp] at e2; cases e2
    rw [upd_ne this, upd_ne this]
    exact ⟨f0, ws, es, e1, e2, dpa_mono sm _ _ e3⟩
theorem new_lst {K : PySem.W.Frag} {L : List Addr} {F H : Hp} {S : Sto} {vs : List V} {ds : List D} {p : Addr} (s : SOk K F H L S) (hd : DpAll K F vs ds) (hp : H p = none) :
    Stp L F H F (upd H p (.lst vs)) ∧ SOk K F (upd H p (.lst vs)) L S ∧ RsOk K L F H (upd H p (.lst vs)) (.ref p) (.nl ds) := by
  have hf : F p = none := by
    cases q : F p with
    | none => rfl
    | some o => rw [s.sub _ _ q] at hp; cases hp
  refine ⟨⟨Same.refl _, fun a o e _ => ?_, fun a h => ?_, fun a h n => n⟩, ⟨fun b o e => ?_, s.len, s.nd, fun n a e => ?_⟩, ⟨p, vs, rfl, hp, hf, upd_same, hd⟩⟩
  · rw [upd_ne (ne_of_none e hp)]; exact e
  · by_cases q : a = p
    · rw [q, upd_same]; exact nofun
    · rw [upd_ne q]; exact h
  · rw [upd_ne (ne_of_none e hf)]; exact s.sub _ _ e
  · obtain ⟨f0, ws, es, e1, e2, e3⟩ := s.st n a e
    have : a ≠ p := fun q => by rw [q, hp] at e2; cases e2
    rw [upd_ne this]
    exact ⟨f0, ws, es, e1, e2, e3⟩

section
variable {K : PySem.W.Frag} {ρ : Rho} {S S1 S2 S3 : Sto} {ta tb tc te : TE} {t u : TT} {tr : TA} {d e f : D} {r : Rs} {ds es : List D}
theorem ed_nil : EvD K ρ S tNil [] S := fun σ F H L E s Q q => q [] F H (.refl _ _ _) s .nil
theorem ed_cons (h : Ev K ρ S te (.v d) S1) (hr : EvD K ρ S1 tr ds S2) : EvD K ρ S (tCons te tr) (d :: ds) S2 := fun σ F H L E s Q q =>
  h σ F H L E s _ fun v F1 H1 st1 s1 r1 => hr σ F1 H1 L (E.mono0 st1.fx) s1 _ fun vs F2 H2 st2 s2 r2 => q _ F2 H2 (st1.trans st2) s2 (.cons (dp_mono st2.fx _ _ r1) r2)
theorem ed_consN (h : Ev K ρ S te (.nl es) S1) (hr : EvD K ρ S1 tr ds S2) : EvD K ρ S (tCons te tr) (.list es :: ds) S2 := ed_cons (ev_fr h) hr
theorem ev_tup (h : EvD K ρ S tr ds S1) (hl : ds.length ≤ 100000) : Ev K ρ S (tTup tr) (.v (.tuple ds)) S1 := fun σ F H L E s Q q =>
  h σ F H L E s _ fun vs F1 H1 st1 s1 r1 => ⟨by rw [dpa_len r1]; exact small5 hl, fun p hp => by
    obtain ⟨a, b, c⟩ := new_tup s1 r1 hp
    exact q _ _ _ (st1.trans a) b c⟩
theorem ev_lst (h : EvD K ρ S tr ds S1) (hl : ds.length ≤ 100000) : Ev K ρ S (tLst tr) (.nl ds) S1 := fun σ F H L E s Q q =>
  h σ F H L E s _ fun vs F1 H1 st1 s1 r1 => ⟨by rw [dpa_len r1]; exact small5 hl, fun p hp => by
    obtain ⟨a, b, c⟩ := new_lst (L := L) s1 r1 hp
    exact q _ _ _ (st1.trans a) b (c.back st1)⟩
/-! items -/
theorem ev_ix {i : Int} (ha : Ev K ρ S ta r S1) (hn : notNl r = true) (hb : Ev K ρ S1 tb (.v (.int i)) S2) (hq : RdSq S2 r ds) (hi : atI ds i = some d) : Ev K ρ S (tOp (rIx K) ta tb) (.v d) S2 := fun σ F H L E s Q q =>
  ha σ F H L E s _ fun x F1 H1 st1 s1 r1 => hb σ F1 H1 L (E.mono0 st1.fx) s1 _ fun y F2 H2 st2 s2 r2 => by
    cases r2
    obtain ⟨a, vs, rfl, hs, hd⟩ := rd_sq (H0 := H) s2 (r1.pers st2.fx hn) hq
    obtain ⟨v, hv, hdp⟩ := atI_dp hd hi
    rcases hs with hs | hs
    · exact .inl ⟨a, vs, i, v, rfl, rfl, hs, hv, q v F2 H2 (st1.trans st2) s2 hdp⟩
    · exact .inr (.inl ⟨a, vs, i, v, rfl, rfl, hs, hv, q v F2 H2 (st1.trans st2) s2 hdp⟩)
theorem ev_ixS {i : Int} {z : Str} {c : Nat} (ha : Ev K ρ S ta (.v (.str z)) S1) (hb : Ev K ρ S1 tb (.v (.int i)) S2) (hz : z.length ≤ sizeLine) (hi : atI z.cps.toList i = some c) : Ev K ρ S (tOp (rIx K) ta tb) (.v (.str ⟨#[c]⟩)) S2 := fun σ F H L E s Q q =>
  ha σ F H L E s _ fun x F1 H1 st1 s1 r1 => hb σ F1 H1 L (E.mono0 st1.fx) s1 _ fun y F2 H2 st2 s2 r2 => by
    cases r1; cases r2
    exact .inr (.inr ⟨z, i, c, rfl, rfl, hz, hi, q _ F2 H2 (st1.trans st2) s2 (.str _)⟩)
/-! builtins over data -/
def Fn (K : PySem.W.Frag) (rr : List V → Hp → VK → Prop) (ds : List D) (r : Rs) : Prop := ∀ F H L S vs, SOk K F H L S → DpAll K F vs ds → ∀ Q : VK, (∀ v F' H', Stp L F H F' H' → SOk K F' H' L S → RsOk K L F' H H' v r → Q v H') → rr vs H Q
theorem ev_fn {rr : List V → Hp → VK → Prop} (h : EvD K ρ S tr ds S1) (hr : Fn K rr ds r) : Ev K ρ S (tCB rr tr) r S1 := fun σ F H L E s Q q =>
  h σ F H L E s _ fun vs F1 H1 st1 s1 r1 => hr F1 H1 L S1 vs s1 r1 Q fun v F2 H2 st2 s2 r2 => q v F2 H2 (st1.trans st2) s2 (r2.back st1)
theorem dpa1 {F : Hp} {vs : List V} (h : DpAll K F vs [d]) : ∃ v, vs = [v] ∧ Dp K F v d := by
  cases h with
  | cons a b => cases b; exact ⟨_, rfl, a⟩
theorem dpa2 {F : Hp} {vs : List V} (h : DpAll K F vs [d, e]) : ∃ v w, vs = [v, w] ∧ Dp K F v d ∧ Dp K F w e := by
  cases h with
  | cons a b =>
    cases b with
    | cons a' b => cases b; exact ⟨_, _, rfl, a, a'⟩
theorem fn_max {i j : Int} : Fn K (fun xs H Q => ∃ i j, xs = [.int i, .int j] ∧ Q (.int (if j > i then j else i)) H) [.int i, .int j] (.v (.int (max i j))) := fun F H L S vs s h Q q => by
  obtain ⟨v, w, rfl, a, b⟩ := dpa2 h
  cases a; cases b
  refine ⟨i, j, rfl, q _ F H (.refl _ _ _) s ?_⟩
  have : (if j > i then j else i) = max i j := by
    rw [Int.max_def]
    split <;> split <;> omega
  rw [this]
  exact Dp.int _
theorem fn_min {i j : Int} : Fn K (fun xs H Q => ∃ i j, xs = [.int i, .int j] ∧ Q (.int (if j < i then j else i)) H) [.int i, .int j] (.v (.int (min i j))) := fun F H L S vs s h Q q => by
  obtain ⟨v, w, rfl, a, b⟩ := dpa2 h
  cases a; cases b
  refine ⟨i, j, rfl, q _ F H (.refl _ _ _) s ?_⟩
  have : (if j < i then j else i) = min i j := by
    rw [Int.min_def]
    split <;> split <;> omega
  rw [this]
  exact Dp.int _
theorem fn_int {i : Int} : Fn K (fun xs H Q => (∃ i, xs = [.int i] ∧ Q (.int i) H) ∨ ∃ k, xs = [.bl k] ∧ Q (.int (if k then 1 else 0)) H) [.int i] (.v (.int i)) := fun F H L S vs s h Q q => by
  obtain ⟨v, rfl, a⟩ := dpa1 h
  cases a
  exact .inl ⟨i, rfl, q _ F H (.refl _ _ _) s (.int _)⟩
theorem fn_ord {x : Str} (hx : x.length = 1) : Fn K (fun xs H Q => ∃ x, xs = [.str x] ∧ x.length = 1 ∧ Q (.int (x.cps.getD 0 0 : Nat)) H) [.str x] (.v (.int (x.cps.getD 0 0 : Nat))) := fun F H L S vs s h Q q => by
  obtain ⟨v, rfl, a⟩ := dpa1 h
  cases a
  exact ⟨x, rfl, hx, q _ F H (.refl _ _ _) s (.int _)⟩
/-- len, list, tuple of what is read -/
theorem ev_len (h : Ev K ρ S te r S1) (hn : notNl r = true) (hq : RdSq S1 r ds) : Ev K ρ S (tCB (fun xs H Q => ∃ x n, xs = [x] ∧ LenV K x H n ∧ Q (.int n) H) (tCons te tNil)) (.v (.int (ds.length : Int))) S1 := fun σ F H L E s Q q =>
  h σ F H L E s _ fun x F1 H1 st1 s1 r1 => by
    obtain ⟨a, vs, rfl, hs, hd⟩ := rd_sq (H0 := H) s1 (r1.pers (Same.refl _) hn) hq
    refine ⟨_, ds.length, rfl, ?_, q _ F1 H1 st1 s1 (.int _)⟩
    rcases hs with hs | hs
    · exact .inl ⟨vs, hs, (dpa_len hd).symm⟩
    · exact .inr ⟨vs, hs, (dpa_len hd).symm⟩
theorem ev_lenS {z : Str} (h : Ev K ρ S te (.v (.str z)) S1) (hz : z.length ≤ sizeLine) : Ev K ρ S (tCB (fun xs H Q => ∃ x n, xs = [x] ∧ LenV K x H n ∧ Q (.int n) H) (tCons te tNil)) (.v (.int (z.length : Int))) S1 := fun σ F H L E s Q q =>
  h σ F H L E s _ fun x F1 H1 st1 s1 r1 => by
    cases r1
    exact ⟨_, z.length, rfl, ⟨hz, rfl⟩, q _ F1 H1 st1 s1 (.int _)⟩
theorem ev_list (h : Ev K ρ S te r S1) (hn : notNl r = true) (hq : RdSq S1 r ds) : Ev K ρ S (tCB (fun xs H Q => ∃ p ys, xs = [.ref p] ∧ (SqL K H p ys ∨ SqT K H p ys) ∧ ∀ l, H l = none → Q (.ref l) (upd H l (.lst ys))) (tCons te tNil)) (.nl ds) S1 := fun σ F H L E s Q q =>
  h σ F H L E s _ fun x F1 H1 st1 s1 r1 => by
    obtain ⟨a, vs, rfl, hs, hd⟩ := rd_sq (H0 := H) s1 (r1.pers (Same.refl _) hn) hq
    refine ⟨a, vs, rfl, hs, fun l hl => ?_⟩
    obtain ⟨a, b, c⟩ := new_lst (L := L) s1 hd hl
    exact q _ _ _ (st1.trans a) b (c.back st1)
theorem ev_tuple (h : Ev K ρ S te r S1) (hn : notNl r = true) (hq : RdSq S1 r ds) : Ev K ρ S (tCB (fun xs H Q => ∃ p ys, xs = [.ref p] ∧ ((SqL K H p ys ∧ ∀ l, H l = none → Q (.ref l) (upd H l (.tup ys))) ∨ (SqT K H p ys ∧ Q (.ref p) H))) (tCons te tNil)) (.v (.tuple ds)) S1 := fun σ F H L E s Q q =>
  h σ F H L E s _ fun x F1 H1 st1 s1 r1 => by
    rcases hq with rfl | rfl | ⟨n, rfl, e⟩
    · obtain ⟨a, vs, rfl, hs, hd⟩ := rd_sq (H0 := H) s1 (r1.pers (Same.refl _) hn) (.inl rfl)
      have r1' : Dp K F1 (.ref a) (.list ds) := r1
      cases r1' with
      | lst h1 h2 =>
        refine ⟨a, _, rfl, .inl ⟨s1.sub.seq h1, fun l hl => ?_⟩⟩
        obtain ⟨x, y, z⟩ := new_tup (L := L) s1 h2 hl
        exact q _ _ _ (st1.trans x) y z
    · have r1' : Dp K F1 x (.tuple ds) := r1
      cases r1' with
      | tup h1 h2 => exact ⟨_, _, rfl, .inr ⟨sqt_mono s1.sub h1, q _ F1 H1 st1 s1 (.tup h1 h2)⟩⟩
    · obtain ⟨a, rfl, e1⟩ := r1
      obtain ⟨_, vs, ds', e2, e3, e4⟩ := s1.st n a e1
      rw [e] at e2
      cases e2
      refine ⟨a, vs, rfl, .inl ⟨.inl (.inl e3), fun l hl => ?_⟩⟩
      obtain ⟨x, y, z⟩ := new_tup (L := L) s1 e4 hl
      exact q _ _ _ (st1.trans x) y z
/-- truth of a list -/
theorem et_truL (h : Ev K ρ S te r S1) (hn : notNl r = true) (hq : RdSq S1 r ds) : EvT K ρ S (fun σ H Q => te σ H fun x H' => ∃ k, TruV K x H' k ∧ Q k H') (!ds.isEmpty) S1 := fun σ F H L E s Q q =>
  h σ F H L E s _ fun x F1 H1 st1 s1 r1 => by
    obtain ⟨a, vs, rfl, hs, hd⟩ := rd_sq (H0 := H) s1 (r1.pers (Same.refl _) hn) hq
    refine ⟨_, ?_, q F1 H1 st1 s1⟩
    have hl := dpa_len hd
    have he : vs.isEmpty = ds.isEmpty := by
      cases vs <;> cases ds <;> simp_all
    rcases hs with hs | hs
    · exact .inl ⟨vs, hs, by rw [he]⟩
    · exact .inr (.inl ⟨vs, hs, by rw [he]⟩)
theorem et_truB {b : Bool} (h : Ev K ρ S te (.v (.bool b)) S1) : EvT K ρ S (fun σ H Q => te σ H fun x H' => ∃ k, TruV K x H' k ∧ Q k H') b S1 := fun σ F H L E s Q q =>
  h σ F H L E s _ fun x F1 H1 st1 s1 r1 => by
    cases r1
    exact ⟨b, rfl, q F1 H1 st1 s1⟩
/-- isinstance -/
def tyD : D → String
  | .none => "NoneType" | .bool _ => "bool" | .int _ => "int" | .str _ => "str" | .list _ => "list" | .tuple _ => "tuple" | .dict _ => "dict"
end
end DL

namespace DL
open PySem PySem.Spec PyProof.Rows L2

section
variable {K : PySem.W.Frag} {ρ : Rho} {S S1 S2 S3 : Sto} {ta tb tc te : TE} {t u : TT} {tr : TA} {d e f : D} {r : Rs} {ds es : List D}
theorem ty_dp {F : Hp} {v : V} (h : Dp K F v d) : TyX K F v (.type (tyD d)) := by
  cases h with
  | non => exact .base .non
  | bl b => exact .base (.bl b)
  | int i => exact .base (.int i)
  | str x => exact .base (.str x)
  | lst h1 h2 =>
    rcases h1 with (h1 | ⟨o, h1⟩) | ⟨o, its, n, h1, h3, _⟩
    · exact .base (.lst h1)
    · exact .base (.frz h1)
    · exact .kList h1 h3
  | tup h1 h2 =>
    rcases h1 with (h1 | ⟨o, h1⟩) | ⟨o, its, n, h1, h3, _⟩
    · exact .base (.tup h1)
    · exact .fTuple h1
    · exact .kTuple h1 h3
theorem tyx_mono {F H : Hp} {v : V} (h : Dp K F v d) (sm : Same F H) : TyX K H v (.type (tyD d)) := ty_dp (dp_mono sm _ _ h)
theorem ev_isi {T : String} {b : Bool} (h : Ev K ρ S te (.v d) S1) (hb : kitB (tyD d) T = some b) : Ev K ρ S (tCB (rIsi K) (tCons te (tCons (tC (.ty T)) tNil))) (.v (.bool b)) S1 := fun σ F H L E s Q q =>
  h σ F H L E s _ fun x F1 H1 st1 s1 r1 => ⟨x, _, _, _, b, rfl, .ty T, tyx_mono r1 s1.sub, kit_ty hb, q _ F1 H1 st1 s1 (.bl b)⟩

/-! ### arguments of own defs -/
def enOf : Rs → En
  | .v d => .dt d
  | .nl ds => .dt (.list ds)
  | .mu n => .mu n
theorem ea_nil : EvA K ρ S tNil [] S := fun σ F H L E s Q q => q [] F H (.refl _ _ _) s rfl fun i e h => by simp at h
theorem ea_cons1 {es : Rho} {en : En} (hx : ∀ σ F H L, EOk K F L σ ρ → SOk K F H L S → ∀ Q : VK, (∀ v F' H', Stp L F H F' H' → SOk K F' H' L S1 → EnOk K F' L en (some v) → Q v H') → te σ H Q) (hr : EvA K ρ S1 tr es S2) : EvA K ρ S (tCons te tr) (en :: es) S2 := fun σ F H L E s Q q =>
  hx σ F H L E s _ fun v F1 H1 st1 s1 r1 => hr σ F1 H1 L (E.mono0 st1.fx) s1 _ fun vs F2 H2 st2 s2 hl r2 => q _ F2 H2 (st1.trans st2) s2 (by simp [hl]) fun i e h => by
    cases i with
    | zero =>
      have := Option.some.inj h
      subst this
      refine ⟨some v, rfl, ?_⟩
      have := r1.mono (R := []) st2.fx
      rw [List.append_nil] at this
      exact this
    | succ i => exact r2 i e h
theorem ea_cons {es : Rho} (h : Ev K ρ S te (.v d) S1) (hr : EvA K ρ S1 tr es S2) : EvA K ρ S (tCons te tr) (.dt d :: es) S2 := ea_cons1 (fun σ F H L E s Q q => h σ F H L E s Q fun v F1 H1 st s1 r1 => q v F1 H1 st s1 ⟨v, rfl, r1⟩) hr
theorem ea_consN {es : Rho} {ds : List D} (h : Ev K ρ S te (.nl ds) S1) (hr : EvA K ρ S1 tr es S2) : EvA K ρ S (tCons te tr) (.dt (.list ds) :: es) S2 := ea_cons (ev_fr h) hr
theorem ea_consM {es : Rho} {n : Nat} (h : Ev K ρ S te (.mu n) S1) (hr : EvA K ρ S1 tr es S2) : EvA K ρ S (tCons te tr) (.mu n :: es) S2 := ea_cons1 (fun σ F H L E s Q q => h σ F H L E s Q fun v F1 H1 st s1 r1 => q v F1 H1 st s1 (by
  obtain ⟨a, rfl, e⟩ := r1
  exact ⟨a, rfl, e⟩)) hr

/-! ### a def's promise: G tells, of the arguments and the written lists, the result and the lists behind -/
def spA (K : PySem.W.Frag) (n : Nat) (G : Rho → Sto → Rs → Sto → Prop) : Sp := fun vs H Q E => vs.length = n ∧ ∃ F L ρ S r S', EOk K F L (vs.map some) ρ ∧ ρ.length = n ∧ SOk K F H L S ∧ G ρ S r S' ∧ ∀ v F' H', Stp L F H F' H' → SOk K F' H' L S' → RsOk K L F' H H' v r → Q v H'
def isDt : En → Bool
  | .dt _ => true
  | _ => false
def notMu : Rs → Bool
  | .mu _ => false
  | _ => true
theorem eok_dt {F : Hp} {L L' : List Addr} {σ : L2.St} {es : Rho} (h : EOk K F L σ es) (hd : es.all isDt = true) : EOk K F L' σ es := fun i e q => by
  obtain ⟨o, a, b⟩ := h i e q
  have := List.all_eq_true.mp hd e (List.mem_of_getElem? q)
  cases e with
  | dt d => exact ⟨o, a, b⟩
  | un => cases this
  | mu n => cases this
theorem ev_call0 {n : Nat} {G : Rho → Sto → Rs → Sto → Prop} {es : Rho} {E : XK} (h : EvA K ρ S tr es S1) (hd : es.all isDt = true) (hn : es.length = n) (hm : notMu r = true) (g : G es [] r []) : Ev K ρ S (tCall (spA K n G) [] E tr) r S1 := fun σ F H L Eo s Q q =>
  h σ F H L Eo s _ fun vs F1 H1 st1 s1 hl r1 => by
    refine ⟨by simp [hl, hn], F1, [], es, [], r, [], by rw [List.append_nil]; exact eok_dt r1 hd, hn, ⟨s1.sub, rfl, .nil, fun n a e => by simp at e⟩, g, fun v F2 H2 st2 s2 r2 => ?_⟩
    have st3 : Stp L F1 H1 F2 H2 := ⟨st2.fx, fun a o e _ => st2.keep a o e (by simp), st2.live, st2.nof⟩
    refine q v F2 H2 (st1.trans st3) ⟨s2.sub, s1.len, s1.nd, fun n a e => ?_⟩ ?_
    · obtain ⟨f0, ws, xs, e1, e2, e3⟩ := s1.st n a e
      exact ⟨st2.nof a (by rw [e2]; exact nofun) f0, ws, xs, e1, st2.keep _ _ e2 (by simp), dpa_mono st2.fx _ _ e3⟩
    · cases r with
      | v d => exact r2
      | nl ds =>
        obtain ⟨a, vs, e, h0, h1, h2, h3⟩ := r2
        exact ⟨a, vs, e, st1.fresh h0, h1, h2, h3⟩
      | mu n => cases hm
def reix : En → En
  | .mu _ => .mu 0
  | e => e
def muIs (n : Nat) : En → Bool
  | .mu m => m == n
  | .dt _ => true
  | .un => false
theorem ev_call1 {n : Nat} {k : Nat} {G : Rho → Sto → Rs → Sto → Prop} {es : Rho} {E : XK} {ds ds' : List D} (h : EvA K ρ S tr es S1) (hd : es.all (muIs k) = true) (hn : es.length = n) (hk : S1[k]? = some ds) (hm : notMu r = true) (g : G (es.map reix) [ds] r [ds']) :
    Ev K ρ S (tCall (spA K n G) [] E tr) r (S1.set k ds') := fun σ F H L Eo s Q q =>
  h σ F H L Eo s _ fun vs F1 H1 st1 s1 hl r1 => by
    have hkl : k < L.length := by
      rw [s1.len]
      exact (List.getElem?_eq_some_iff.mp hk).1
    obtain ⟨a, ha⟩ : ∃ a, L[k]? = some a := ⟨_, List.getElem?_eq_getElem hkl⟩
    obtain ⟨fa, wsa, dsa, ea1, ea2, ea3⟩ := s1.st k a ha
    rw [hk] at ea1
    cases ea1
    have haL : a ∈ L := List.mem_of_getElem? ha
    refine ⟨by simp [hl, hn], F1, [a], es.map reix, [ds], r, [ds'], ?_, by simp [hn], ⟨s1.sub, rfl, by simp, fun n b e => ?_⟩, g, fun v F2 H2 st2 s2 r2 => ?_⟩
    · rw [List.append_nil]
      intro i e q
      rw [List.getElem?_map] at q
      cases qe : es[i]? with
      | none => rw [qe] at q; cases q
      | some e0 =>
        rw [qe] at q
        have q' := Option.some.inj q
        obtain ⟨o, h1, h2⟩ := r1 i e0 qe
        have hmu := List.all_eq_true.mp hd e0 (List.mem_of_getElem? qe)
        refine ⟨o, h1, ?_⟩
        subst q'
        cases e0 with
        | un => cases hmu
        | dt d => exact h2
        | mu m =>
          have : m = k := by simpa [muIs] using hmu
          subst this
          obtain ⟨b, hb1, hb2⟩ := h2
          rw [ha] at hb2
          cases hb2
          exact ⟨a, hb1, rfl⟩
    · cases n with
      | zero =>
        cases e
        exact ⟨fa, wsa, ds, rfl, ea2, ea3⟩
      | succ n => simp at e
    · have st3 : Stp L F1 H1 F2 H2 := ⟨st2.fx, fun b o e nb => st2.keep b o e (by
        intro hb
        have : b = a := by simpa using hb
        exact nb (this ▸ haL)), st2.live, st2.nof⟩
      obtain ⟨fa2, ws2, xs2, eb1, eb2, eb3⟩ := s2.st 0 a rfl
      cases eb1
      refine q v F2 H2 (st1.trans st3) ⟨s2.sub, by simp [s1.len], s1.nd, fun n b e => ?_⟩ ?_
      · by_cases hnk : k = n
        · subst hnk
          rw [ha] at e
          cases e
          exact ⟨fa2, ws2, ds', by rw [List.getElem?_set_self (by rw [← s1.len]; exact hkl)], eb2, eb3⟩
        · obtain ⟨f0, ws, xs, e1, e2, e3⟩ := s1.st n b e
          have hba : b ≠ a := fun z => by
            subst z
            have h1 := (List.getElem?_eq_some_iff.mp e)
            have h2 := (List.getElem?_eq_some_iff.mp ha)
            exact hnk ((List.getElem_inj s1.nd).mp (h2.2.trans h1.2.symm))
          refine ⟨st2.nof b (by rw [e2]; exact nofun) f0, ws, xs, by rw [List.getElem?_set_ne hnk]; exact e1, st2.keep _ _ e2 (by simpa using hba), dpa_mono st2.fx _ _ e3⟩
      · cases r with
        | v d => exact r2
        | nl ds =>
          obtain ⟨a, vs, e, h0, h1, h2, h3⟩ := r2
          exact ⟨a, vs, e, st1.fresh h0, h1, h2, h3⟩
        | mu n => cases hm
end

/-! ### statements -/
structure AE where
  nx : Rho → Sto → Prop
  rt : Rs → Sto → Prop
  bk : Rho → Sto → Prop := fun _ _ => False
  ct : Rho → Sto → Prop := fun _ _ => False
/-- since the def's entry (L0, F0, H0) -/
structure Bs (n0 : Nat) (L0 : List Addr) (F0 H0 : Hp) (L : List Addr) (F H : Hp) : Prop where
  n : L0.length = n0
  stp : Stp L0 F0 H0 F H
  pre : ∃ R, L = L0 ++ R
  fr : ∀ a ∈ L, a ∈ L0 ∨ H0 a = none
structure Cov (K : PySem.W.Frag) (n0 : Nat) (A : AE) (L0 : List Addr) (F0 H0 : Hp) (DE : Ends) : Prop where
  nx : ∀ σ F H L ρ S, Bs n0 L0 F0 H0 L F H → EOk K F L σ ρ → SOk K F H L S → A.nx ρ S → DE.nx σ H
  bk : ∀ σ F H L ρ S, Bs n0 L0 F0 H0 L F H → EOk K F L σ ρ → SOk K F H L S → A.bk ρ S → DE.bk σ H
  ct : ∀ σ F H L ρ S, Bs n0 L0 F0 H0 L F H → EOk K F L σ ρ → SOk K F H L S → A.ct ρ S → DE.ct σ H
  rt : ∀ v F H L r S, notMu r = true → Bs n0 L0 F0 H0 L F H → SOk K F H L S → RsOk K L0 F H0 H v r → A.rt r S → DE.rt v H
def As (K : PySem.W.Frag) (n0 : Nat) (ts : TS) (A : AE) (ρ : Rho) (S : Sto) : Prop := ∀ L0 F0 H0 σ F H L, Bs n0 L0 F0 H0 L F H → EOk K F L σ ρ → SOk K F H L S → ∀ DE : Ends, Cov K n0 A L0 F0 H0 DE → ts DE σ H
theorem Bs.step {n0 : Nat} {L0 L : List Addr} {F0 H0 F H F' H' : Hp} (b : Bs n0 L0 F0 H0 L F H) (s : Stp L F H F' H') : Bs n0 L0 F0 H0 L F' H' := ⟨b.n, b.stp.trans' s b.fr, b.pre, b.fr⟩
theorem Cov.mono {K : PySem.W.Frag} {n0 : Nat} {A B : AE} {L0 : List Addr} {F0 H0 : Hp} {DE : Ends} (c : Cov K n0 B L0 F0 H0 DE) (h1 : ∀ ρ S, A.nx ρ S → B.nx ρ S) (h2 : ∀ r S, A.rt r S → B.rt r S) (h3 : ∀ ρ S, A.bk ρ S → B.bk ρ S) (h4 : ∀ ρ S, A.ct ρ S → B.ct ρ S) : Cov K n0 A L0 F0 H0 DE :=
  ⟨fun σ F H L ρ S a b d x => c.nx σ F H L ρ S a b d (h1 _ _ x), fun σ F H L ρ S a b d x => c.bk σ F H L ρ S a b d (h3 _ _ x), fun σ F H L ρ S a b d x => c.ct σ F H L ρ S a b d (h4 _ _ x), fun v F H L r S m a b d x => c.rt v F H L r S m a b d (h2 _ _ x)⟩
section
variable {K : PySem.W.Frag} {n0 : Nat} {A B : AE} {ρ : Rho} {S S1 S2 S3 : Sto} {ta tb tc te : TE} {t u : TT} {tr : TA} {d e f : D} {r : Rs} {ds es : List D} {ts tu tw : TS} {g : TG}
theorem As.mono (h : As K n0 ts A ρ S) (h1 : ∀ ρ S, A.nx ρ S → B.nx ρ S) (h2 : ∀ r S, A.rt r S → B.rt r S) (h3 : ∀ ρ S, A.bk ρ S → B.bk ρ S) (h4 : ∀ ρ S, A.ct ρ S → B.ct ρ S) : As K n0 ts B ρ S := fun L0 F0 H0 σ F H L b e s DE c =>
  h L0 F0 H0 σ F H L b e s DE (c.mono h1 h2 h3 h4)
theorem as_seq (h : As K n0 ts { A with nx := fun ρ S => As K n0 tu A ρ S } ρ S) : As K n0 (tSeq ts tu) A ρ S := fun L0 F0 H0 σ F H L b e s DE c =>
  h L0 F0 H0 σ F H L b e s { DE with nx := tu DE } ⟨fun σ F H L ρ S b e s x => x L0 F0 H0 σ F H L b e s DE c, c.bk, c.ct, c.rt⟩
theorem as_next (h : A.nx ρ S) : As K n0 tNext A ρ S := fun L0 F0 H0 σ F H L b e s DE c => c.nx σ F H L ρ S b e s h
theorem as_break (h : A.bk ρ S) : As K n0 tBreak A ρ S := fun L0 F0 H0 σ F H L b e s DE c => c.bk σ F H L ρ S b e s h
theorem as_cont (h : A.ct ρ S) : As K n0 tCont A ρ S := fun L0 F0 H0 σ F H L b e s DE c => c.ct σ F H L ρ S b e s h
theorem as_asg {i : Nat} (h : Ev K ρ S te (.v d) S1) (k : A.nx (ρ.set i (.dt d)) S1) : As K n0 (tAsg te (gName i)) A ρ S := fun L0 F0 H0 σ F H L b e s DE c =>
  h σ F H L e s _ fun v F1 H1 st s1 r1 => c.nx _ F1 H1 L _ S1 (b.step st) ((e.mono0 st.fx).set i (e := .dt d) ⟨v, rfl, r1⟩) s1 k
theorem as_asgM {i n : Nat} (h : Ev K ρ S te (.mu n) S1) (k : A.nx (ρ.set i (.mu n)) S1) : As K n0 (tAsg te (gName i)) A ρ S := fun L0 F0 H0 σ F H L b e s DE c =>
  h σ F H L e s _ fun v F1 H1 st s1 r1 => c.nx _ F1 H1 L _ S1 (b.step st) ((e.mono0 st.fx).set i (e := .mu n) (by
    obtain ⟨a, rfl, q⟩ := r1
    exact ⟨a, rfl, q⟩)) s1 k
/-- a new list becomes a written one -/
theorem own_new {L0 L : List Addr} {F0 H0 F H F1 H1 : Hp} {v : V} (b : Bs n0 L0 F0 H0 L F H) (st : Stp L F H F1 H1) (s0 : SOk K F H L S) (s1 : SOk K F1 H1 L S1) (r1 : RsOk K L F1 H H1 v (.nl ds)) : ∃ a, v = .ref a ∧ Bs n0 L0 F0 H0 (L ++ [a]) F1 H1 ∧ SOk K F1 H1 (L ++ [a]) (S1 ++ [ds]) := by
  obtain ⟨a, vs, rfl, h0, hf, hh, hd⟩ := r1
  have ha0 : H0 a = none := b.stp.fresh h0
  have b1 := b.step st
  have haL : a ∉ L := fun m => by
    obtain ⟨n, hn⟩ := List.getElem?_of_mem m
    obtain ⟨_, _, _, _, e2, _⟩ := s0.st n a hn
    rw [h0] at e2
    cases e2
  refine ⟨a, rfl, ⟨b1.n, b1.stp, ?_, fun x hx => ?_⟩, ⟨s1.sub, by simp [s1.len], ?_, fun n x e => ?_⟩⟩
  · obtain ⟨R, rfl⟩ := b.pre
    exact ⟨R ++ [a], by rw [List.append_assoc]⟩
  · rcases List.mem_append.mp hx with hx | hx
    · exact b.fr x hx
    · have : x = a := by simpa using hx
      subst this
      exact .inr ha0
  · rw [List.nodup_append]
    exact ⟨s1.nd, by simp, fun x hx y hy => by
      have : y = a := by simpa using hy
      subst this
      exact fun z => haL (z ▸ hx)⟩
  · rw [List.getElem?_append] at e
    split at e
    · rename_i hl
      obtain ⟨f0, ws, xs, e1, e2, e3⟩ := s1.st n x e
      refine ⟨f0, ws, xs, ?_, e2, e3⟩
      rw [List.getElem?_append_left (by rw [← s1.len]; exact hl)]
      exact e1
    · rename_i hl
      have hn : n - L.length = 0 := by
        have := (List.getElem?_eq_some_iff.mp e).1
        simp at this
        omega
      rw [hn] at e
      cases e
      refine ⟨hf, vs, ds, ?_, hh, hd⟩
      rw [List.getElem?_append_right (by rw [← s1.len]; omega), ← s1.len, hn]
      rfl
theorem as_asgN {i : Nat} (h : Ev K ρ S te (.nl ds) S1) (k : A.nx (ρ.set i (.mu S1.length)) (S1 ++ [ds])) : As K n0 (tAsg te (gName i)) A ρ S := fun L0 F0 H0 σ F H L b e s DE c =>
  h σ F H L e s _ fun v F1 H1 st s1 r1 => by
    obtain ⟨a, rfl, b2, s2⟩ := own_new b st s s1 r1
    refine c.nx _ F1 H1 (L ++ [a]) _ _ b2 ((e.mono (R := [a]) st.fx).set i (e := .mu S1.length) ⟨a, rfl, ?_⟩) s2 k
    rw [← s1.len, List.getElem?_append_right (Nat.le_refl _), Nat.sub_self]
    rfl
theorem as_if {b : Bool} (h : EvT K ρ S t b S1) (h1 : b = true → As K n0 tu A ρ S1) (h2 : b = false → As K n0 tw A ρ S1) : As K n0 (tIfS t tu tw) A ρ S := fun L0 F0 H0 σ F H L bs e s DE c =>
  h σ F H L e s _ fun F1 H1 st s1 => by
    cases b with
    | true =>
      show tu DE σ H1
      exact h1 rfl L0 F0 H0 σ F1 H1 L (bs.step st) (e.mono0 st.fx) s1 DE c
    | false =>
      show tw DE σ H1
      exact h2 rfl L0 F0 H0 σ F1 H1 L (bs.step st) (e.mono0 st.fx) s1 DE c
theorem as_ret (h : Ev K ρ S te r S1) (hm : notMu r = true) (k : A.rt r S1) : As K n0 (tRet te) A ρ S := fun L0 F0 H0 σ F H L b e s DE c =>
  h σ F H L e s _ fun v F1 H1 st s1 r1 => by
    refine c.rt v F1 H1 L r S1 hm (b.step st) s1 ?_ k
    cases r with
    | v d => exact r1
    | nl ds =>
      obtain ⟨a, vs, e, h0, h1, h2, h3⟩ := r1
      exact ⟨a, vs, e, b.stp.fresh h0, h1, h2, h3⟩
    | mu n => cases hm
/-- return of a list of one's own -/
theorem as_retM {n : Nat} (h : Ev K ρ S te (.mu n) S1) (hn : n0 ≤ n) (hd : S1[n]? = some ds) (k : A.rt (.nl ds) S1) : As K n0 (tRet te) A ρ S := fun L0 F0 H0 σ F H L b e s DE c =>
  h σ F H L e s _ fun v F1 H1 st s1 r1 => by
    obtain ⟨a, rfl, ha⟩ := r1
    obtain ⟨f0, ws, xs, e1, e2, e3⟩ := s1.st n a ha
    rw [hd] at e1
    cases e1
    refine c.rt _ F1 H1 L (.nl ds) S1 rfl (b.step st) s1 ⟨a, ws, rfl, ?_, f0, e2, e3⟩ k
    rcases b.fr a (List.mem_of_getElem? ha) with q | q
    · exfalso
      obtain ⟨R, rfl⟩ := b.pre
      obtain ⟨m, hm⟩ := List.getElem?_of_mem q
      have h1 := (List.getElem?_eq_some_iff.mp hm)
      obtain ⟨hl, _⟩ := h1
      have hm' : (L0 ++ R)[m]? = some a := by rw [List.getElem?_append_left hl]; exact hm
      have h3 := List.getElem?_eq_some_iff.mp hm'
      have h4 := List.getElem?_eq_some_iff.mp ha
      have : m = n := (List.getElem_inj s1.nd).mp (h3.2.trans h4.2.symm)
      have := b.n
      omega
    · exact q
theorem as_retN (k : A.rt (.v .none) S) : As K n0 tRetN A ρ S := fun L0 F0 H0 σ F H L b e s DE c => c.rt _ F H L (.v .none) S rfl b s (show Dp K F .non .none from .non) k
theorem as_drop (h : Ev K ρ S te r S1) (k : A.nx ρ S1) : As K n0 (tDrop te) A ρ S := fun L0 F0 H0 σ F H L b e s DE c =>
  h σ F H L e s _ fun v F1 H1 st s1 r1 => c.nx _ F1 H1 L _ S1 (b.step st) (e.mono0 st.fx) s1 k
/-- a written list is stored to -/
theorem put_lst {L0 L : List Addr} {F0 H0 F H : Hp} {n : Nat} {a : Addr} {vs : List V} (b : Bs n0 L0 F0 H0 L F H) (s : SOk K F H L S) (ha : L[n]? = some a) (hd : DpAll K F vs ds) : Bs n0 L0 F0 H0 L F (upd H a (.lst vs)) ∧ SOk K F (upd H a (.lst vs)) L (S.set n ds) := by
  obtain ⟨f0, ws, xs, e1, e2, e3⟩ := s.st n a ha
  have hl : n < S.length := (List.getElem?_eq_some_iff.mp e1).1
  have st : Stp L F H F (upd H a (.lst vs)) := ⟨Same.refl _, fun x o e nx => by
    rw [upd_ne (fun (z : x = a) => nx (by rw [z]; exact List.mem_of_getElem? ha))]
    exact e, fun x hx => by
      by_cases q : x = a
      · rw [q, upd_same]; exact nofun
      · rw [upd_ne q]; exact hx, fun x hx h => h⟩
  refine ⟨b.step st, ⟨fun x o e => ?_, by simp [s.len], s.nd, fun m x e => ?_⟩⟩
  · rw [upd_ne (ne_of_none e f0)]
    exact s.sub _ _ e
  · by_cases hnm : n = m
    · subst hnm
      rw [ha] at e
      cases e
      exact ⟨f0, vs, ds, List.getElem?_set_self hl, upd_same, hd⟩
    · obtain ⟨g0, ws', xs', k1, k2, k3⟩ := s.st m x e
      have hxa : x ≠ a := fun z => by
        subst z
        have h1 := List.getElem?_eq_some_iff.mp e
        have h2 := List.getElem?_eq_some_iff.mp ha
        exact hnm ((List.getElem_inj s.nd).mp (h2.2.trans h1.2.symm))
      exact ⟨g0, ws', xs', by rw [List.getElem?_set_ne hnm]; exact k1, by rw [upd_ne hxa]; exact k2, k3⟩
theorem as_app {n : Nat} (ha : Ev K ρ S ta (.mu n) S1) (h : Ev K ρ S1 te (.v d) S2) (hd : S2[n]? = some ds) (hz : ds.length < 100000) (k : A.nx ρ (S2.set n (ds ++ [d]))) : As K n0 (tDrop (tBM K "list" rAppend ta (tCons te tNil))) A ρ S := fun L0 F0 H0 σ F H L b e s DE c =>
  ha σ F H L e s _ fun v F1 H1 st1 s1 r1 => by
    obtain ⟨a, rfl, ha⟩ := r1
    obtain ⟨_, ws1, xs1, _, e12, _⟩ := s1.st n a ha
    refine ⟨.inl ⟨rfl, ws1, .inl (.inl e12)⟩, h σ F1 H1 L (e.mono0 st1.fx) s1 _ fun w F2 H2 st2 s2 r2 => ?_⟩
    obtain ⟨f0, ws, xs, e1, e2, e3⟩ := s2.st n a ha
    rw [hd] at e1
    cases e1
    obtain ⟨b3, s3⟩ := put_lst (b.step (st1.trans st2)) s2 ha (dpa_app e3 (.cons r2 .nil))
    exact ⟨a, ws, w, rfl, rfl, e2, by rw [dpa_len e3]; exact small5' hz, c.nx _ F2 _ L _ _ b3 (e.mono0 (st1.trans st2).fx) s3 k⟩
theorem as_appN {n : Nat} (ha : Ev K ρ S ta (.mu n) S1) (h : Ev K ρ S1 te (.nl es) S2) (hd : S2[n]? = some ds) (hz : ds.length < 100000) (k : A.nx ρ (S2.set n (ds ++ [.list es]))) : As K n0 (tDrop (tBM K "list" rAppend ta (tCons te tNil))) A ρ S := as_app ha (ev_fr h) hd hz k
theorem ixN_nat {n j : Nat} (hj : j < n) : ixN n (j : Int) = some j := by
  unfold ixN
  rw [if_pos (by omega), if_pos (by omega)]
  simp
theorem as_setI {n : Nat} {i : Int} {j : Nat} (h : Ev K ρ S te (.v d) S1) (ho : Ev K ρ S1 ta (.mu n) S2) (hi : Ev K ρ S2 tb (.v (.int i)) S3) (hd : S3[n]? = some ds) (hj : ixN ds.length i = some j) (k : A.nx ρ (S3.set n (ds.set j d))) : As K n0 (tAsg te (gSub ta tb rSetL)) A ρ S := fun L0 F0 H0 σ F H L b e s DE c =>
  h σ F H L e s _ fun v F1 H1 st1 s1 r1 => ho σ F1 H1 L (e.mono0 st1.fx) s1 _ fun w F2 H2 st2 s2 r2 => by
    obtain ⟨a, rfl, ha⟩ := r2
    refine hi σ F2 H2 L (e.mono0 (st1.trans st2).fx) s2 _ fun y F3 H3 st3 s3 r3 => ?_
    cases r3
    obtain ⟨f0, ws, xs, e1, e2, e3⟩ := s3.st n a ha
    rw [hd] at e1
    cases e1
    obtain ⟨b4, s4⟩ := put_lst (b.step ((st1.trans st2).trans st3)) s3 ha (dpa_set j e3 (dp_mono (st2.trans st3).fx _ _ r1))
    exact ⟨a, ws, i, j, rfl, rfl, e2, by rw [dpa_len e3]; exact hj, c.nx _ F3 _ L _ _ b4 (e.mono0 ((st1.trans st2).trans st3).fx) s4 k⟩
theorem as_aug {i : Nat} {ff : Int → Int → Int} {x y : Int} (hx : ρ[i]? = some (.dt (.int x))) (h : Ev K ρ S te (.v (.int y)) S1) (k : A.nx (ρ.set i (.dt (.int (ff x y)))) S1) : As K n0 (tAug i te (ipI ff)) A ρ S := fun L0 F0 H0 σ F H L b e s DE c => by
  obtain ⟨o, h1, v, rfl, h3⟩ := e i _ hx
  cases h3
  refine ⟨_, h1, h σ F H L e s _ fun w F1 H1 st s1 r1 => ?_⟩
  cases r1
  exact ⟨x, y, rfl, rfl, c.nx _ F1 H1 L _ S1 (b.step st) ((e.mono0 st.fx).set i (e := .dt (.int (ff x y))) ⟨_, rfl, .int _⟩) s1 k⟩
end
end DL

namespace DL
open PySem PySem.Spec PyProof.Rows L2

/-! ### what is walked: J gives ds, as long as chk holds of the written lists -/
structure JOk (K : PySem.W.Frag) (F : Hp) (L : List Addr) (J : It) (ds : List D) (chk : Sto → Prop) : Prop where
  go : ∀ F2 H2 R S2 (i : Nat), Same F F2 → SOk K F2 H2 (L ++ R) S2 → chk S2 → i < ds.length → J.go i H2 ∧ ∀ x H', J.yld i H2 x H' → ∃ F3 d, Stp (L ++ R) F2 H2 F3 H' ∧ SOk K F3 H' (L ++ R) S2 ∧ ds[i]? = some d ∧ Dp K F3 x d
  stop : ∀ F2 H2 R S2, Same F F2 → SOk K F2 H2 (L ++ R) S2 → chk S2 → J.stop ds.length H2
def Wk (K : PySem.W.Frag) (ρ : Rho) (S : Sto) (wi : TI) (ds : List D) (chk : Sto → Prop) (S1 : Sto) : Prop := ∀ σ F H L, EOk K F L σ ρ → SOk K F H L S → ∀ R : It → Hp → Prop, (∀ F' H' J, Stp L F H F' H' → SOk K F' H' L S1 → JOk K F' L J ds chk → R J H') → wi σ H R
/-- a list or a tuple -/
def iSeq (K : PySem.W.Frag) (tl : TE) : TI := fun σ H R => tl σ H fun x H1 => ∃ a, x = .ref a ∧ (((∃ xs, SqL K H1 a xs) ∧ R (Itl K a) H1) ∨ ((∃ xs, SqT K H1 a xs) ∧ R (Itt K a) H1))
theorem pi_seq {X : Cx} {tg l : Expr} {tl : TE} (hl : PE X l tl) : PI X tg l (iSeq X.K tl) := by
  refine ⟨fun pins s σ H R I h => ?_⟩
  refine thn (hl.run pins s σ H _ I h) fun v s1 ⟨x, H1, I1, r1, q1⟩ => ?_
  obtain ⟨a, e, q⟩ := q1
  subst e
  cases r1
  rcases q with ⟨⟨xs, hq⟩, q⟩ | ⟨⟨xs, hq⟩, q⟩
  · obtain ⟨its, rv, p, hz⟩ := I1.list hq
    refine wpAny_pyIter_list p.isList ?_
    refine ⟨s1.heap.objs.size, [s1.heap.objs.size], _, _, H1, rfl, I1.kept (t' := s1.toks) fun b o e => Heap.get?_push_of_some _ e, turn_list a _, ⟨_, Heap.get?_push_size _ rfl, rfl, rfl⟩, fun b hb => ?_, q⟩
    have e : b = s1.heap.objs.size := by simpa using hb
    subst e
    exact I1.fpOk (Nat.le_refl _) (I1.hok.fresh (Nat.le_refl _))
  · obtain ⟨its, rv, p, hz⟩ := I1.tuple hq
    refine wpAny_pyIter_tuple (show s1.heap.IsTuple a its.toArray from p) ?_
    refine ⟨s1.heap.objs.size, [s1.heap.objs.size], _, _, H1, rfl, I1.kept (t' := s1.toks) fun b o e => Heap.get?_push_of_some _ e, turn_tuple a _, ⟨_, Heap.get?_push_size _ rfl, rfl, rfl⟩, fun b hb => ?_, q⟩
    have e : b = s1.heap.objs.size := by simpa using hb
    subst e
    exact I1.fpOk (Nat.le_refl _) (I1.hok.fresh (Nat.le_refl _))
section
variable {K : PySem.W.Frag} {n0 : Nat} {A B : AE} {ρ : Rho} {S S1 S2 S3 : Sto} {ta tb tc te : TE} {t u : TT} {tr : TA} {d e f : D} {r : Rs} {ds es : List D} {ts tu tw : TS} {g : TG} {wi : TI} {chk : Sto → Prop}
theorem jok_l {F : Hp} {L : List Addr} {a : Addr} {vs : List V} (h : ∀ F2 H2 R S2, Same F F2 → SOk K F2 H2 (L ++ R) S2 → chk S2 → ∃ vs, SqL K H2 a vs ∧ DpAll K F2 vs ds) : JOk K F L (Itl K a) ds chk where
  go := fun F2 H2 R S2 i sm s c hi => by
    obtain ⟨vs, h1, h2⟩ := h F2 H2 R S2 sm s c
    obtain ⟨v, hv, hd⟩ := dpa_get h2 (List.getElem?_eq_getElem hi)
    exact ⟨⟨vs, v, h1, hv⟩, fun x H' y => by
      obtain ⟨rfl, y⟩ := y
      have := y vs h1
      rw [hv] at this
      cases this
      exact ⟨F2, _, .refl _ _ _, s, List.getElem?_eq_getElem hi, hd⟩⟩
  stop := fun F2 H2 R S2 sm s c => by
    obtain ⟨vs, h1, h2⟩ := h F2 H2 R S2 sm s c
    exact ⟨vs, h1, by rw [dpa_len h2]; exact Nat.le_refl _⟩
theorem jok_t {F : Hp} {L : List Addr} {a : Addr} {vs : List V} (h : ∀ F2 H2 R S2, Same F F2 → SOk K F2 H2 (L ++ R) S2 → chk S2 → ∃ vs, SqT K H2 a vs ∧ DpAll K F2 vs ds) : JOk K F L (Itt K a) ds chk where
  go := fun F2 H2 R S2 i sm s c hi => by
    obtain ⟨vs, h1, h2⟩ := h F2 H2 R S2 sm s c
    obtain ⟨v, hv, hd⟩ := dpa_get h2 (List.getElem?_eq_getElem hi)
    exact ⟨⟨vs, v, h1, hv⟩, fun x H' y => by
      obtain ⟨rfl, y⟩ := y
      have := y vs h1
      rw [hv] at this
      cases this
      exact ⟨F2, _, .refl _ _ _, s, List.getElem?_eq_getElem hi, hd⟩⟩
  stop := fun F2 H2 R S2 sm s c => by
    obtain ⟨vs, h1, h2⟩ := h F2 H2 R S2 sm s c
    exact ⟨vs, h1, by rw [dpa_len h2]; exact Nat.le_refl _⟩
theorem wk_list (h : Ev K ρ S te (.v (.list ds)) S1) : Wk K ρ S (iSeq K te) ds (fun _ => True) S1 := fun σ F H L E s R q => h σ F H L E s _ fun v F1 H1 st s1 r1 => by
  have r1' : Dp K F1 v (.list ds) := r1
  cases r1' with
  | lst h1 h2 =>
    rename_i a xs
    refine ⟨a, rfl, .inl ⟨⟨xs, s1.sub.seq h1⟩, q F1 H1 _ st s1 (jok_l (vs := xs) fun F2 H2 R S2 sm s2 _ => ⟨xs, s2.sub.seq (sm.seq h1), dpa_mono sm _ _ h2⟩)⟩⟩
theorem wk_tup (h : Ev K ρ S te (.v (.tuple ds)) S1) : Wk K ρ S (iSeq K te) ds (fun _ => True) S1 := fun σ F H L E s R q => h σ F H L E s _ fun v F1 H1 st s1 r1 => by
  have r1' : Dp K F1 v (.tuple ds) := r1
  cases r1' with
  | tup h1 h2 =>
    rename_i a xs
    refine ⟨a, rfl, .inr ⟨⟨xs, sqt_mono s1.sub h1⟩, q F1 H1 _ st s1 (jok_t (vs := xs) fun F2 H2 R S2 sm s2 _ => ⟨xs, sqt_mono s2.sub (sqt_mono sm h1), dpa_mono sm _ _ h2⟩)⟩⟩
theorem wk_nl (h : Ev K ρ S te (.nl ds) S1) : Wk K ρ S (iSeq K te) ds (fun _ => True) S1 := wk_list (ev_fr h)
theorem wk_mu {n : Nat} (h : Ev K ρ S te (.mu n) S1) (hd : S1[n]? = some ds) : Wk K ρ S (iSeq K te) ds (fun S' => S'[n]? = some ds) S1 := fun σ F H L E s R q => h σ F H L E s _ fun v F1 H1 st s1 r1 => by
  obtain ⟨a, rfl, ha⟩ := r1
  obtain ⟨f0, ws, xs, e1, e2, e3⟩ := s1.st n a ha
  refine ⟨a, rfl, .inl ⟨⟨ws, .inl (.inl e2)⟩, q F1 H1 _ st s1 (jok_l (vs := ws) fun F2 H2 R S2 sm s2 c => ?_)⟩⟩
  obtain ⟨_, ws', xs', k1, k2, k3⟩ := s2.st n a (by rw [List.getElem?_append_left (List.getElem?_eq_some_iff.mp ha).1]; exact ha)
  rw [c] at k1
  cases k1
  exact ⟨ws', .inl (.inl k2), k3⟩
def rngD (lo : Int) (n : Nat) : List D := (List.range n).map fun (i : Nat) => .int (lo + (i : Int))
theorem rngD_len {lo : Int} {n : Nat} : (rngD lo n).length = n := by simp [rngD]
theorem rngD_get {lo : Int} {n i : Nat} (h : i < n) : (rngD lo n)[i]? = some (.int (lo + (i : Int))) := by
  simp [rngD, h]
theorem jok_r {F : Hp} {L : List Addr} {lo : Int} {n : Nat} : JOk K F L (Itr lo n) (rngD lo n) (fun _ => True) where
  go := fun F2 H2 R S2 i sm s _ hi => by
    rw [rngD_len] at hi
    exact ⟨hi, fun x H' y => by
      obtain ⟨rfl, rfl⟩ := y
      exact ⟨F2, _, .refl _ _ _, s, rngD_get hi, .int _⟩⟩
  stop := fun F2 H2 R S2 sm s _ => by
    rw [rngD_len]
    exact Nat.le_refl n
theorem wk_r1 {n : Int} (h : EvD K ρ S tr [.int n] S1) (hn : -4611686018427387904 ≤ n ∧ n < 4611686018427387904) : Wk K ρ S (iRng1 tr) (rngD 0 n.toNat) (fun _ => True) S1 := fun σ F H L E s R q => h σ F H L E s _ fun vs F1 H1 st s1 r1 => by
  obtain ⟨v, rfl, a⟩ := dpa1 r1
  cases a
  exact ⟨n, rfl, by have := hn.1; omega, by have := hn.2; omega, q F1 H1 _ st s1 jok_r⟩
theorem wk_r2 {lo n : Int} (h : EvD K ρ S tr [.int lo, .int n] S1) (hl : -4611686018427387904 ≤ lo ∧ lo < 4611686018427387904) (hn : -4611686018427387904 ≤ n ∧ n < 4611686018427387904) : Wk K ρ S (iRng2 tr) (rngD lo (n - lo).toNat) (fun _ => True) S1 := fun σ F H L E s R q => h σ F H L E s _ fun vs F1 H1 st s1 r1 => by
  obtain ⟨v, w, rfl, a, b⟩ := dpa2 r1
  cases a; cases b
  exact ⟨lo, n, rfl, ⟨by omega, by omega, by omega, by omega⟩, q F1 H1 _ st s1 jok_r⟩

/-! ### targets -/
def Tg (K : PySem.W.Frag) (g : TG) (d : D) (b : Rho → Rho) : Prop := ∀ v σ F H L ρ (Q : L2.St → Hp → Prop), Same F H → EOk K F L σ ρ → Dp K F v d → (∀ σ', EOk K F L σ' (b ρ) → Q σ' H) → g v σ H Q
def TgS (K : PySem.W.Frag) (g : TGs) (ds : List D) (b : Rho → Rho) : Prop := ∀ vs σ F H L ρ (Q : L2.St → Hp → Prop), Same F H → EOk K F L σ ρ → DpAll K F vs ds → (∀ σ', EOk K F L σ' (b ρ) → Q σ' H) → g vs σ H Q
theorem tg_name {i : Nat} : Tg K (gName i) d (fun ρ => ρ.set i (.dt d)) := fun v σ F H L ρ Q _ E h q => q _ (E.set i (e := .dt d) ⟨v, rfl, h⟩)
theorem tgs_nil : TgS K gNil [] (fun ρ => ρ) := fun vs σ F H L ρ Q _ E h q => by
  cases h
  exact ⟨rfl, q σ E⟩
theorem tgs_cons {gs : TGs} {b c : Rho → Rho} (h1 : Tg K g d b) (h2 : TgS K gs ds c) : TgS K (gCons g gs) (d :: ds) (fun ρ => c (b ρ)) := fun vs σ F H L ρ Q sm E h q => by
  cases h with
  | cons a r => exact ⟨_, _, rfl, h1 _ σ F H L ρ _ sm E a fun σ' E' => h2 _ σ' F H L _ Q sm E' r q⟩
theorem tg_tup {gs : TGs} {n : Nat} {b : Rho → Rho} (h : TgS K gs ds b) (hn : ds.length = n) : Tg K (gTup K n gs) (.tuple ds) b := fun v σ F H L ρ Q sm E hd q => by
  cases hd with
  | tup h1 h2 => exact ⟨_, _, rfl, sqt_mono sm h1, by rw [dpa_len h2]; exact hn, h _ σ F H L ρ Q sm E h2 q⟩
def bN (i : Nat) (d : D) (ρ : Rho) : Rho := ρ.set i (.dt d)
def bT2 (i j : Nat) (d : D) (ρ : Rho) : Rho := match d with
  | .tuple [a, b] => (ρ.set i (.dt a)).set j (.dt b)
  | _ => ρ
def bT3 (i j k : Nat) (d : D) (ρ : Rho) : Rho := match d with
  | .tuple [a, b, c] => ((ρ.set i (.dt a)).set j (.dt b)).set k (.dt c)
  | _ => ρ
def isT2 : D → Bool
  | .tuple [_, _] => true
  | _ => false
theorem tg_bN {i : Nat} : Tg K (gName i) d (bN i d) := tg_name
theorem tg_bT2 {i j : Nat} (h : isT2 d = true) : Tg K (gTup K 2 (gCons (gName i) (gCons (gName j) gNil))) d (bT2 i j d) := by
  unfold isT2 at h
  split at h
  · rename_i a b
    show Tg K _ _ (fun ρ => (ρ.set i (.dt a)).set j (.dt b))
    exact tg_tup (tgs_cons tg_name (tgs_cons tg_name tgs_nil)) rfl
  · cases h
/-- a, b = e -/
theorem as_asgT {b : Rho → Rho} (h : Ev K ρ S te (.v d) S1) (hg : Tg K g d b) (k : A.nx (b ρ) S1) : As K n0 (tAsg te g) A ρ S := fun L0 F0 H0 σ F H L bs e s DE c =>
  h σ F H L e s _ fun v F1 H1 st s1 r1 => hg v σ F1 H1 L ρ _ s1.sub (e.mono0 st.fx) r1 fun σ' E' => c.nx σ' F1 H1 L _ S1 (bs.step st) E' s1 k

/-! ### for -/
def Loop (K : PySem.W.Frag) (n0 : Nat) (tb : TS) (bind : D → Rho → Rho) (A : AE) (chk : Sto → Prop) : List D → Rho → Sto → Prop
  | [], ρ, S => A.nx ρ S
  | d :: ds, ρ, S => As K n0 tb ⟨fun ρ' S' => chk S' ∧ Loop K n0 tb bind A chk ds ρ' S', A.rt, A.nx, fun ρ' S' => chk S' ∧ Loop K n0 tb bind A chk ds ρ' S'⟩ (bind d ρ) S
theorem as_for {bind : D → Rho → Rho} {tb : TS} (hw : Wk K ρ S wi ds chk S1) (hc : chk S1) (hg : ∀ d ∈ ds, Tg K g d (bind d)) (h : Loop K S1.length tb bind A chk ds ρ S1) : As K n0 (tFor wi g tb) A ρ S := by
  intro L0 F0 H0 σ F H L bs e s DE c
  refine hw σ F H L e s _ fun F1 H1 J st s1 hJ => ?_
  have bs1 := bs.step st
  -- what is asked behind the loop, from the loop's own beginning
  have up : ∀ {L' F' H'}, Bs S1.length L F1 H1 L' F' H' → Bs n0 L0 F0 H0 L' F' H' := fun {L' F' H'} b => ⟨bs.n, bs1.stp.trans' b.stp bs1.fr, by
    obtain ⟨R, rfl⟩ := b.pre
    obtain ⟨R0, rfl⟩ := bs.pre
    exact ⟨R0 ++ R, by rw [List.append_assoc]⟩, fun a ha => by
    rcases b.fr a ha with q | q
    · exact bs1.fr a q
    · exact .inr (bs1.stp.fresh q)⟩
  have c1 : Cov K S1.length A L F1 H1 DE := ⟨fun σ F H L ρ S b => c.nx σ F H L ρ S (up b), fun σ F H L ρ S b => c.bk σ F H L ρ S (up b), fun σ F H L ρ S b => c.ct σ F H L ρ S (up b), fun v F H L' r S m b s' r1 => c.rt v F H L' r S m (up b) s' (by
    cases r with
    | v d => exact r1
    | nl ds =>
      obtain ⟨a, vs, e, h0, h1, h2, h3⟩ := r1
      exact ⟨a, vs, e, bs1.stp.fresh h0, h1, h2, h3⟩
    | mu n => cases m)⟩
  have b0 : Bs S1.length L F1 H1 L F1 H1 := ⟨s1.len, .refl _ _ _, ⟨[], by simp⟩, fun a ha => .inl ha⟩
  refine ⟨fun i m σ' H' => m = ds.length - i ∧ i ≤ ds.length ∧ ∃ F' L' ρ' S', Bs S1.length L F1 H1 L' F' H' ∧ EOk K F' L' σ' ρ' ∧ SOk K F' H' L' S' ∧ chk S' ∧ Loop K S1.length tb bind A chk (ds.drop i) ρ' S', ⟨_, rfl, Nat.zero_le _, F1, L, ρ, S1, b0, e.mono0 st.fx, s1, hc, h⟩, ?_⟩
  rintro i m σ' H' ⟨rfl, hi, F', L', ρ', S', b', e', s', c', lp⟩
  obtain ⟨R, rfl⟩ := b'.pre
  by_cases hlt : i < ds.length
  · obtain ⟨go, yl⟩ := hJ.go F' H' R S' i b'.stp.fx s' c' hlt
    rw [List.drop_eq_getElem_cons hlt] at lp
    refine .inr ⟨go, fun σ2 H2 => ∃ F2 L2 ρ2 S2, Bs S1.length L F1 H1 L2 F2 H2 ∧ EOk K F2 L2 σ2 ρ2 ∧ SOk K F2 H2 L2 S2 ∧ chk S2 ∧ Loop K S1.length tb bind A chk (ds.drop (i + 1)) ρ2 S2, fun σ2 H2 n2 => ⟨_, by omega, rfl, hlt, n2⟩, fun x H2 y => ?_⟩
    obtain ⟨F3, d, st3, s3, hd, hx⟩ := yl x H2 y
    rw [List.getElem?_eq_getElem hlt] at hd
    cases hd
    refine hg _ (List.getElem_mem hlt) x σ' F3 H2 (L ++ R) ρ' _ s3.sub (e'.mono0 st3.fx) hx fun σ3 e3 => ?_
    exact lp L F1 H1 σ3 F3 H2 (L ++ R) (b'.step st3) e3 s3 _ ⟨fun σ F H L ρ S b e s x => ⟨F, L, ρ, S, b, e, s, x.1, x.2⟩, fun σ F H L ρ S b e s x => c1.nx σ F H L ρ S b e s x, fun σ F H L ρ S b e s x => ⟨F, L, ρ, S, b, e, s, x.1, x.2⟩, c1.rt⟩
  · have ei : i = ds.length := by omega
    subst ei
    rw [List.drop_length] at lp
    exact .inl ⟨hJ.stop F' H' R S' b'.stp.fx s' c', c1.nx σ' F' H' (L ++ R) ρ' S' b' e' s' lp⟩
/-- the loop by a word of the turn -/
theorem loop_inv {bind : D → Rho → Rho} {tb : TS} (I : Nat → Rho → Sto → Prop) : ∀ (ds : List D) (k : Nat) (ρ : Rho) (S : Sto), (∀ i d ρ S, ds[i]? = some d → I (k + i) ρ S → As K n0 tb ⟨fun ρ' S' => chk S' ∧ I (k + i + 1) ρ' S', A.rt, A.nx, fun ρ' S' => chk S' ∧ I (k + i + 1) ρ' S'⟩ (bind d ρ) S) → (∀ ρ S, I (k + ds.length) ρ S → A.nx ρ S) → I k ρ S → Loop K n0 tb bind A chk ds ρ S
  | [], k, ρ, S, _, hd, h => hd ρ S h
  | d :: ds, k, ρ, S, hs, hd, h => by
    have ih : ∀ ρ S, I (k + 1) ρ S → Loop K n0 tb bind A chk ds ρ S := fun ρ S h' => loop_inv I ds (k + 1) ρ S (fun i d ρ S hi hI => by
      have := hs (i + 1) d ρ S hi (by rw [← Nat.add_assoc, Nat.add_right_comm]; exact hI)
      rw [← Nat.add_assoc, Nat.add_right_comm k i 1] at this
      exact this) (fun ρ S hI => hd ρ S (by
        rw [List.length_cons, ← Nat.add_assoc, Nat.add_right_comm]
        exact hI)) h'
    exact (hs 0 d ρ S rfl h).mono (fun ρ S h => ⟨h.1, ih ρ S h.2⟩) (fun _ _ h => h) (fun _ _ h => h) (fun ρ S h => ⟨h.1, ih ρ S h.2⟩)

/-! ### while -/
theorem as_while {W : Nat → Rho → Sto → Prop} {tb : TS} (m0 : Nat) (h0 : W m0 ρ S) (hs : ∀ m ρ' S', S'.length = S.length → W m ρ' S' → ∃ b S2, EvT K ρ' S' t b S2 ∧ (b = true → As K S.length tb ⟨fun ρ2 S3 => ∃ m', m' < m ∧ S3.length = S.length ∧ W m' ρ2 S3, A.rt, A.nx, fun ρ2 S3 => ∃ m', m' < m ∧ S3.length = S.length ∧ W m' ρ2 S3⟩ ρ' S2) ∧ (b = false → A.nx ρ' S2)) : As K n0 (tWhile t tb) A ρ S := by
  intro L0 F0 H0 σ F H L bs e s DE c
  have up : ∀ {L' F' H'}, Bs S.length L F H L' F' H' → Bs n0 L0 F0 H0 L' F' H' := fun {L' F' H'} b => ⟨bs.n, bs.stp.trans' b.stp bs.fr, by
    obtain ⟨R, rfl⟩ := b.pre
    obtain ⟨R0, rfl⟩ := bs.pre
    exact ⟨R0 ++ R, by rw [List.append_assoc]⟩, fun a ha => by
    rcases b.fr a ha with q | q
    · exact bs.fr a q
    · exact .inr (bs.stp.fresh q)⟩
  have c1 : Cov K S.length A L F H DE := ⟨fun σ F H L ρ S b => c.nx σ F H L ρ S (up b), fun σ F H L ρ S b => c.bk σ F H L ρ S (up b), fun σ F H L ρ S b => c.ct σ F H L ρ S (up b), fun v F H L' r S m b s' r1 => c.rt v F H L' r S m (up b) s' (by
    cases r with
    | v d => exact r1
    | nl ds =>
      obtain ⟨a, vs, e, h0, h1, h2, h3⟩ := r1
      exact ⟨a, vs, e, bs.stp.fresh h0, h1, h2, h3⟩
    | mu n => cases m)⟩
  have b0 : Bs S.length L F H L F H := ⟨s.len, .refl _ _ _, ⟨[], by simp⟩, fun a ha => .inl ha⟩
  refine ⟨fun m σ' H' => ∃ F' L' ρ' S', Bs S.length L F H L' F' H' ∧ EOk K F' L' σ' ρ' ∧ SOk K F' H' L' S' ∧ S'.length = S.length ∧ W m ρ' S', ⟨m0, F, L, ρ, S, b0, e, s, rfl, h0⟩, ?_⟩
  rintro m σ' H' ⟨F', L', ρ', S', b', e', s', hl, w⟩
  obtain ⟨b, S2, ht, h1, h2⟩ := hs m ρ' S' hl w
  refine ht σ' F' H' L' e' s' _ fun F2 H2 st2 s2 => ?_
  cases b with
  | true =>
    rw [if_pos rfl]
    refine ⟨fun σ3 H3 => ∃ m', m' < m ∧ ∃ F' L' ρ' S', Bs S.length L F H L' F' H3 ∧ EOk K F' L' σ3 ρ' ∧ SOk K F' H3 L' S' ∧ S'.length = S.length ∧ W m' ρ' S', fun σ3 H3 h => h, ?_⟩
    exact h1 rfl L F H σ' F2 H2 L' (b'.step st2) (e'.mono0 st2.fx) s2 _ ⟨fun σ F H L ρ S b e s ⟨m', x, y, z⟩ => ⟨m', x, F, L, ρ, S, b, e, s, y, z⟩, fun σ F H L ρ S b e s x => c1.nx σ F H L ρ S b e s x, fun σ F H L ρ S b e s ⟨m', x, y, z⟩ => ⟨m', x, F, L, ρ, S, b, e, s, y, z⟩, c1.rt⟩
  | false =>
    rw [if_neg Bool.false_ne_true]
    exact c1.nx σ' F2 H2 L' ρ' S2 (b'.step st2) (e'.mono0 st2.fx) s2 (h2 rfl)

/-! ### comprehensions -/
/-- what [e for j in ds if t] gives, and the lists behind -/
def Lc (K : PySem.W.Frag) (ρ : Rho) (tt : TT) (te : TE) (bind : D → Rho → Rho) (chk : Sto → Prop) : List D → Sto → List D → Sto → Prop
  | [], S, out, S' => chk S ∧ out = [] ∧ S' = S
  | d :: ds, S, out, S' => chk S ∧ ∃ b S1, EvT K (bind d ρ) S tt b S1 ∧ ((b = true ∧ ∃ e S2 r out', Ev K (bind d ρ) S1 te r S2 ∧ RsLe r (.v e) ∧ Lc K ρ tt te bind chk ds S2 out' S' ∧ out = e :: out') ∨ (b = false ∧ Lc K ρ tt te bind chk ds S1 out S'))
def wipeR (ρ : Rho) : List Nat → Rho
  | [] => ρ
  | v :: vs => (wipeR ρ vs).set v .un
theorem wipe_ok {F : Hp} {L : List Addr} {σ : L2.St} (E : EOk K F L σ ρ) : ∀ vs : List Nat, EOk K F L (wipe σ vs) (wipeR ρ vs)
  | [] => E
  | v :: vs => (wipe_ok E vs).set v (e := .un) trivial
theorem lc_len {tt : TT} {bind : D → Rho → Rho} : ∀ {ds : List D} {S S' : Sto} {out : List D}, Lc K ρ tt te bind chk ds S out S' → out.length ≤ ds.length
  | [], S, S', out, ⟨_, h, _⟩ => by rw [h]; exact Nat.le_refl _
  | d :: ds, S, S', out, ⟨_, b, S1, _, h⟩ => by
    rcases h with ⟨_, e, S2, r, out', _, _, h, rfl⟩ | ⟨_, h⟩
    · have := lc_len h
      simp only [List.length_cons]
      omega
    · have := lc_len h
      simp only [List.length_cons]
      omega
theorem wipe_get (j : Nat) : ∀ (ws : List Nat) (τ : L2.St), (wipe τ ws)[j]? = if j ∈ ws ∧ j < τ.length then some none else τ[j]? := by
  intro ws
  induction ws with
  | nil => intro τ; simp [wipe]
  | cons w ws ih =>
    intro τ
    unfold wipe
    by_cases hw : w = j
    · subst hw
      by_cases hl : w < τ.length
      · rw [List.getElem?_set_self (by rw [wipe_length]; exact hl)]
        simp [hl]
      · rw [List.getElem?_eq_none (by simp [wipe_length]; omega), List.getElem?_eq_none (by omega)]
        simp [hl]
    · rw [List.getElem?_set_ne hw, ih]
      simp [Ne.symm hw]
theorem wipe_wipe (σ : L2.St) (vs : List Nat) : wipe (wipe σ vs) vs = wipe σ vs := by
  apply List.ext_getElem?
  intro i
  rw [wipe_get, wipe_length, wipe_get]
  by_cases h : i ∈ vs ∧ i < σ.length <;> simp [h]
/-- a target that stores only in the slots vs -/
def TgW (g : TG) (vs : List Nat) : Prop := ∀ v σ H (Q Q' : L2.St → Hp → Prop), g v σ H Q → (∀ σ2 H2, Q σ2 H2 → wipe σ2 vs = wipe σ vs → Q' σ2 H2) → g v σ H Q'
def TgsW (g : TGs) (vs : List Nat) : Prop := ∀ v σ H (Q Q' : L2.St → Hp → Prop), g v σ H Q → (∀ σ2 H2, Q σ2 H2 → wipe σ2 vs = wipe σ vs → Q' σ2 H2) → g v σ H Q'
theorem tgw_name {i : Nat} {vs : List Nat} (hi : i ∈ vs) : TgW (gName i) vs := fun v σ H Q Q' q h => h _ _ q (by
  apply List.ext_getElem?
  intro j
  rw [wipe_get, wipe_get, List.length_set]
  by_cases h : j ∈ vs ∧ j < σ.length
  · simp [h]
  · rw [if_neg h, if_neg h]
    by_cases hij : i = j
    · subst hij
      have : ¬ i < σ.length := fun z => h ⟨hi, z⟩
      rw [List.getElem?_eq_none (by simp; omega), List.getElem?_eq_none (by omega)]
    · rw [List.getElem?_set_ne hij])
theorem tgsw_nil {vs : List Nat} : TgsW gNil vs := fun vss σ H Q Q' q h => ⟨q.1, h _ _ q.2 rfl⟩
theorem tgsw_cons {gs : TGs} {vs : List Nat} (h1 : TgW g vs) (h2 : TgsW gs vs) : TgsW (gCons g gs) vs := fun vss σ H Q Q' q h => by
  obtain ⟨v, r, rfl, q⟩ := q
  exact ⟨v, r, rfl, h1 v σ H _ _ q fun σ2 H2 q2 e => h2 r σ2 H2 _ _ q2 fun σ3 H3 q3 e3 => h _ _ q3 (e3.trans e)⟩
theorem tgw_tup {gs : TGs} {vs : List Nat} {n : Nat} (h1 : TgsW gs vs) : TgW (gTup K n gs) vs := fun v σ H Q Q' q h => by
  obtain ⟨a, xs, rfl, hs, hl, q⟩ := q
  exact ⟨a, xs, rfl, hs, hl, h1 xs σ H _ _ q h⟩
theorem ev_lc {tt : TT} {bind : D → Rho → Rho} {vs : List Nat} {out : List D} (hw : Wk K ρ S wi ds chk S1) (hg : ∀ d ∈ ds, Tg K g d (bind d)) (hv : TgW g vs) (hl : ds.length ≤ 100000) (h : Lc K (wipeR ρ vs) tt te bind chk ds S1 out S2) : Ev K ρ S (tLc wi g tt te vs) (.nl out) S2 := by
  intro σ F H L e s Q q
  refine hw σ F H L e s _ fun F1 H1 J st1 s1 hJ Da hDa => ?_
  have hF1 : F1 Da = none := by
    cases z : F1 Da with
    | none => rfl
    | some o => rw [s1.sub _ _ z] at hDa; cases hDa
  have hDL : ∀ {n : Nat} {a : Addr}, L[n]? = some a → a ≠ Da := fun {n a} hn z => by
    obtain ⟨_, _, _, _, e2, _⟩ := s1.st n a hn
    rw [z, hDa] at e2
    cases e2
  have hDL' : Da ∉ L := fun m => by
    obtain ⟨n, hn⟩ := List.getElem?_of_mem m
    exact hDL hn rfl
  -- storing to Da
  have put : ∀ {F' H' : Hp} {S' : Sto} {xs : List V}, Stp L F1 H1 F' H' → SOk K F' H' L S' → F' Da = none → Stp L F1 H1 F' (upd H' Da (.lst xs)) ∧ SOk K F' (upd H' Da (.lst xs)) L S' := fun {F' H' S' xs} st s' hF => by
    refine ⟨⟨st.fx, fun a o ea na => ?_, fun a ha => ?_, st.nof⟩, ⟨fun a o ea => ?_, s'.len, s'.nd, fun n a ea => ?_⟩⟩
    · rw [upd_ne (ne_of_none ea hDa)]
      exact st.keep a o ea na
    · by_cases z : a = Da
      · rw [z, upd_same]; exact nofun
      · rw [upd_ne z]; exact st.live a ha
    · rw [upd_ne (ne_of_none ea hF)]
      exact s'.sub _ _ ea
    · obtain ⟨f0, ws, es, e1, e2, e3⟩ := s'.st n a ea
      rw [upd_ne (hDL ea)]
      exact ⟨f0, ws, es, e1, e2, e3⟩
  obtain ⟨st0, s0⟩ := put (xs := []) (.refl _ _ _) s1 hF1
  refine ⟨fun i m H' => m = ds.length - i ∧ i ≤ ds.length ∧ ∃ F' S' xs acc rest, Stp L F1 H1 F' H' ∧ SOk K F' H' L S' ∧ F' Da = none ∧ H' Da = some (.lst xs) ∧ DpAll K F' xs acc ∧ acc.length ≤ i ∧ acc ++ rest = out ∧ Lc K (wipeR ρ vs) tt te bind chk (ds.drop i) S' rest S2, ⟨_, rfl, Nat.zero_le _, F1, S1, [], [], out, st0, s0, hF1, upd_same, .nil, Nat.le_refl _, rfl, h⟩, ?_⟩
  rintro i m H' ⟨rfl, hi, F', S', xs, acc, rest, st', s', hF', hD', hx, ha, eo, lc⟩
  have s'' : SOk K F' H' (L ++ []) S' := by rw [List.append_nil]; exact s'
  by_cases hlt : i < ds.length
  · rw [List.drop_eq_getElem_cons hlt] at lc
    obtain ⟨ck, b, S3, ht, lc⟩ := lc
    obtain ⟨go, yl⟩ := hJ.go F' H' [] S' i st'.fx s'' ck hlt
    refine .inr ⟨go, fun H' => i + 1 ≤ ds.length ∧ ∃ F' S' xs acc rest, Stp L F1 H1 F' H' ∧ SOk K F' H' L S' ∧ F' Da = none ∧ H' Da = some (.lst xs) ∧ DpAll K F' xs acc ∧ acc.length ≤ i + 1 ∧ acc ++ rest = out ∧ Lc K (wipeR ρ vs) tt te bind chk (ds.drop (i + 1)) S' rest S2, fun H'' n2 => ⟨_, by omega, rfl, n2⟩, fun x H2 y => ?_⟩
    obtain ⟨F3, d, st3, s3, hd, hxd⟩ := yl x H2 y
    rw [List.append_nil] at st3 s3
    rw [List.getElem?_eq_getElem hlt] at hd
    cases hd
    have e3 : EOk K F3 L (wipe σ vs) (wipeR ρ vs) := wipe_ok (e.mono0 ((st1.trans st').trans st3).fx) vs
    refine hv x _ _ _ _ (hg _ (List.getElem_mem hlt) x _ F3 H2 L _ (fun σ2 H2' => H2' = H2 ∧ EOk K F3 L σ2 (bind ds[i] (wipeR ρ vs))) s3.sub e3 hxd fun σ4 e4 => ⟨rfl, e4⟩) fun σ2 H2' ⟨eH, e4⟩ ew => ?_
    subst eH
    rw [wipe_wipe] at ew
    refine ⟨ew, ht σ2 F3 H2' L e4 s3 _ fun F4 H4 st4 s4 => ?_⟩
    have keepD : ∀ {F5 H5}, Stp L F3 H2' F5 H5 → F5 Da = none ∧ H5 Da = some (.lst xs) ∧ DpAll K F5 xs acc := fun {F5 H5} st5 => by
      have h1 : H2' Da = some (.lst xs) := st3.keep _ _ hD' hDL'
      have f1 : F3 Da = none := st3.nof _ (by rw [hD']; exact nofun) hF'
      exact ⟨st5.nof _ (by rw [h1]; exact nofun) f1, st5.keep _ _ h1 hDL', dpa_mono (st3.fx.trans st5.fx) _ _ hx⟩
    have hmem := lc
    rcases lc with ⟨rfl, e, S4, r, out', he, rl, lc, rfl⟩ | ⟨rfl, lc⟩
    · rw [if_pos rfl]
      refine (ev_dt he rl) σ2 F4 H4 L (e4.mono0 st4.fx) s4 _ fun v F5 H5 st5 s5 r5 => ?_
      obtain ⟨k1, k2, k3⟩ := keepD (st4.trans st5)
      obtain ⟨p1, p2⟩ := put (xs := xs ++ [v]) (((st'.trans st3).trans st4).trans st5) s5 k1
      have hlx : xs.length < sizeLine := by rw [dpa_len hx]; exact small5' (by omega)
      refine ⟨xs, k2, hlx, hlt, F5, S4, _, acc ++ [e], out', p1, p2, k1, upd_same, dpa_app k3 (.cons r5 .nil), by simp; omega, by rw [← eo]; simp, lc⟩
    · rw [if_neg Bool.false_ne_true]
      obtain ⟨k1, k2, k3⟩ := keepD st4
      exact ⟨hlt, F4, S3, xs, acc, rest, (st'.trans st3).trans st4, s4, k1, k2, k3, by omega, eo, lc⟩
  · have ei : i = ds.length := by omega
    subst ei
    rw [List.drop_length] at lc
    obtain ⟨ck, rfl, rfl⟩ := lc
    rw [List.append_nil] at eo
    subst eo
    exact .inl ⟨hJ.stop F' H' [] S2 st'.fx s'' ck, q _ F' H' (st1.trans st') s' ⟨Da, xs, rfl, st1.fresh hDa, hF', hD', hx⟩⟩
/-- elements that change no list -/
theorem lc_pure {tt : TT} {bind : D → Rho → Rho} (hc : chk S) (p : D → Bool) (f : D → D) : ∀ {ds : List D}, (∀ d ∈ ds, EvT K (bind d ρ) S tt (p d) S ∧ (p d = true → ∃ r, Ev K (bind d ρ) S te r S ∧ RsLe r (.v (f d)))) → Lc K ρ tt te bind chk ds S ((ds.filter p).map f) S
  | [], _ => ⟨hc, rfl, rfl⟩
  | d :: ds, h => by
    have ih := lc_pure (ds := ds) hc p f fun d hd => h d (List.mem_cons_of_mem _ hd)
    obtain ⟨h1, h2⟩ := h d List.mem_cons_self
    refine ⟨hc, p d, S, h1, ?_⟩
    cases hp : p d with
    | true =>
      obtain ⟨r, h3, h4⟩ := h2 hp
      exact .inl ⟨rfl, f d, S, r, _, h3, h4, ih, by simp [List.filter_cons, hp]⟩
    | false => exact .inr ⟨rfl, by simpa [List.filter_cons, hp] using ih⟩
theorem et_yes : EvT K ρ S tYes true S := fun σ F H L e s Q q => q F H (.refl _ _ _) s
theorem lc_map {bind : D → Rho → Rho} (hc : chk S) (f : D → D) {ds : List D} (h : ∀ d ∈ ds, ∃ r, Ev K (bind d ρ) S te r S ∧ RsLe r (.v (f d))) : Lc K ρ tYes te bind chk ds S (ds.map f) S := by
  have := lc_pure (tt := tYes) (te := te) (bind := bind) (ρ := ρ) (K := K) hc (fun _ => true) f (ds := ds) fun d hd => ⟨et_yes, fun _ => h d hd⟩
  rw [List.filter_eq_self.mpr (by simp)] at this
  exact this

/-! ### views of a state -/
def View (K : PySem.W.Frag) (n0 : Nat) (ρ : Rho) (S : Sto) (ρ' : Rho) (S' : Sto) : Prop := ∀ L0 F0 H0 σ F H L, Bs n0 L0 F0 H0 L F H → EOk K F L σ ρ → SOk K F H L S → ∃ F' L', Bs n0 L0 F0 H0 L' F' H ∧ EOk K F' L' σ ρ' ∧ SOk K F' H L' S'
theorem as_view {ρ' : Rho} {S' : Sto} (v : View K n0 ρ S ρ' S') (h : As K n0 ts A ρ' S') : As K n0 ts A ρ S := fun L0 F0 H0 σ F H L b e s DE c => by
  obtain ⟨F', L', b', e', s'⟩ := v L0 F0 H0 σ F H L b e s
  exact h L0 F0 H0 σ F' H L' b' e' s' DE c
theorem as_post (h : As K n0 ts { A with nx := fun ρ S => ∃ ρ' S', View K n0 ρ S ρ' S' ∧ A.nx ρ' S' } ρ S) : As K n0 ts A ρ S := fun L0 F0 H0 σ F H L b e s DE c =>
  h L0 F0 H0 σ F H L b e s DE ⟨fun σ F H L ρ S b e s ⟨ρ', S', v, x⟩ => by
    obtain ⟨F', L', b', e', s'⟩ := v L0 F0 H0 σ F H L b e s
    exact c.nx σ F' H L' ρ' S' b' e' s' x, c.bk, c.ct, c.rt⟩
theorem View.refl : View K n0 ρ S ρ S := fun L0 F0 H0 σ F H L b e s => ⟨F, L, b, e, s⟩
theorem View.trans {ρ1 ρ2 : Rho} {S1 S2 : Sto} (a : View K n0 ρ S ρ1 S1) (b : View K n0 ρ1 S1 ρ2 S2) : View K n0 ρ S ρ2 S2 := fun L0 F0 H0 σ F H L bs e s => by
  obtain ⟨F', L', b', e', s'⟩ := a L0 F0 H0 σ F H L bs e s
  exact b L0 F0 H0 σ F' H L' b' e' s'
/-- a name forgotten -/
theorem view_un (i : Nat) : View K n0 ρ S (ρ.set i .un) S := fun L0 F0 H0 σ F H L b e s => ⟨F, L, b, by
  intro j en q
  by_cases hij : i = j
  · subst hij
    have hl := (List.getElem?_eq_some_iff.mp q).1
    rw [List.length_set] at hl
    obtain ⟨o, ho, _⟩ := e i _ (List.getElem?_eq_getElem hl)
    rw [List.getElem?_set_self hl] at q
    cases q
    exact ⟨o, ho, trivial⟩
  · rw [List.getElem?_set_ne hij] at q
    exact e j en q, s⟩
/-- the last written list becomes data for ever -/
def frz1 (n : Nat) (ds : List D) : En → En
  | .mu m => if m = n then .dt (.list ds) else .mu m
  | e => e
theorem view_frz (hn : n0 ≤ S.length) : View K n0 ρ (S ++ [ds]) (ρ.map (frz1 S.length ds)) S := fun L0 F0 H0 σ F H L b e s => by
  have hlen := s.len
  rw [List.length_append, List.length_singleton] at hlen
  have hl : S.length < L.length := by omega
  obtain ⟨a, ha⟩ : ∃ a, L[S.length]? = some a := ⟨_, List.getElem?_eq_getElem hl⟩
  obtain ⟨f0, ws, xs, e1, e2, e3⟩ := s.st _ _ ha
  rw [List.getElem?_append_right (Nat.le_refl _), Nat.sub_self] at e1
  cases e1
  have hLd : L = L.dropLast ++ [a] := by
    have hne : L ≠ [] := fun z => by rw [z] at hl; simp at hl
    have : L.getLast hne = a := by
      rw [List.getLast_eq_getElem]
      have := (List.getElem?_eq_some_iff.mp ha).2
      rw [← this]
      congr 1
      omega
    rw [← this]
    exact (List.dropLast_concat_getLast hne).symm
  have sm : Same F (upd F a (.lst ws)) := fun x o ex => by
    rw [upd_ne (ne_of_none ex f0)]
    exact ex
  have hDl : L.dropLast.length = S.length := by simp; omega
  have get : ∀ {n : Nat} {x : Addr}, L.dropLast[n]? = some x → L[n]? = some x ∧ n < S.length ∧ x ≠ a := fun {n x} hx => by
    have hlt : n < L.dropLast.length := (List.getElem?_eq_some_iff.mp hx).1
    have h1 : L[n]? = some x := by
      rw [hLd, List.getElem?_append_left hlt]
      exact hx
    refine ⟨h1, by omega, fun z => ?_⟩
    subst z
    have h2 := (List.getElem?_eq_some_iff.mp h1).2
    have h3 := (List.getElem?_eq_some_iff.mp ha).2
    have := (List.getElem_inj s.nd).mp (h2.trans h3.symm)
    omega
  have hn0 := b.n
  have b' : Bs n0 L0 F0 H0 L.dropLast (upd F a (.lst ws)) H := by
    refine ⟨b.n, ⟨b.stp.fx.trans sm, b.stp.keep, b.stp.live, fun x hx h0 => ?_⟩, ?_, fun x hx => b.fr x (by rw [hLd]; exact List.mem_append_left _ hx)⟩
    · have : x ≠ a := fun z => by
        subst z
        rcases b.fr x (List.mem_of_getElem? ha) with q | q
        · obtain ⟨R, hR⟩ := b.pre
          obtain ⟨m, hm⟩ := List.getElem?_of_mem q
          have hml : m < L0.length := (List.getElem?_eq_some_iff.mp hm).1
          have hm' : L[m]? = some x := by rw [hR, List.getElem?_append_left hml]; exact hm
          have h2 := (List.getElem?_eq_some_iff.mp hm').2
          have h3 := (List.getElem?_eq_some_iff.mp ha).2
          have := (List.getElem_inj s.nd).mp (h2.trans h3.symm)
          omega
        · exact hx q
      rw [upd_ne this]
      exact b.stp.nof x hx h0
    · obtain ⟨R, hR⟩ := b.pre
      refine ⟨R.dropLast, ?_⟩
      rw [hR]
      apply List.dropLast_append_of_ne_nil
      intro z
      subst z
      rw [List.append_nil] at hR
      rw [hR] at hl
      omega
  refine ⟨upd F a (.lst ws), L.dropLast, b', fun i en q => ?_, ⟨fun x o ex => ?_, hDl, ?_, fun n x hx => ?_⟩⟩
  · rw [List.getElem?_map] at q
    cases qe : ρ[i]? with
    | none => rw [qe] at q; cases q
    | some e0 =>
      rw [qe] at q
      have q' : frz1 S.length ds e0 = en := Option.some.inj q
      subst q'
      obtain ⟨o, h1, h2⟩ := e i e0 qe
      refine ⟨o, h1, ?_⟩
      cases e0 with
      | un => trivial
      | dt d =>
        obtain ⟨v, h3, h4⟩ := h2
        exact ⟨v, h3, dp_mono sm _ _ h4⟩
      | mu m =>
        obtain ⟨x, h3, h4⟩ := h2
        show EnOk K (upd F a (.lst ws)) L.dropLast (if m = S.length then .dt (.list ds) else .mu m) o
        by_cases hm : m = S.length
        · rw [if_pos hm]
          rw [hm, ha] at h4
          cases h4
          exact ⟨_, h3, .lst (.inl (.inl upd_same)) (dpa_mono sm _ _ e3)⟩
        · rw [if_neg hm]
          refine ⟨x, h3, ?_⟩
          have hml := (List.getElem?_eq_some_iff.mp h4).1
          rw [hLd, List.getElem?_append_left (by omega)] at h4
          exact h4
  · by_cases z : x = a
    · rw [z, upd_same] at ex
      cases ex
      rw [z]
      exact e2
    · rw [upd_ne z] at ex
      exact s.sub _ _ ex
  · have := s.nd
    rw [hLd, List.nodup_append] at this
    exact this.1
  · obtain ⟨h1, h2, h3⟩ := get hx
    obtain ⟨g0, vs', es', k1, k2, k3⟩ := s.st n x h1
    rw [List.getElem?_append_left h2] at k1
    rw [upd_ne h3]
    exact ⟨g0, vs', es', k1, k2, dpa_mono sm _ _ k3⟩
end

/-! ### the def's rule -/
def ρ0 (args : Rho) (n : Nat) : Rho := args ++ List.replicate n .un
theorem fun_okA {P : Program} {w : World} {K : PySem.W.Frag} {mg : Str → Option Value} {base : Heap} {x qual : Str} {st : Stmt} {f : Addr} {fd : FuncData} {N ps : List Str} {k n m : Nat} {G : Rho → Sto → Rs → Sto → Prop} (F : Fun K x qual st f fd) (S : FnScope N ps (defScope st)) (hn : ps.length = n) (hm : N.length = n + m)
    (hG : ∀ ρ S r S', G ρ S r S' → S'.length = S.length ∧ notMu r = true)
    (hbody : ∀ (cdv : Value) (A : Around) (outer : List Env) (s : Shared) (H : Hp) (E : XK), Room k (A.deeper (envOfC qual (defScope st) s.heap.objs.size f cdv)) →
      ∃ t, PSs (cxOf CX0 P w K mg base N qual (defScope st) f cdv A outer s H E).nox (defBody st) t ∧ ∀ ρ S r S', ρ.length = n → G ρ S r S' → As K S.length t ⟨fun _ S2 => RsLe (.v .none) r ∧ S2.take S.length = S', fun r2 S2 => RsLe r2 r ∧ S2.take S.length = S', fun _ _ => False, fun _ _ => False⟩ (ρ0 ρ m) S) :
    FnOk P w K mg base CX0 (k + 1) f fd ps (spA K n G) := by
  refine F.ok S (fun vs H Q E h => h.1.trans hn.symm) (fun cdv A outer s H vs Q E hr h => ?_)
  obtain ⟨t, ht, ha⟩ := hbody cdv A outer s H E hr
  refine ⟨t, ht, ?_⟩
  obtain ⟨hl, F, L, ρ, S, r, S', e, hρ, so, g, q⟩ := h
  obtain ⟨hS, hr'⟩ := hG ρ S r S' g
  have rest : ∀ {L' F' H'} {v : V} {r2 : Rs} {S2 : Sto}, Bs S.length L F H L' F' H' → SOk K F' H' L' S2 → RsOk K L F' H H' v r2 → RsLe r2 r → S2.take S.length = S' → Q v H' := fun {L' F' H' v r2 S2} b s2 rr rl es => by
    have so' : SOk K F' H' L S' := by
      obtain ⟨R, rfl⟩ := b.pre
      refine ⟨s2.sub, by rw [so.len, hS], (List.nodup_append.mp s2.nd).1, fun n a hn => ?_⟩
      have hnl := (List.getElem?_eq_some_iff.mp hn).1
      obtain ⟨g0, ws, xs, e1, e2, e3⟩ := s2.st n a (by rw [List.getElem?_append_left hnl]; exact hn)
      refine ⟨g0, ws, xs, ?_, e2, e3⟩
      rw [← es, List.getElem?_take, if_pos (by rw [← so.len]; exact hnl)]
      exact e1
    rcases rl with rfl | ⟨ds, rfl, rfl⟩
    · exact q v F' H' b.stp so' rr
    · obtain ⟨a, vs, rfl, h0, hf, hh, hd⟩ := rr
      obtain ⟨x1, x2, x3⟩ := freeze b.stp so so' h0 hf hh hd
      exact q _ _ _ x1 x2 x3
  refine ha ρ S r S' hρ g L F H (L2.start N vs) F H L ⟨so.len, .refl _ _ _, ⟨[], by simp⟩, fun a h => .inl h⟩ ?_ so _ ⟨fun σ F' H' L' ρ' S2 b e s h => rest (r2 := .v .none) b s (show Dp K F' .non .none from .non) h.1 h.2, fun _ _ _ _ _ _ _ _ _ h => h.elim, fun _ _ _ _ _ _ _ _ _ h => h.elim, fun v F' H' L' r2 S2 m b s rr h => rest (r2 := r2) b s rr h.1 h.2⟩
  intro i en hi
  unfold ρ0 at hi
  unfold L2.start
  have hlen : (vs.map some).length = n := by simp [hl]
  rw [List.getElem?_append] at hi ⊢
  rw [hlen]
  rw [hρ] at hi
  split at hi
  · rename_i hlt
    rw [if_pos hlt]
    exact e i en hi
  · rename_i hlt
    rw [if_neg hlt]
    rw [hl, hm, Nat.add_sub_cancel_left]
    rw [List.getElem?_replicate] at hi ⊢
    split at hi
    · rename_i h2
      rw [if_pos h2]
      cases hi
      exact ⟨none, rfl, trivial⟩
    · cases hi
end DL

namespace DL
open PySem PySem.Spec PyProof.Rows L2

theorem fn_never {P : Program} {w : World} {K : PySem.W.Frag} {mg : Str → Option Value} {base : Heap} {f : Addr} {fd : FuncData} {ps : List Str} {k n : Nat} {G : Rho → Sto → Rs → Sto → Prop} (h : ∀ ρ S r S', G ρ S r S' → False) : FnOk P w K mg base CX0 k f fd ps (spA K n G) :=
  ⟨fun vs H Q E q => by
    obtain ⟨_, _, _, _, _, _, _, _, _, _, g, _⟩ := q
    exact (h _ _ _ _ g).elim, fun A outer s H args us vs Q E hr he hb hv q => by
    obtain ⟨_, _, _, _, _, _, _, _, _, _, g, _⟩ := q
    exact (h _ _ _ _ g).elim⟩
theorem dpa_ints {K : PySem.W.Frag} {H : Hp} : ∀ ns : List Int, DpAll K H (ns.map V.int) (ns.map PyData.int)
  | [] => .nil
  | n :: ns => .cons (.int n) (dpa_ints ns)
theorem law_script {K : PySem.W.Frag} {G : Rho → Sto → Rs → Sto → Prop} {H : Hp} {a : Addr} {ns : List Int} {E : XK} (hS : SqL K H a (ns.map V.int)) (g : G [.dt (.list (ns.map PyData.int))] [] (.v (.bool true)) []) : spA K 1 G [.ref a] H (fun v _ => v = .bl true) E :=
  ⟨rfl, H, [], _, [], .v (.bool true), [], fun i e h => by
    cases i with
    | zero =>
      cases h
      exact ⟨_, rfl, _, rfl, .lst hS (dpa_ints ns)⟩
    | succ i => simp at h, rfl, ⟨Same.refl _, rfl, .nil, fun n a e => by simp at e⟩, g, fun v F' H' st s' r => by
    have r' : Dp K F' v (.bool true) := r
    cases r'
    rfl⟩
/-! sorted of a list of pairs of ints, wherever the pairs stand -/
def rSortedPS (K : PySem.W.Frag) : List V → Hp → VK → Prop := fun vs H Q => ∃ (a : Addr) (xs : List V) (ps : List (Int × Int)) (R : V → Int × Int → Prop), vs = [V.ref a] ∧ SqL K H a xs ∧ Paired R xs ps ∧ (∀ x p, R x p → ∃ t, x = V.ref t ∧ SqT K H t [.int p.1, .int p.2]) ∧
  ∀ ys qs p, Paired R ys qs → qs.Perm ps → qs.Pairwise (fun x y => x.1 < y.1 ∨ (x.1 = y.1 ∧ x.2 ≤ y.2)) → H p = none → Q (.ref p) (upd H p (.lst ys))
theorem paired_map {α β : Type} {R : α → β → Prop} {k : α → β} : ∀ {xs : List α}, (∀ x ∈ xs, R x (k x)) → Paired R xs (xs.map k)
  | [], _ => .nil
  | x :: xs, h => .cons (h x List.mem_cons_self) (paired_map fun y hy => h y (List.mem_cons_of_mem _ hy))
section
variable {X : Cx}
theorem cr_sortedPS : CallR X (.builtin "sorted") (rSortedPS X.K) := by
  intro pins s σ H vs us Q I r h
  obtain ⟨a, xs, ps, R, rfl, hs, hR, hRt, q⟩ := h
  have hx : Paired (fun x (p : Int × Int) => ∃ t, x = V.ref t ∧ SqT X.K H t [.int p.1, .int p.2]) xs ps := L2.Paired.mapP hR hRt
  obtain ⟨its, rv, hl, hz⟩ := I.list hs
  obtain ⟨u, rfl, ru⟩ := vals1 r
  obtain rfl : u = Value.ref a := ru
  have ex : ∀ x ∈ xs, ∃ t p, x = V.ref t ∧ SqT X.K H t [.int p.1, .int (p : Int × Int).2] := by
    intro x m
    clear rv hl hz hs q hR
    induction hx with
    | nil => cases m
    | cons h1 h2 ih =>
      rcases List.mem_cons.mp m with e | m
      · subst e
        obtain ⟨t, h3, h4⟩ := h1
        exact ⟨t, _, h3, h4⟩
      · exact ih m
  obtain ⟨e1, e2⟩ := refs_back rv fun x m => by
    obtain ⟨t, _, e, _⟩ := ex x m
    exact ⟨t, e⟩
  -- the pair of a value
  let kk : V → Int × Int := fun x => open Classical in if h : ∃ t p, x = V.ref t ∧ SqT X.K H t [.int p.1, .int (p : Int × Int).2] then h.choose_spec.choose else (0, 0)
  have kspec : ∀ x ∈ xs, ∃ t, x = V.ref t ∧ SqT X.K H t [.int (kk x).1, .int (kk x).2] := fun x m => by
    have h := ex x m
    have e : kk x = h.choose_spec.choose := by
      show (open Classical in if h : ∃ t p, x = V.ref t ∧ SqT X.K H t [.int p.1, .int (p : Int × Int).2] then h.choose_spec.choose else (0, 0)) = _
      rw [dif_pos h]
    rw [e]
    exact ⟨h.choose, h.choose_spec.choose_spec⟩
  have kps : ps = xs.map kk := by
    clear rv hl hz hs q e1 e2 hR
    induction hx with
    | nil => rfl
    | @cons x p xs ps h1 h2 ih =>
      rw [List.map_cons, ih (fun y hy => ex y (List.mem_cons_of_mem _ hy)) (fun y hy => kspec y (List.mem_cons_of_mem _ hy))]
      congr 1
      obtain ⟨t, e, h3⟩ := h1
      obtain ⟨t', e', h4⟩ := kspec x List.mem_cons_self
      rw [e] at e'
      cases e'
      have := I.tuple_inj h3 h4
      injection this with a b
      injection b with b c
      injection a with a
      injection b with b
      exact Prod.ext a b
  have kR : ∀ x ∈ xs, R x (kk x) := by
    rw [kps] at hR
    clear rv hl hz hs q e1 e2 hx kps ex kspec
    intro x m
    revert hR
    induction xs with
    | nil => cases m
    | cons y ys ih =>
      intro hR
      cases hR with
      | cons h1 h2 =>
        rcases List.mem_cons.mp m with e | m
        · rw [e]; exact h1
        · exact ih m h2
  refine SrtO.sorted_pairsO (k := fun u => kk (backV u)) hl.isList (by rw [← rv.length]; exact hz) (fun v hv => ?_) fun h' d out h1 h2 kp hd hn => ?_
  · obtain ⟨t, rfl⟩ := e2 v hv
    have hm : V.ref t ∈ xs := by rw [e1]; exact List.mem_map.mpr ⟨_, hv, rfl⟩
    obtain ⟨t', e, ht⟩ := kspec _ hm
    cases e
    obtain ⟨its2, r2, ⟨o, ho, hc, n, hd⟩, _⟩ := I.tuple ht
    obtain ⟨u1, u2, rfl, ri, rj⟩ := vals2 r2
    obtain ⟨t1, rfl⟩ := ri
    obtain ⟨t2, rfl⟩ := rj
    exact ⟨t, o, t1, t2, n, rfl, ho, hc, hd⟩
  · have h3 : ∀ u ∈ out, ∃ a, u = Value.ref a := fun u hu => e2 u (h2.perm.mem_iff.mp hu)
    obtain ⟨n, hn⟩ := hn
    have hperm : (out.map backV).Perm xs := by
      rw [e1]
      exact h2.perm.map backV
    refine ⟨.ref d, upd H d (.lst (out.map backV)), I.laid (t' := s.toks) kp hd ⟨?_, out, n, vals_back h3, hn⟩, rfl, ?_⟩
    · rw [hperm.length_eq]
      exact hz
    · refine q (out.map backV) ((out.map backV).map kk) d (paired_map fun x hx => kR x (hperm.mem_iff.mp hx)) ?_ ?_ (I.hok.fresh hd)
      · rw [kps]
        exact hperm.map kk
      · rw [List.map_map]
        refine List.pairwise_map.mpr (h1.imp fun {v u} hvu => ?_)
        have := SrtO.lexB_no.mp hvu
        show (kk (backV v)).1 < (kk (backV u)).1 ∨ _
        simp only [Function.comp]
        omega
end
def encP (p : Int × Int) : D := .tuple [.int p.1, .int p.2]
def lexP (x y : Int × Int) : Prop := x.1 < y.1 ∨ (x.1 = y.1 ∧ x.2 ≤ y.2)
section
variable {K : PySem.W.Frag} {ρ : Rho} {S S1 S2 S3 : Sto} {ta tb tc te : TE} {t u : TT} {tr : TA} {d e f : D} {r r1 r2 : Rs} {ds es as bs : List D}
theorem dpa_pairs {F : Hp} : ∀ {xs : List V} {ps : List (Int × Int)}, DpAll K F xs (ps.map encP) → Paired (fun x (p : Int × Int) => ∃ t, x = V.ref t ∧ SqT K F t [.int p.1, .int p.2]) xs ps
  | _, [], .nil => .nil
  | _, p :: ps, .cons h1 h2 => .cons (by
      have h1' : Dp K F _ (.tuple [.int p.1, .int p.2]) := h1
      cases h1' with
      | tup k1 k2 =>
        obtain ⟨v, w, rfl, a, b⟩ := dpa2 k2
        cases a; cases b
        exact ⟨_, rfl, k1⟩) (dpa_pairs h2)
theorem pairs_dpa {F : Hp} : ∀ {xs : List V} {ps : List (Int × Int)}, Paired (fun x (p : Int × Int) => ∃ t, x = V.ref t ∧ SqT K F t [.int p.1, .int p.2]) xs ps → DpAll K F xs (ps.map encP)
  | _, _, .nil => .nil
  | _, _, .cons h1 h2 => .cons (by
      obtain ⟨t, rfl, h⟩ := h1
      exact .tup h (.cons (.int _) (.cons (.int _) .nil))) (pairs_dpa h2)
/-- sorted(ps), ps a list of pairs that is data -/
theorem ev_sortedP {ps qs : List (Int × Int)} (h : Ev K ρ S te (.v (.list (ps.map encP))) S1) (hp : qs.Perm ps) (hq : qs.Pairwise lexP) : Ev K ρ S (tCB (rSortedPS K) (tCons te tNil)) (.nl (qs.map encP)) S1 := fun σ F H L E s Q q =>
  h σ F H L E s _ fun v F1 H1 st1 s1 r1 => by
    have r1' : Dp K F1 v (.list (ps.map encP)) := r1
    cases r1' with
    | lst h1 h2 =>
      rename_i a xs
      refine ⟨a, xs, ps, fun x p => ∃ t, x = V.ref t ∧ SqT K F1 t [.int p.1, .int p.2], rfl, s1.sub.seq h1, dpa_pairs h2, fun x p ⟨t, e, k⟩ => ⟨t, e, sqt_mono s1.sub k⟩, fun ys qs' p hy pm pw hn => ?_⟩
      have e : qs' = qs := List.Perm.eq_of_pairwise (le := lexP) (fun x y _ _ a b => by
        unfold lexP at a b
        exact Prod.ext (by omega) (by omega)) pw hq (pm.trans hp.symm)
      subst e
      obtain ⟨x1, x2, x3⟩ := new_lst (L := L) s1 (pairs_dpa hy) hn
      exact q _ _ _ (st1.trans x1) x2 (x3.back st1)
/-! lists put together -/
def LsAt (S : Sto) (r : Rs) (ds : List D) : Prop := r = .nl ds ∨ ∃ n, r = .mu n ∧ S[n]? = some ds
theorem ls_at {L : List Addr} {F0 H0 F1 H1 F2 H2 : Hp} {v : V} (s0 : SOk K F0 H0 L S) (st1 : Stp L F0 H0 F1 H1) (st2 : Stp L F1 H1 F2 H2) (s2 : SOk K F2 H2 L S2) (h : RsOk K L F1 H0 H1 v r) (q : LsAt S2 r ds) : ∃ a vs, v = .ref a ∧ H2 a = some (.lst vs) ∧ DpAll K F2 vs ds := by
  rcases q with rfl | ⟨n, rfl, e⟩
  · obtain ⟨a, vs, rfl, h0, h1, h2, h3⟩ := h
    refine ⟨a, vs, rfl, st2.keep _ _ h2 fun m => ?_, dpa_mono st2.fx _ _ h3⟩
    obtain ⟨n, hn⟩ := List.getElem?_of_mem m
    obtain ⟨_, _, _, _, e2, _⟩ := s0.st n a hn
    rw [h0] at e2
    cases e2
  · obtain ⟨a, rfl, ha⟩ := h
    obtain ⟨_, vs, xs, e1, e2, e3⟩ := s2.st n a ha
    rw [e] at e1
    cases e1
    exact ⟨a, vs, rfl, e2, e3⟩
theorem ev_cat (ha : Ev K ρ S ta r1 S1) (hb : Ev K ρ S1 tb r2 S2) (h1 : LsAt S2 r1 as) (h2 : LsAt S2 r2 bs) (hl : as.length + bs.length ≤ 100000) : Ev K ρ S (tOp rCat ta tb) (.nl (as ++ bs)) S2 := fun σ F H L E s Q q =>
  ha σ F H L E s _ fun x F1 H1 st1 s1 q1 => hb σ F1 H1 L (E.mono0 st1.fx) s1 _ fun y F2 H2 st2 s2 q2 => by
    obtain ⟨a, vs, rfl, e1, e2⟩ := ls_at s st1 st2 s2 q1 h1
    obtain ⟨b, ws, rfl, e3, e4⟩ := ls_at s1 st2 (.refl _ _ _) s2 q2 h2
    refine ⟨a, b, vs, ws, rfl, rfl, e1, e3, by rw [dpa_len e2, dpa_len e4]; exact small5 hl, fun p hp => ?_⟩
    obtain ⟨x1, x2, x3⟩ := new_lst (L := L) s2 (dpa_app e2 e4) hp
    exact q _ _ _ ((st1.trans st2).trans x1) x2 (x3.back (st1.trans st2))
theorem ed_star (h : Ev K ρ S te r S1) (hn : notNl r = true) (hq : RdSq S2 r ds) (hr : EvD K ρ S1 tr es S2) (hm : notMu r = true) : EvD K ρ S (StX.tStar K te tr) (ds ++ es) S2 := fun σ F H L E s Q q =>
  h σ F H L E s _ fun v F1 H1 st1 s1 r1 => by
    have hq1 : RdSq S1 r ds := by
      rcases hq with e | e | ⟨n, e, _⟩
      · exact .inl e
      · exact .inr (.inl e)
      · subst e; cases hm
    obtain ⟨a, vs, rfl, hs, hd⟩ := rd_sq (H0 := H) s1 (r1.pers (Same.refl _) hn) hq1
    exact ⟨a, vs, rfl, hs.symm, hr σ F1 H1 L (E.mono0 st1.fx) s1 _ fun ws F2 H2 st2 s2 r2 => q _ F2 H2 (st1.trans st2) s2 (dpa_app (dpa_mono st2.fx _ _ hd) r2)⟩
theorem o_eqI {i j : Int} : Op2 K rEq (.int i) (.int j) (.bool (decide (i = j))) := fun F H x y _ hx hy Q q => by
  cases hx; cases hy
  refine ⟨rfl, ?_⟩
  have : decide (V.int i = V.int j) = decide (i = j) := by simp
  rw [this]
  exact q _ (.bl _)
theorem o_neI {i j : Int} : Op2 K rNe (.int i) (.int j) (.bool (!decide (i = j))) := fun F H x y _ hx hy Q q => by
  cases hx; cases hy
  refine ⟨rfl, ?_⟩
  have : decide (V.int i = V.int j) = decide (i = j) := by simp
  rw [this]
  exact q _ (.bl _)
theorem o_eqB {i j : Bool} : Op2 K rEq (.bool i) (.bool j) (.bool (decide (i = j))) := fun F H x y _ hx hy Q q => by
  cases hx; cases hy
  refine ⟨rfl, ?_⟩
  have : decide (V.bl i = V.bl j) = decide (i = j) := by simp
  rw [this]
  exact q _ (.bl _)
theorem o_neB {i j : Bool} : Op2 K rNe (.bool i) (.bool j) (.bool (!decide (i = j))) := fun F H x y _ hx hy Q q => by
  cases hx; cases hy
  refine ⟨rfl, ?_⟩
  have : decide (V.bl i = V.bl j) = decide (i = j) := by simp
  rw [this]
  exact q _ (.bl _)
theorem o_eqS {i j : Str} : Op2 K rEq (.str i) (.str j) (.bool (decide (i = j))) := fun F H x y _ hx hy Q q => by
  cases hx; cases hy
  refine ⟨rfl, ?_⟩
  have : decide (V.str i = V.str j) = decide (i = j) := by simp
  rw [this]
  exact q _ (.bl _)
theorem o_neS {i j : Str} : Op2 K rNe (.str i) (.str j) (.bool (!decide (i = j))) := fun F H x y _ hx hy Q q => by
  cases hx; cases hy
  refine ⟨rfl, ?_⟩
  have : decide (V.str i = V.str j) = decide (i = j) := by simp
  rw [this]
  exact q _ (.bl _)
/-- None beside an int or a text -/
theorem o_eqN {j : Int} : Op2 K rEq .none (.int j) (.bool false) := fun F H x y _ hx hy Q q => by
  cases hx; cases hy
  refine ⟨rfl, ?_⟩
  have : decide (V.non = V.int j) = false := by simp
  rw [this]
  exact q _ (.bl _)
end
section
variable {K : PySem.W.Frag} {n0 : Nat} {A B : AE} {ρ : Rho} {S S1 S2 S3 : Sto} {ta tb tc te : TE} {t u : TT} {tr : TA} {d e f : D} {r : Rs} {ds es : List D} {ts tu tw : TS} {g : TG} {wi : TI} {chk : Sto → Prop}
/-- a statement with one end, then the rest -/
theorem as_seqJ {ρ1 : Rho} (h : As K n0 ts { A with nx := fun ρ S => ρ = ρ1 ∧ S = S1 } ρ S) (k : As K n0 tu A ρ1 S1) : As K n0 (tSeq ts tu) A ρ S :=
  as_seq (h.mono (fun _ _ ⟨a, b⟩ => by subst a; subst b; exact k) (fun _ _ h => h) (fun _ _ h => h) (fun _ _ h => h))
/-- a statement whose end is told by a word -/
theorem as_seqW {W : Rho → Sto → Prop} (h : As K n0 ts { A with nx := W } ρ S) (k : ∀ ρ1 S1, W ρ1 S1 → As K n0 tu A ρ1 S1) : As K n0 (tSeq ts tu) A ρ S :=
  as_seq (h.mono (fun _ _ a => k _ _ a) (fun _ _ h => h) (fun _ _ h => h) (fun _ _ h => h))
theorem as_ifT {b : Bool} (h : EvT K ρ S t b S1) (e : b = true) (h1 : As K n0 tu A ρ S1) : As K n0 (tIfS t tu tw) A ρ S := as_if h (fun _ => h1) (fun z => by rw [e] at z; cases z)
theorem as_ifF {b : Bool} (h : EvT K ρ S t b S1) (e : b = false) (h1 : As K n0 tw A ρ S1) : As K n0 (tIfS t tu tw) A ρ S := as_if h (fun z => by rw [e] at z; cases z) (fun _ => h1)
end
section
variable {K : PySem.W.Frag} {ρ : Rho} {S S1 : Sto} {te : TE} {d : D}
def isD_bool : D → Bool
  | .bool _ => true
  | _ => false
theorem ev_isi_bool (h : Ev K ρ S te (.v d) S1) : Ev K ρ S (tCB (rIsi K) (tCons te (tCons (tC (.ty "bool")) tNil))) (.v (.bool (isD_bool d))) S1 := ev_isi h (by
  cases d with
  | none => exact (show kitB "NoneType" "bool" = some false by decide +kernel)
  | bool _ => exact (show kitB "bool" "bool" = some true by decide +kernel)
  | int _ => exact (show kitB "int" "bool" = some false by decide +kernel)
  | str _ => exact (show kitB "str" "bool" = some false by decide +kernel)
  | list _ => exact (show kitB "list" "bool" = some false by decide +kernel)
  | tuple _ => exact (show kitB "tuple" "bool" = some false by decide +kernel)
  | dict _ => exact (show kitB "dict" "bool" = some false by decide +kernel))
def isD_int : D → Bool
  | .int _ => true
  | .bool _ => true
  | _ => false
theorem ev_isi_int (h : Ev K ρ S te (.v d) S1) : Ev K ρ S (tCB (rIsi K) (tCons te (tCons (tC (.ty "int")) tNil))) (.v (.bool (isD_int d))) S1 := ev_isi h (by
  cases d with
  | none => exact (show kitB "NoneType" "int" = some false by decide +kernel)
  | bool _ => exact (show kitB "bool" "int" = some true by decide +kernel)
  | int _ => exact (show kitB "int" "int" = some true by decide +kernel)
  | str _ => exact (show kitB "str" "int" = some false by decide +kernel)
  | list _ => exact (show kitB "list" "int" = some false by decide +kernel)
  | tuple _ => exact (show kitB "tuple" "int" = some false by decide +kernel)
  | dict _ => exact (show kitB "dict" "int" = some false by decide +kernel))
def isD_str : D → Bool
  | .str _ => true
  | _ => false
theorem ev_isi_str (h : Ev K ρ S te (.v d) S1) : Ev K ρ S (tCB (rIsi K) (tCons te (tCons (tC (.ty "str")) tNil))) (.v (.bool (isD_str d))) S1 := ev_isi h (by
  cases d with
  | none => exact (show kitB "NoneType" "str" = some false by decide +kernel)
  | bool _ => exact (show kitB "bool" "str" = some false by decide +kernel)
  | int _ => exact (show kitB "int" "str" = some false by decide +kernel)
  | str _ => exact (show kitB "str" "str" = some true by decide +kernel)
  | list _ => exact (show kitB "list" "str" = some false by decide +kernel)
  | tuple _ => exact (show kitB "tuple" "str" = some false by decide +kernel)
  | dict _ => exact (show kitB "dict" "str" = some false by decide +kernel))
def isD_tuple : D → Bool
  | .tuple _ => true
  | _ => false
theorem ev_isi_tuple (h : Ev K ρ S te (.v d) S1) : Ev K ρ S (tCB (rIsi K) (tCons te (tCons (tC (.ty "tuple")) tNil))) (.v (.bool (isD_tuple d))) S1 := ev_isi h (by
  cases d with
  | none => exact (show kitB "NoneType" "tuple" = some false by decide +kernel)
  | bool _ => exact (show kitB "bool" "tuple" = some false by decide +kernel)
  | int _ => exact (show kitB "int" "tuple" = some false by decide +kernel)
  | str _ => exact (show kitB "str" "tuple" = some false by decide +kernel)
  | list _ => exact (show kitB "list" "tuple" = some false by decide +kernel)
  | tuple _ => exact (show kitB "tuple" "tuple" = some true by decide +kernel)
  | dict _ => exact (show kitB "dict" "tuple" = some false by decide +kernel))
def isD_list : D → Bool
  | .list _ => true
  | _ => false
theorem ev_isi_list (h : Ev K ρ S te (.v d) S1) : Ev K ρ S (tCB (rIsi K) (tCons te (tCons (tC (.ty "list")) tNil))) (.v (.bool (isD_list d))) S1 := ev_isi h (by
  cases d with
  | none => exact (show kitB "NoneType" "list" = some false by decide +kernel)
  | bool _ => exact (show kitB "bool" "list" = some false by decide +kernel)
  | int _ => exact (show kitB "int" "list" = some false by decide +kernel)
  | str _ => exact (show kitB "str" "list" = some false by decide +kernel)
  | list _ => exact (show kitB "list" "list" = some true by decide +kernel)
  | tuple _ => exact (show kitB "tuple" "list" = some false by decide +kernel)
  | dict _ => exact (show kitB "dict" "list" = some false by decide +kernel))
end
section
variable {X : Cx} {K : PySem.W.Frag}
theorem ix_seqK (h : X.K = K) : IxR X (rIx K) := by subst h; exact ix_seq
theorem pt_truthK {a : Expr} {ta : TE} (h : X.K = K) (ha : PE X a ta) (he : ∀ whole, isTrue a X.env whole = (do let v ← whole; standAt a.pos; holding [v] (truthy v))) : PT X a (fun σ H Q => ta σ H fun x H' => ∃ k, TruV K x H' k ∧ Q k H') := by subst h; exact pt_truth ha he
theorem call_lenK (h : X.K = K) : CallR X (.builtin "len") (fun xs H Q => ∃ x n, xs = [x] ∧ LenV K x H n ∧ Q (.int n) H) := by subst h; exact call_len
theorem call_isiK (h : X.K = K) : CallR X (.builtin "isinstance") (rIsi K) := by subst h; exact call_isi
theorem call_list_ofK (h : X.K = K) : CallR X (.type "list") (fun xs H Q => ∃ p ys, xs = [.ref p] ∧ (SqL K H p ys ∨ SqT K H p ys) ∧ ∀ l, H l = none → Q (.ref l) (upd H l (.lst ys))) := by subst h; exact call_list_of
theorem call_tuple_ofK (h : X.K = K) : CallR X (.type "tuple") (fun xs H Q => ∃ p ys, xs = [.ref p] ∧ ((SqL K H p ys ∧ ∀ l, H l = none → Q (.ref l) (upd H l (.tup ys))) ∨ (SqT K H p ys ∧ Q (.ref p) H))) := by subst h; exact call_tuple_of
theorem op_in_seqK (h : X.K = K) : OpR X (compareOp .In) (rIn K false) := by subst h; exact op_in_seq
theorem op_notIn_seqK (h : X.K = K) : OpR X (compareOp .NotIn) (rIn K true) := by subst h; exact op_notIn_seq
theorem cr_sortedPSK (h : X.K = K) : CallR X (.builtin "sorted") (rSortedPS K) := by subst h; exact cr_sortedPS
theorem pi_seqK {tg l : Expr} {tl : TE} (h : X.K = K) (hl : PE X l tl) : PI X tg l (iSeq K tl) := by subst h; exact pi_seq hl
theorem pe_globD {x : Str} {pos : Pos} {v : V} {Pr : Prop} (hg : Gl X x) (h : ∃ u, X.mg x = some u ∧ RelV v u ∧ Pr) (hd : (x == ("__debug__" : Str)) = false := by decide) : PE X (.Name x pos) (tC v) := by
  obtain ⟨u, a, b, _⟩ := h
  exact pe_glob hg a b (hd := hd)
end
end DL

namespace DL
open PySem PySem.Spec PyProof.Rows L2

/-! ### methods of lists -/
theorem put_l {K : PySem.W.Frag} {L : List Addr} {F H : Hp} {S : Sto} {ds : List D} {n : Nat} {a : Addr} {vs : List V} (s : SOk K F H L S) (ha : L[n]? = some a) (hd : DpAll K F vs ds) : Stp L F H F (upd H a (.lst vs)) ∧ SOk K F (upd H a (.lst vs)) L (S.set n ds) := by
  obtain ⟨f0, ws, xs, e1, e2, e3⟩ := s.st n a ha
  have hl : n < S.length := (List.getElem?_eq_some_iff.mp e1).1
  refine ⟨⟨Same.refl _, fun x o e nx => by
    rw [upd_ne (fun (z : x = a) => nx (by rw [z]; exact List.mem_of_getElem? ha))]
    exact e, fun x hx => by
      by_cases q : x = a
      · rw [q, upd_same]; exact nofun
      · rw [upd_ne q]; exact hx, fun x hx h => h⟩, ⟨fun x o e => ?_, by simp [s.len], s.nd, fun m x e => ?_⟩⟩
  · rw [upd_ne (ne_of_none e f0)]
    exact s.sub _ _ e
  · by_cases hnm : n = m
    · subst hnm
      rw [ha] at e
      cases e
      exact ⟨f0, vs, ds, List.getElem?_set_self hl, upd_same, hd⟩
    · obtain ⟨g0, ws', xs', k1, k2, k3⟩ := s.st m x e
      have hxa : x ≠ a := fun z => by
        subst z
        have h1 := List.getElem?_eq_some_iff.mp e
        have h2 := List.getElem?_eq_some_iff.mp ha
        exact hnm ((List.getElem_inj s.nd).mp (h2.2.trans h1.2.symm))
      exact ⟨g0, ws', xs', by rw [List.getElem?_set_ne hnm]; exact k1, by rw [upd_ne hxa]; exact k2, k3⟩
theorem ext_tup {l b : Addr} {xs ys : Array Value} {n m : Nat} {dct : Option Addr} {sl : Array (Option Value)} (h0 : ¬(!xs.isEmpty && Builtin.List.listTooLong (xs.size + ys.size)) = true) (h1 : xs.size ≤ sizeLine) (h2 : xs.size + ys.size ≤ sizeLine + 1) :
    Meets (Builtin.«list.extend» ⟨[.ref l, .ref b], []⟩) (fun _ R s =>
      s.heap.get? l = some { cls := .type "list", dict := none, data := .seq xs n, slots := #[] } ∧
      s.heap.get? b = some { cls := .type "tuple", dict := dct, data := .seq ys m, slots := sl } ∧
      R (.ok (.ret Value.none)) { s with heap := s.heap.update l (Obj.mapSeq fun x => x ++ ys), toks := s.toks }) :=
  .of_wp fun prog w A R s h => by
    obtain ⟨hp, g, d, tk, os⟩ := s
    obtain ⟨hl, hb, h⟩ := h
    have f1 := AutoSeq1.idx_int
    have f2 := AutoSeq1.sub_tuple_tuple
    have f3 := AutoSeq1.sub_list_list
    have f4 := AutoSeq1.sub_tuple_list
    have f5 := AutoSeq1.sub_list_tuple
    have hz : (xs ++ ys).size ≤ sizeLine + 1 := by
      rw [Array.size_append]
      exact h2
    wp_walk using (wpAny_updateSeq hl rfl (hz := h1) (_hz' := hz)), AutoSeq1.wpAny_loadPart' hl, AutoSeq1.wpAny_loadPart' hb
    exact ⟨_, rfl, h⟩
def rExtendT (K : PySem.W.Frag) : V → List V → Hp → VK → Prop := fun x vs H Q => ∃ l b xs zs, x = .ref l ∧ vs = [.ref b] ∧ H l = some (.lst xs) ∧ SqT K H b zs ∧ xs.length + zs.length ≤ sizeLine ∧ Q .non (upd H l (.lst (xs ++ zs)))
theorem mt_extendT {X : Cx} {K : PySem.W.Frag} (hX : X.K = K) : MtM X "list.extend" (rExtendT K) := by
  subst hX
  intro pins s σ H x vs v us Q I rx rv h
  obtain ⟨l, b, xs, zs, rfl, rfl, hH, hB, hz, q⟩ := h
  cases rx
  obtain ⟨u, rfl, ru⟩ := rv.one
  cases ru
  obtain ⟨z, its, n, r, hl, e⟩ := I.lstM hH
  obtain ⟨its2, r2, ⟨o2, ho2, hc2, n2, hd2⟩, hz2⟩ := I.tuple hB
  have hl2 := r2.length
  obtain ⟨oc, od, da, sl⟩ := o2
  cases hc2
  cases hd2
  have hsz : its.toArray.size + its2.toArray.size ≤ sizeLine := by rw [List.size_toArray, List.size_toArray]; omega
  have hlong : ¬ (!its.toArray.isEmpty && Builtin.List.listTooLong (its.toArray.size + its2.toArray.size)) = true := by
    rw [notLongL hsz, Bool.and_false]
    exact Bool.false_ne_true
  refine call_meets F.slot_list_extend ⟨_, e, rfl⟩ F.entry_list_extend (F.args_list_extend_2 _ _) (ext_tup (n := n) (m := n2) (dct := od) (sl := sl) hlong (by rw [List.size_toArray]; omega) (by omega)) ⟨e, ho2, ?_⟩
  refine ⟨.non, _, I.lset (its' := its ++ its2) hH e (by simp) (r.append r2) ?_, rfl, q⟩
  rw [List.length_append]
  omega
theorem dpa_rev {K : PySem.W.Frag} {F : Hp} : ∀ {vs : List V} {ds : List D}, DpAll K F vs ds → DpAll K F vs.reverse ds.reverse
  | _, _, .nil => .nil
  | _, _, .cons h1 h2 => by
    rw [List.reverse_cons, List.reverse_cons]
    exact dpa_app (dpa_rev h2) (.cons h1 .nil)
section
variable {K : PySem.W.Frag} {ρ : Rho} {S S1 S2 S3 : Sto} {ta tb tc te : TE} {d e f : D} {r : Rs} {ds es : List D}
theorem ev_pop {n : Nat} (ha : Ev K ρ S ta (.mu n) S1) (hd : S1[n]? = some (ds ++ [d])) : Ev K ρ S (tBM0 K "list" rPop ta) (.v d) (S1.set n ds) := fun σ F H L E s Q q =>
  ha σ F H L E s _ fun v F1 H1 st1 s1 r1 => by
    obtain ⟨a, rfl, ha⟩ := r1
    obtain ⟨f0, ws, xs, e1, e2, e3⟩ := s1.st n a ha
    rw [hd] at e1
    cases e1
    have hl := dpa_len e3
    rw [List.length_append, List.length_singleton] at hl
    obtain ⟨v, hv, hdp⟩ := dpa_get (i := ds.length) (d := d) e3 (by simp)
    have ht : DpAll K F1 ws.dropLast ds := by
      rw [List.dropLast_eq_take, hl]
      have := dpa_take ds.length e3
      rw [List.take_left' rfl] at this
      exact this
    obtain ⟨p1, p2⟩ := put_l s1 ha ht
    exact ⟨.inl ⟨rfl, ws, .inl (.inl e2)⟩, a, ws, v, rfl, rfl, e2, by rw [hl]; exact hv, q v F1 _ (st1.trans p1) p2 hdp⟩
theorem ev_rev {n : Nat} (ha : Ev K ρ S ta (.mu n) S1) (hd : S1[n]? = some ds) : Ev K ρ S (tBM0 K "list" rReverse ta) (.v .none) (S1.set n ds.reverse) := fun σ F H L E s Q q =>
  ha σ F H L E s _ fun v F1 H1 st1 s1 r1 => by
    obtain ⟨a, rfl, ha⟩ := r1
    obtain ⟨f0, ws, xs, e1, e2, e3⟩ := s1.st n a ha
    rw [hd] at e1
    cases e1
    have ht := dpa_rev e3
    obtain ⟨p1, p2⟩ := put_l s1 ha ht
    exact ⟨.inl ⟨rfl, ws, .inl (.inl e2)⟩, a, ws, rfl, rfl, e2, q .non F1 _ (st1.trans p1) p2 .non⟩
theorem ev_extT {n : Nat} (ha : Ev K ρ S ta (.mu n) S1) (hb : Ev K ρ S1 tb (.v (.tuple es)) S2) (hd : S2[n]? = some ds) (hl : ds.length + es.length ≤ 100000) : Ev K ρ S (tBM K "list" (rExtendT K) ta (tCons tb tNil)) (.v .none) (S2.set n (ds ++ es)) := fun σ F H L E s Q q =>
  ha σ F H L E s _ fun v F1 H1 st1 s1 r1 => by
    obtain ⟨a, rfl, ha⟩ := r1
    obtain ⟨_, ws1, xs1, _, e12, _⟩ := s1.st n a ha
    refine ⟨.inl ⟨rfl, ws1, .inl (.inl e12)⟩, hb σ F1 H1 L (E.mono0 st1.fx) s1 _ fun w F2 H2 st2 s2 r2 => ?_⟩
    obtain ⟨f0, ws, xs, e1, e2, e3⟩ := s2.st n a ha
    rw [hd] at e1
    cases e1
    have r2' : Dp K F2 w (.tuple es) := r2
    cases r2' with
    | tup h1 h2 =>
      obtain ⟨p1, p2⟩ := put_l s2 ha (dpa_app e3 h2)
      exact ⟨a, _, ws, _, rfl, rfl, e2, sqt_mono s2.sub h1, by rw [dpa_len e3, dpa_len h2]; exact small5 hl, q .non F2 _ ((st1.trans st2).trans p1) p2 .non⟩
theorem dpa_strs {F : Hp} : ∀ {vs : List V} {xs : List Str}, DpAll K F vs (xs.map PyData.str) → vs = xs.map V.str
  | _, [], .nil => rfl
  | _, x :: xs, .cons h1 h2 => by
    have h1' : Dp K F _ (.str x) := h1
    cases h1'
    rw [dpa_strs h2]
    rfl
theorem dpa_intsB {F : Hp} : ∀ {vs : List V} {xs : List Int}, DpAll K F vs (xs.map PyData.int) → vs = xs.map V.int
  | _, [], .nil => rfl
  | _, x :: xs, .cons h1 h2 => by
    have h1' : Dp K F _ (.int x) := h1
    cases h1'
    rw [dpa_intsB h2]
    rfl
theorem inV_str {x : Str} {xs : List Str} : inV (.str x) (xs.map V.str) = xs.any fun y => y == x := by
  unfold inV
  rw [List.any_map]
  rfl
theorem flat_strs {xs : List Str} : (xs.map V.str).all flatV = true := by simp [flatV]
theorem flat_ints {xs : List Int} : (xs.map V.int).all flatV = true := by simp [flatV]
theorem ev_inS {x : Str} {xs : List Str} (ha : Ev K ρ S ta (.v (.str x)) S1) (hb : Ev K ρ S1 tb (.v (.tuple (xs.map PyData.str))) S2) : Ev K ρ S (tOp (rIn K false) ta tb) (.v (.bool (xs.any fun y => y == x))) S2 :=
  ev_op ha hb fun F H u v sm hu hv Q q => by
    cases hu
    cases hv with
    | tup h1 h2 =>
      rename_i p vs
      have e := dpa_strs h2
      refine ⟨p, vs, rfl, .inr (sqt_mono sm h1), rfl, by rw [e]; exact flat_strs, ?_⟩
      rw [e, inV_str]
      exact q _ (.bl _)
theorem ev_notInS {x : Str} {xs : List Str} (ha : Ev K ρ S ta (.v (.str x)) S1) (hb : Ev K ρ S1 tb (.v (.tuple (xs.map PyData.str))) S2) : Ev K ρ S (tOp (rIn K true) ta tb) (.v (.bool (!xs.any fun y => y == x))) S2 :=
  ev_op ha hb fun F H u v sm hu hv Q q => by
    cases hu
    cases hv with
    | tup h1 h2 =>
      rename_i p vs
      have e := dpa_strs h2
      refine ⟨p, vs, rfl, .inr (sqt_mono sm h1), rfl, by rw [e]; exact flat_strs, ?_⟩
      rw [e, inV_str]
      exact q _ (.bl _)
theorem ev_sortedI {ns ms : List Int} (h : Ev K ρ S te (.v (.list (ns.map PyData.int))) S1) (hp : ms.Perm ns) (hs : ms.Pairwise (· ≤ ·)) : Ev K ρ S (tCB (rSortedI K) (tCons te tNil)) (.nl (ms.map PyData.int)) S1 := fun σ F H L E s Q q =>
  h σ F H L E s _ fun v F1 H1 st1 s1 r1 => by
    have r1' : Dp K F1 v (.list (ns.map PyData.int)) := r1
    cases r1' with
    | lst h1 h2 =>
      rename_i a xs
      have e := dpa_intsB h2
      subst e
      refine ⟨a, ns, rfl, s1.sub.seq h1, fun ns' p pm pw hn => ?_⟩
      have e2 : ns' = ms := List.Perm.eq_of_pairwise (le := (· ≤ ·)) (fun x y _ _ a b => by omega) pw hs (pm.trans hp.symm)
      subst e2
      obtain ⟨x1, x2, x3⟩ := new_lst (L := L) s1 (dpa_ints ns') hn
      exact q _ _ _ (st1.trans x1) x2 (x3.back st1)
theorem ev_listRg1 {n : Int} (h : Ev K ρ S te (.v (.int n)) S1) (hn : 0 ≤ n ∧ n ≤ 100000) : Ev K ρ S (tLstRg (tRg1 te)) (.nl (rngD 0 n.toNat)) S1 := fun σ F H L E s Q q =>
  h σ F H L E s _ fun v F1 H1 st1 s1 r1 => by
    cases r1
    refine ⟨n, rfl, RgOk.of_le (by decide) (by omega) (by decide) hn.1, fun p hp => ?_⟩
    have hd : DpAll K F1 (rgV 0 n) (rngD 0 n.toNat) := by
      have e1 : rgV 0 n = ((List.range n.toNat).map fun (i : Nat) => (0 : Int) + (i : Int)).map V.int := by
        unfold rgV
        rw [List.map_map, Int.sub_zero]
        rfl
      have e2 : rngD 0 n.toNat = ((List.range n.toNat).map fun (i : Nat) => (0 : Int) + (i : Int)).map PyData.int := by
        unfold rngD
        rw [List.map_map]
        rfl
      rw [e1, e2]
      exact dpa_ints _
    obtain ⟨x1, x2, x3⟩ := new_lst (L := L) s1 hd hp
    exact q _ _ _ (st1.trans x1) x2 (x3.back st1)
end
section
variable {X : Cx} {K : PySem.W.Frag} {o e : Expr} {es : List Expr} {to : TE} {t : TA} {name : Str} {apos cpos : Pos} {T id : String} {r : V → List V → Hp → VK → Prop}
theorem pe_bm0E (hX : X.K = K) (pa : PlainAttrs T) (slot : Slot T name id) (hty : typeOf (.builtin id) = pure (.type "method_descriptor")) (hm : MtR X id r) (ho : PE X o to)
    (h1 : attributeBase o name X.env (eval o X.env) = eval o X.env := by rfl) (h2 : (apos.endLine == cpos.line) = true := by rfl) : PE X (.Call (.Attribute o name apos) [] [] cpos) (tBM0 K T r to) := by
  subst hX
  exact pe_bm0 pa slot hty hm ho h1 h2
theorem pe_bmE (hX : X.K = K) (pa : PlainAttrs T) (slot : Slot T name id) (hty : typeOf (.builtin id) = pure (.type "method_descriptor")) (hm : MtR X id r) (ho : PE X o to) (ha : PA X (e :: es) t)
    (h1 : attributeBase o name X.env (eval o X.env) = eval o X.env := by rfl)
    (h2 : ((backTo cpos (starEach (e :: es) X.env)).all (fun x => !x.1) && (backToKw cpos (keywordEach [] X.env)).all (fun x => x.1.isSome)
      && decide ((e :: es).length + ([] : List Keyword).length + (if ([] : List Keyword).isEmpty then 0 else 1) < 30)) = true := by rfl)
    (h3 : (apos.endLine == cpos.line) = true := by rfl) (h4 : starEach (e :: es) X.env = (false, eval e X.env) :: starEach es X.env := by rfl) (h5 : (backTo cpos (starEach es X.env)).any (·.1) = false := by rfl) :
    PE X (.Call (.Attribute o name apos) (e :: es) [] cpos) (tBM K T r to t) := by
  subst hX
  exact pe_bm pa slot hty hm ho ha h1 h2 h3 h4 h5
theorem cr_sortedIK (h : X.K = K) : CallR X (.builtin "sorted") (rSortedI K) := by subst h; exact cr_sortedI
end
section
variable {a b c d e : D} {xs : List D}
theorem atI_0 : atI (a :: xs) 0 = some a := show atI _ ((0 : Nat) : Int) = _ from atI_nat rfl
theorem atI_1 : atI (a :: b :: xs) 1 = some b := show atI _ ((1 : Nat) : Int) = _ from atI_nat rfl
theorem atI_2 : atI (a :: b :: c :: xs) 2 = some c := show atI _ ((2 : Nat) : Int) = _ from atI_nat rfl
theorem atI_3 : atI (a :: b :: c :: d :: xs) 3 = some d := show atI _ ((3 : Nat) : Int) = _ from atI_nat rfl
end
end DL

namespace Lw
/-! ### sets of codes: lists of pairs -/
abbrev PL := List (Int × Int)
def inP (ps : PL) (c : Int) : Bool := ps.any fun p => decide (p.1 ≤ c) && decide (c < p.2)
structure Can (ps : PL) : Prop where
  pw : ps.Pairwise fun p q => p.2 < q.1
  bd : ∀ p ∈ ps, 0 ≤ p.1 ∧ p.1 < p.2 ∧ p.2 ≤ 128
theorem inP_iff {ps : PL} {c : Int} : inP ps c = true ↔ ∃ p ∈ ps, p.1 ≤ c ∧ c < p.2 := by
  simp [inP]
theorem inP_false {ps : PL} {c : Int} : inP ps c = false ↔ ∀ p ∈ ps, ¬ (p.1 ≤ c ∧ c < p.2) := by
  rw [← Bool.not_eq_true, inP_iff]
  constructor
  · intro h p hp hc; exact h ⟨p, hp, hc⟩
  · rintro h ⟨p, hp, hc⟩; exact h p hp hc
theorem inP_nil {c : Int} : inP [] c = false := rfl
theorem inP_cons {p : Int × Int} {ps : PL} {c : Int} : inP (p :: ps) c = (decide (p.1 ≤ c) && decide (c < p.2) || inP ps c) := rfl
theorem inP_app {ps qs : PL} {c : Int} : inP (ps ++ qs) c = (inP ps c || inP qs c) := by simp [inP]
theorem Can.tail {p : Int × Int} {ps : PL} (h : Can (p :: ps)) : Can ps := ⟨(List.pairwise_cons.mp h.pw).2, fun q hq => h.bd q (List.mem_cons_of_mem _ hq)⟩
theorem Can.first {p : Int × Int} {ps : PL} (h : Can (p :: ps)) : ∀ q ∈ ps, p.2 < q.1 := (List.pairwise_cons.mp h.pw).1
theorem can_eq : ∀ {ps qs : PL}, Can ps → Can qs → (∀ c, inP ps c = inP qs c) → ps = qs
  | [], [], _, _, _ => rfl
  | [], q :: qs, _, hq, h => by
    have hb := hq.bd q List.mem_cons_self
    have := h q.1
    rw [inP_nil] at this
    have h2 := (inP_false.mp this.symm) q List.mem_cons_self
    omega
  | p :: ps, [], hp, _, h => by
    have hb := hp.bd p List.mem_cons_self
    have := h p.1
    rw [inP_nil] at this
    have h2 := (inP_false.mp this) p List.mem_cons_self
    omega
  | p :: ps, q :: qs, hp, hq, h => by
    have bp := hp.bd p List.mem_cons_self
    have bq := hq.bd q List.mem_cons_self
    have fp := hp.first
    have fq := hq.first
    have mp : ∀ c, inP (p :: ps) c = true → p.1 ≤ c := fun c hc => by
      obtain ⟨r, hr, h1, h2⟩ := inP_iff.mp hc
      rcases List.mem_cons.mp hr with e | m
      · rw [← e]; exact h1
      · have := fp r m; omega
    have mq : ∀ c, inP (q :: qs) c = true → q.1 ≤ c := fun c hc => by
      obtain ⟨r, hr, h1, h2⟩ := inP_iff.mp hc
      rcases List.mem_cons.mp hr with e | m
      · rw [← e]; exact h1
      · have := fq r m; omega
    have e1 : p.1 = q.1 := by
      have a := mq p.1 (by rw [← h]; exact inP_iff.mpr ⟨p, List.mem_cons_self, by omega, by omega⟩)
      have b := mp q.1 (by rw [h]; exact inP_iff.mpr ⟨q, List.mem_cons_self, by omega, by omega⟩)
      omega
    have np : inP (p :: ps) p.2 = false := inP_false.mpr fun r hr => by
      rcases List.mem_cons.mp hr with e | m
      · rw [e]; omega
      · have := fp r m; omega
    have nq : inP (q :: qs) q.2 = false := inP_false.mpr fun r hr => by
      rcases List.mem_cons.mp hr with e | m
      · rw [e]; omega
      · have := fq r m; omega
    have e2 : p.2 = q.2 := by
      have a := inP_false.mp (h p.2 ▸ np) q List.mem_cons_self
      have b := inP_false.mp ((h q.2).symm ▸ nq) p List.mem_cons_self
      omega
    have epq : p = q := Prod.ext e1 e2
    subst epq
    rw [can_eq hp.tail hq.tail fun c => by
      have hc := h c
      rw [inP_cons, inP_cons] at hc
      by_cases hcp : c < p.2
      · have a : inP ps c = false := inP_false.mpr fun r hr => by have := fp r hr; omega
        have b : inP qs c = false := inP_false.mpr fun r hr => by have := fq r hr; omega
        rw [a, b]
      · have : decide (c < p.2) = false := by simpa using hcp
        rw [this, Bool.and_false, Bool.false_or, Bool.false_or] at hc
        exact hc]
/-! ranges of bits -/
def bit (bs : List Bool) (c : Int) : Bool := decide (0 ≤ c) && decide (c < 128) && bs.getD c.toNat false
def rgStep (bs : List Bool) (s : PL × Int) (c : Int) : PL × Int :=
  let i := decide (c < 128) && bs.getD c.toNat false
  let st := if i && decide (s.2 < 0) then c else s.2
  if !i && decide (0 ≤ st) then (s.1 ++ [(st, c)], -1) else (s.1, st)
def rgTo (bs : List Bool) : Nat → PL × Int
  | 0 => ([], -1)
  | n + 1 => rgStep bs (rgTo bs n) (n : Int)
def rgOf (bs : List Bool) : PL := (rgTo bs 129).1
structure RgI (bs : List Bool) (n : Nat) (s : PL × Int) : Prop where
  can : Can s.1
  st : (s.2 = -1 ∧ ∀ p ∈ s.1, p.2 < (n : Int)) ∨ (0 ≤ s.2 ∧ s.2 < (n : Int) ∧ (n : Int) ≤ 128 ∧ (∀ p ∈ s.1, p.2 < s.2) ∧ ∀ c, s.2 ≤ c → c < (n : Int) → bit bs c = true)
  mem : ∀ c, inP s.1 c = (decide (c < (n : Int)) && (decide (s.2 < 0) || decide (c < s.2)) && bit bs c)
theorem rgI (bs : List Bool) : ∀ n : Nat, n ≤ 129 → RgI bs n (rgTo bs n)
  | 0, _ => ⟨⟨List.Pairwise.nil, fun p h => by cases h⟩, .inl ⟨rfl, fun p h => by cases h⟩, fun c => by
      show inP [] c = _
      rw [inP_nil]
      by_cases h : c < 0
      · have : bit bs c = false := by simp [bit]; omega
        rw [this]; simp
      · have : decide (c < ((0 : Nat) : Int)) = false := by simpa using h
        rw [this]; simp⟩
  | n + 1, hn => by
    have ih := rgI bs n (by omega)
    show RgI bs (n + 1) (rgStep bs (rgTo bs n) (n : Int))
    generalize rgTo bs n = s at ih
    obtain ⟨ps, st⟩ := s
    have hi : (decide ((n : Int) < 128) && bs.getD (n : Int).toNat false) = bit bs (n : Int) := by
      simp [bit]
    unfold rgStep
    dsimp only
    rw [hi]
    have can := ih.can
    have mem := ih.mem
    dsimp only at can mem
    cases hb : bit bs (n : Int) with
    | true =>
      have hn128 : (n : Int) < 128 := by
        unfold bit at hb
        simp only [Bool.and_eq_true, decide_eq_true_eq] at hb
        omega
      rcases ih.st with ⟨h1, h2⟩ | ⟨h1, h2, h3, h4, h5⟩
      · dsimp only at h1 h2
        subst h1
        simp only [Bool.true_and, Bool.not_true, Bool.false_and]
        refine ⟨can, .inr ⟨?_, ?_, ?_, ?_, ?_⟩, ?_⟩
        · simp
        · simp; omega
        · simp; omega
        · simp only [show decide ((-1 : Int) < 0) = true from rfl, if_true]; exact h2
        · intro c c1 c2
          simp at c1 c2
          have : c = n := by omega
          rw [this]; exact hb
        · intro c
          rw [if_neg (by simp)]
          show inP ps c = _
          rw [mem]
          dsimp only
          simp only [show decide ((-1 : Int) < 0) = true from rfl, if_true, Bool.true_or]
          by_cases hc : c < n
          · have a : decide (c < (n : Int)) = true := by simpa using hc
            have b : decide (c < ((n + 1 : Nat) : Int)) = true := by simp; omega
            rw [a, b]
            simp
          · have a : decide (c < (n : Int)) = false := by simpa using hc
            have d : decide ((n : Int) < 0) = false := by simp
            rw [a, d]
            simp
      · dsimp only at h1 h2 h3 h4 h5
        have hd : decide (st < 0) = false := by simp; omega
        simp only [Bool.true_and, Bool.not_true, Bool.false_and, hd, Bool.false_eq_true, if_false]
        refine ⟨can, .inr ⟨h1, by simp; omega, by simp; omega, h4, fun c c1 c2 => ?_⟩, fun c => ?_⟩
        · by_cases hc : c < n
          · exact h5 c c1 hc
          · simp at c2
            have : c = n := by omega
            rw [this]; exact hb
        · dsimp only
          rw [mem]
          rw [hd]
          by_cases hc : c < st
          · have a : decide (c < (n : Int)) = true := by simp; omega
            have b : decide (c < ((n + 1 : Nat) : Int)) = true := by simp; omega
            rw [a, b]
          · have : decide (c < st) = false := by simpa using hc
            rw [this]
            simp
    | false =>
      rcases ih.st with ⟨h1, h2⟩ | ⟨h1, h2, h3, h4, h5⟩
      · dsimp only at h1 h2
        subst h1
        simp only [Bool.false_and, Bool.false_eq_true, if_false, Bool.not_false, Bool.true_and]
        rw [if_neg (by simp)]
        refine ⟨can, .inl ⟨rfl, fun p hp => by have := h2 p hp; simp; omega⟩, fun c => ?_⟩
        dsimp only
        rw [mem]
        by_cases hc : c < n
        · have a : decide (c < (n : Int)) = true := by simpa using hc
          have b : decide (c < ((n + 1 : Nat) : Int)) = true := by simp; omega
          rw [a, b]
        · by_cases hcn : c = n
          · rw [hcn, hb]; simp
          · have a : decide (c < (n : Int)) = false := by simpa using hc
            have b : decide (c < ((n + 1 : Nat) : Int)) = false := by simp; omega
            rw [a, b]
      · dsimp only at h1 h2 h3 h4 h5
        have hd : decide (0 ≤ st) = true := by simpa using h1
        simp only [Bool.false_and, Bool.false_eq_true, if_false, Bool.not_false, Bool.true_and, hd, if_true]
        refine ⟨⟨?_, ?_⟩, .inl ⟨rfl, ?_⟩, fun c => ?_⟩
        · rw [List.pairwise_append]
          refine ⟨can.pw, by simp, fun p hp q hq => ?_⟩
          have : q = (st, (n : Int)) := by simpa using hq
          subst this
          exact h4 p hp
        · intro p hp
          rcases List.mem_append.mp hp with hp | hp
          · exact can.bd p hp
          · have : p = (st, (n : Int)) := by simpa using hp
            subst this
            exact ⟨h1, h2, h3⟩
        · intro p hp
          rcases List.mem_append.mp hp with hp | hp
          · have := h4 p hp; simp; omega
          · have : p = (st, (n : Int)) := by simpa using hp
            subst this
            simp; omega
        · dsimp only
          rw [inP_app, mem]
          have e : inP [(st, (n : Int))] c = (decide (st ≤ c) && decide (c < (n : Int))) := by simp [inP]
          have hds : decide (st < 0) = false := by simp; omega
          rw [e, hds]
          by_cases c1 : c < st
          · have a : decide (c < (n : Int)) = true := by simp; omega
            have b : decide (c < ((n + 1 : Nat) : Int)) = true := by simp; omega
            have f : decide (st ≤ c) = false := by simp; omega
            have g : decide (c < st) = true := by simpa using c1
            rw [a, b, f, g]; simp
          · by_cases c2 : c < n
            · have a : decide (c < (n : Int)) = true := by simpa using c2
              have b : decide (c < ((n + 1 : Nat) : Int)) = true := by simp; omega
              have f : decide (st ≤ c) = true := by simp; omega
              have g : decide (c < st) = false := by simpa using c1
              rw [a, b, f, g, h5 c (by omega) c2]; simp
            · have a : decide (c < (n : Int)) = false := by simpa using c2
              by_cases hcn : c = n
              · rw [hcn, hb]; simp
              · have b : decide (c < ((n + 1 : Nat) : Int)) = false := by simp; omega
                rw [a, b]; simp
theorem rg_spec (bs : List Bool) : Can (rgOf bs) ∧ ∀ c, inP (rgOf bs) c = bit bs c := by
  have h := rgI bs 129 (Nat.le_refl _)
  refine ⟨h.can, fun c => ?_⟩
  unfold rgOf
  rw [h.mem]
  rcases h.st with ⟨h1, h2⟩ | ⟨h1, h2, h3, h4, h5⟩
  · rw [h1]
    cases hb : bit bs c with
    | false => simp
    | true =>
      unfold bit at hb
      simp only [Bool.and_eq_true, decide_eq_true_eq] at hb
      simp
      omega
  · exfalso
    simp at h3
def codeBits (f : Int → Bool) : List Bool := (List.range 128).map fun (i : Nat) => f (i : Int)
theorem bit_codes (f : Int → Bool) (c : Int) : bit (codeBits f) c = (decide (0 ≤ c) && decide (c < 128) && f c) := by
  unfold bit codeBits
  by_cases h : 0 ≤ c ∧ c < 128
  · obtain ⟨n, rfl⟩ : ∃ n : Nat, c = (n : Int) := ⟨c.toNat, by omega⟩
    have hn : n < 128 := by omega
    simp [List.getD, hn]
  · by_cases h0 : 0 ≤ c
    · have : decide (c < 128) = false := by simp; omega
      rw [this]; simp
    · have : decide (0 ≤ c) = false := by simpa using h0
      rw [this]; simp
/-- the one form of the codes that f has -/
def setOf (f : Int → Bool) : PL := rgOf (codeBits f)
theorem set_can (f : Int → Bool) : Can (setOf f) := (rg_spec _).1
theorem set_mem (f : Int → Bool) (c : Int) : inP (setOf f) c = (decide (0 ≤ c) && decide (c < 128) && f c) := ((rg_spec _).2 c).trans (bit_codes f c)
theorem can_out {ps : PL} (h : Can ps) {c : Int} (hc : c < 0 ∨ 128 ≤ c) : inP ps c = false := inP_false.mpr fun p hp => by have := h.bd p hp; omega
theorem set_eq {ps : PL} {f : Int → Bool} (h : Can ps) (hm : ∀ c, 0 ≤ c → c < 128 → inP ps c = f c) : ps = setOf f := can_eq h (set_can f) fun c => by
  rw [set_mem]
  by_cases hc : 0 ≤ c ∧ c < 128
  · rw [hm c hc.1 hc.2]
    have a : decide (0 ≤ c) = true := by simpa using hc.1
    have b : decide (c < 128) = true := by simpa using hc.2
    rw [a, b]; simp
  · rw [can_out h (by omega)]
    by_cases h0 : 0 ≤ c
    · have b : decide (c < 128) = false := by simp; omega
      rw [b]; simp
    · have a : decide (0 ≤ c) = false := by simpa using h0
      rw [a]; simp
theorem set_congr {f g : Int → Bool} (h : ∀ c, 0 ≤ c → c < 128 → f c = g c) : setOf f = setOf g := by
  unfold setOf codeBits
  congr 1
  apply List.map_congr_left
  intro i hi
  have := List.mem_range.mp hi
  exact h _ (by omega) (by omega)
/-! make_set -/
def mkStep (acc : PL) (p : Int × Int) : PL :=
  if p.2 ≤ p.1 then acc else
  match acc.getLast? with
  | none => acc ++ [p]
  | some l => if p.1 ≤ l.2 then acc.dropLast ++ [(l.1, max l.2 p.2)] else acc ++ [p]
def lexL (x y : Int × Int) : Prop := x.1 < y.1 ∨ (x.1 = y.1 ∧ x.2 ≤ y.2)
theorem mk_spec : ∀ (qs acc : PL), qs.Pairwise lexL → (∀ p ∈ qs, p.1 < p.2 → 0 ≤ p.1 ∧ p.2 ≤ 128) → Can acc → (∀ a ∈ acc, ∀ q ∈ qs, a.1 ≤ q.1) → Can (qs.foldl mkStep acc) ∧ ∀ c, inP (qs.foldl mkStep acc) c = (inP acc c || inP qs c)
  | [], acc, _, _, hc, _ => ⟨hc, fun c => by simp [inP_nil]⟩
  | q :: qs, acc, hp, hb, hc, ha => by
    obtain ⟨hq, hp'⟩ := List.pairwise_cons.mp hp
    have hb' : ∀ p ∈ qs, p.1 < p.2 → 0 ≤ p.1 ∧ p.2 ≤ 128 := fun p h => hb p (List.mem_cons_of_mem _ h)
    have key : Can (mkStep acc q) ∧ (∀ a ∈ mkStep acc q, ∀ r ∈ qs, a.1 ≤ r.1) ∧ ∀ c, inP (mkStep acc q) c = (inP acc c || (decide (q.1 ≤ c) && decide (c < q.2))) := by
      unfold mkStep
      by_cases he : q.2 ≤ q.1
      · rw [if_pos he]
        refine ⟨hc, fun a h r hr => ha a h r (List.mem_cons_of_mem _ hr), fun c => ?_⟩
        by_cases h1 : q.1 ≤ c
        · have : decide (c < q.2) = false := by simp; omega
          rw [this]; simp
        · have : decide (q.1 ≤ c) = false := by simpa using h1
          rw [this]; simp
      · rw [if_neg he]
        have bq := hb q List.mem_cons_self (by omega)
        have hqr : ∀ r ∈ qs, q.1 ≤ r.1 := fun r hr => by
          rcases hq r hr with h | h <;> omega
        have snoc : (∀ a ∈ acc, a.2 < q.1) → Can (acc ++ [q]) ∧ (∀ a ∈ acc ++ [q], ∀ r ∈ qs, a.1 ≤ r.1) ∧ ∀ c, inP (acc ++ [q]) c = (inP acc c || (decide (q.1 ≤ c) && decide (c < q.2))) := fun hl => by
          refine ⟨⟨?_, ?_⟩, ?_, fun c => ?_⟩
          · rw [List.pairwise_append]
            refine ⟨hc.pw, by simp, fun a h b hb => ?_⟩
            have : b = q := by simpa using hb
            subst this
            exact hl a h
          · intro p hp
            rcases List.mem_append.mp hp with hp | hp
            · exact hc.bd p hp
            · have : p = q := by simpa using hp
              subst this
              exact ⟨bq.1, by omega, bq.2⟩
          · intro a h r hr
            rcases List.mem_append.mp h with h | h
            · exact ha a h r (List.mem_cons_of_mem _ hr)
            · have : a = q := by simpa using h
              subst this
              exact hqr r hr
          · rw [inP_app]; simp [inP]
        cases hl : acc.getLast? with
        | none =>
          have : acc = [] := by simpa using hl
          subst this
          exact snoc fun a h => by cases h
        | some l =>
          obtain ⟨ys, rfl⟩ := List.getLast?_eq_some_iff.mp hl
          dsimp only
          have pw := List.pairwise_append.mp hc.pw
          by_cases hm : q.1 ≤ l.2
          · rw [if_pos hm]
            simp only [List.dropLast_concat]
            have bl := hc.bd l (by simp)
            have hlq : l.1 ≤ q.1 := ha l (by simp) q List.mem_cons_self
            refine ⟨⟨?_, ?_⟩, ?_, fun c => ?_⟩
            · rw [List.pairwise_append]
              refine ⟨pw.1, by simp, fun a h b hb => ?_⟩
              have : b = (l.1, max l.2 q.2) := by simpa using hb
              subst this
              exact pw.2.2 a h l (by simp)
            · intro p hp
              rcases List.mem_append.mp hp with hp | hp
              · exact hc.bd p (List.mem_append_left _ hp)
              · have : p = (l.1, max l.2 q.2) := by simpa using hp
                subst this
                dsimp only
                omega
            · intro a h r hr
              rcases List.mem_append.mp h with h | h
              · exact ha a (List.mem_append_left _ h) r (List.mem_cons_of_mem _ hr)
              · have : a = (l.1, max l.2 q.2) := by simpa using h
                subst this
                exact ha l (by simp) r (List.mem_cons_of_mem _ hr)
            · rw [inP_app, inP_app, Bool.or_assoc]
              congr 1
              simp only [inP, List.any_cons, List.any_nil, Bool.or_false]
              rw [Bool.eq_iff_iff]
              simp only [Bool.or_eq_true, Bool.and_eq_true, decide_eq_true_eq]
              omega
          · rw [if_neg hm]
            refine snoc fun a h => ?_
            rcases List.mem_append.mp h with h | h
            · have h1 := pw.2.2 a h l (by simp)
              have h2 := hc.bd l (by simp)
              omega
            · have : a = l := by simpa using h
              subst this
              omega
    obtain ⟨k1, k2, k3⟩ := key
    obtain ⟨r1, r2⟩ := mk_spec qs (mkStep acc q) hp' hb' k1 k2
    refine ⟨r1, fun c => ?_⟩
    show inP (qs.foldl mkStep (mkStep acc q)) c = _
    rw [r2, k3, inP_cons, Bool.or_assoc]
theorem mk_set {ps qs : PL} (hp : qs.Perm ps) (hs : qs.Pairwise lexL) (hb : ∀ p ∈ ps, p.1 < p.2 → 0 ≤ p.1 ∧ p.2 ≤ 128) : qs.foldl mkStep [] = setOf (inP ps) := by
  obtain ⟨h1, h2⟩ := mk_spec qs [] hs (fun p h => hb p (hp.mem_iff.mp h)) ⟨List.Pairwise.nil, fun p h => by cases h⟩ (fun a h => by cases h)
  refine set_eq h1 fun c _ _ => ?_
  rw [h2, inP_nil, Bool.false_or]
  rw [Bool.eq_iff_iff, inP_iff, inP_iff]
  constructor
  · rintro ⟨p, h, r⟩; exact ⟨p, hp.mem_iff.mp h, r⟩
  · rintro ⟨p, h, r⟩; exact ⟨p, hp.mem_iff.mpr h, r⟩
/-! sorted -/
def lexB (x y : Int × Int) : Bool := decide (x.1 < y.1) || (decide (x.1 = y.1) && decide (x.2 ≤ y.2))
def sortP (ps : PL) : PL := ps.mergeSort lexB
theorem sort_perm (ps : PL) : (sortP ps).Perm ps := List.mergeSort_perm _ _
theorem sort_lex (ps : PL) : (sortP ps).Pairwise lexL := by
  have := List.pairwise_mergeSort (le := lexB) (fun a b c => by
    unfold lexB
    simp only [Bool.or_eq_true, Bool.and_eq_true, decide_eq_true_eq]
    omega) (fun a b => by
    unfold lexB
    simp only [Bool.or_eq_true, Bool.and_eq_true, decide_eq_true_eq]
    omega) ps
  exact this.imp fun h => by
    unfold lexB at h
    simp only [Bool.or_eq_true, Bool.and_eq_true, decide_eq_true_eq] at h
    exact h
theorem can_len {ps : PL} (h : Can ps) : ps.length ≤ 128 := by
  have : ∀ (ps : PL) (lo : Int), Can ps → 0 ≤ lo → lo ≤ 128 → (∀ p ∈ ps, lo ≤ p.1) → (ps.length : Int) ≤ 128 - lo := by
    intro ps
    induction ps with
    | nil => intro lo _ _ _ _; simp; omega
    | cons p ps ih =>
      intro lo h h0 h1 h2
      have b := h.bd p List.mem_cons_self
      have := h2 p List.mem_cons_self
      have := ih p.2 h.tail (by omega) (by omega) fun q hq => by have := h.first q hq; omega
      simp only [List.length_cons]
      omega
  have := this ps 0 h (by omega) (by omega) fun p hp => (h.bd p hp).1
  omega
end Lw

namespace Lw
open PySem PySem.Spec PyProof.Rows L2 DL
/-! ### steps that read off a term (walk_at is the library's own open word; these rows are local) -/
local macro_rules | `(tactic| walk_at "side") => `(tactic| first | rfl | assumption | omega | decide | (simp; done) | (simp; omega))
local macro_rules | `(tactic| walk_at "rfl") => `(tactic| with_unfolding_all exact rfl)
local macro_rules | `(tactic| walk_at "at") => `(tactic| first | (with_unfolding_all exact rfl) | assumption | exact atI_0 | exact atI_1 | exact atI_2 | exact atI_3)
local macro_rules | `(tactic| walk_at "sq") => `(tactic| with_unfolding_all first | exact Or.inl rfl | exact Or.inr (Or.inl rfl) | exact Or.inr (Or.inr ⟨_, rfl, rfl⟩))
local macro_rules | `(tactic| walk_at "op2") => `(tactic| first
  | with_reducible exact o_add | with_reducible exact o_sub | with_reducible exact o_lt | with_reducible exact o_le | with_reducible exact o_gt | with_reducible exact o_ge | with_reducible exact o_eqI | with_reducible exact o_neI | with_reducible exact o_eqS | with_reducible exact o_neS | with_reducible exact o_eqB | with_reducible exact o_neB | with_reducible exact o_eqN | with_reducible exact o_isN | with_reducible exact o_notN
  | ((with_reducible apply o_mul); walk_at "side") | ((with_reducible apply o_mod); walk_at "side") | ((with_reducible apply o_div); walk_at "side") | ((with_reducible apply o_pow); walk_at "side") | ((with_reducible apply o_addS); walk_at "side"))
/-- an expression's value as data -/
local macro_rules | `(tactic| walk_at "ev") => `(tactic| first
  | with_reducible exact ev_int | with_reducible exact ev_bl | with_reducible exact ev_non | with_reducible exact ev_str
  | ((with_reducible apply ev_var); focus (walk_at "rfl"))
  | ((with_reducible apply ev_ix); (focus (walk_at "ev?")); (focus (exact rfl)); (focus (walk_at "ev")); (focus (walk_at "sq")); (focus (walk_at "at")))
  | ((with_reducible apply ev_op); (focus (walk_at "ev")); (focus (walk_at "ev")); (focus (walk_at "op2")))
  | ((with_reducible apply ev_un); (focus (walk_at "ev")); (focus (exact u_neg)))
  | ((with_reducible apply ev_chain); (focus (walk_at "ev")); (focus (walk_at "ev")); (focus (walk_at "op2")); (focus (intro _; walk_at "ev")); (focus (intro _; walk_at "op2")))
  | ((with_reducible apply ev_andB); (focus (walk_at "ev")); (focus (intro _; walk_at "ev")))
  | ((with_reducible apply ev_orB); (focus (walk_at "ev")); (focus (intro _; walk_at "ev")))
  | ((with_reducible apply ev_notV); (focus (walk_at "ev")))
  | ((with_reducible apply ev_tup); (focus (walk_at "ed")); (focus (walk_at "side")))
  | ((with_reducible apply ev_len); (focus (walk_at "ev?")); (focus (exact rfl)); (focus (walk_at "sq")))
  | ((with_reducible apply ev_tuple); (focus (walk_at "ev?")); (focus (exact rfl)); (focus (walk_at "sq")))
  | ((with_reducible apply ev_isi_bool); (focus (walk_at "ev")))
  | ((with_reducible apply ev_isi_int); (focus (walk_at "ev")))
  | ((with_reducible apply ev_isi_str); (focus (walk_at "ev")))
  | ((with_reducible apply ev_isi_tuple); (focus (walk_at "ev")))
  | ((with_reducible apply ev_isi_list); (focus (walk_at "ev")))
  | ((with_reducible apply ev_fn); (focus (walk_at "ed")); (focus (first | with_reducible exact fn_int | with_reducible exact fn_max | with_reducible exact fn_min))))
/-- a written list, or data -/
local macro_rules | `(tactic| walk_at "ev?") => `(tactic| first | walk_at "evm" | walk_at "ev")
local macro_rules | `(tactic| walk_at "evm") => `(tactic| ((with_reducible apply ev_mu); focus (walk_at "rfl")))
local macro_rules | `(tactic| walk_at "ed") => `(tactic| first
  | with_reducible exact ed_nil
  | ((with_reducible apply ed_cons); (focus (walk_at "ev")); (focus (walk_at "ed")))
  | ((with_reducible apply ed_consN); (focus (walk_at "evn")); (focus (walk_at "ed"))))
/-- a new list -/
local macro_rules | `(tactic| walk_at "evn") => `(tactic| first
  | ((with_reducible apply ev_lst); (focus (walk_at "ed")); (focus (walk_at "side")))
  | ((with_reducible apply ev_list); (focus (walk_at "ev?")); (focus (exact rfl)); (focus (walk_at "sq"))))
local macro_rules | `(tactic| walk_at "et") => `(tactic| first
  | ((with_reducible apply et_test); (focus (walk_at "ev")))
  | ((with_reducible apply et_B); (focus (walk_at "ev")))
  | ((with_reducible apply et_and); (focus (walk_at "et")); (focus (intro _; walk_at "et")))
  | ((with_reducible apply et_or); (focus (walk_at "et")); (focus (intro _; walk_at "et")))
  | ((with_reducible apply et_not); (focus (walk_at "et")))
  | ((with_reducible apply et_truB); (focus (walk_at "ev")))
  | ((with_reducible apply et_truL); (focus (walk_at "ev?")); (focus (exact rfl)); (focus (walk_at "sq"))))
/-- arguments of an own def -/
local macro_rules | `(tactic| walk_at "ea") => `(tactic| first
  | with_reducible exact ea_nil
  | ((with_reducible apply ea_consM); (focus (walk_at "evm")); (focus (walk_at "ea")))
  | ((with_reducible apply ea_cons); (focus (walk_at "ev")); (focus (walk_at "ea")))
  | ((with_reducible apply ea_consN); (focus (walk_at "evn")); (focus (walk_at "ea"))))
/-! statements -/
local macro_rules | `(tactic| walk_at "ds") => `(tactic| (try dsimp only [List.set, ρ0, List.cons_append, List.nil_append, List.replicate, List.length, Nat.reduceAdd]))
local macro_rules | `(tactic| walk_at "seq") => `(tactic| (with_reducible refine as_seq ?_))
local macro_rules | `(tactic| walk_at "asg") => `(tactic| ((try (with_reducible refine as_seq ?_)); (with_reducible apply as_asg); (focus (walk_at "ev")); walk_at "ds"))
local macro_rules | `(tactic| walk_at "asgN") => `(tactic| ((try (with_reducible refine as_seq ?_)); (with_reducible apply as_asgN); (focus (walk_at "evn")); walk_at "ds"))
local macro_rules | `(tactic| walk_at "if") => `(tactic| ((try (with_reducible refine as_seq ?_)); (with_reducible apply as_if); (focus (walk_at "et"))))
local macro_rules | `(tactic| walk_at "next") => `(tactic| ((with_reducible refine as_next ?_); dsimp only))
local macro_rules | `(tactic| walk_at "ret") => `(tactic| ((with_reducible apply as_ret); (focus (walk_at "ev")); (focus (exact rfl)); (try dsimp only)))
local macro_rules | `(tactic| walk_at "retN") => `(tactic| ((with_reducible apply as_ret); (focus (walk_at "evn")); (focus (exact rfl)); (try dsimp only)))
local macro_rules | `(tactic| walk_at "setI") => `(tactic| ((try (with_reducible refine as_seq ?_)); (with_reducible apply as_setI); (focus (walk_at "ev")); (focus (walk_at "evm")); (focus (walk_at "ev")); (focus (walk_at "rfl")); (focus (walk_at "rfl")); walk_at "ds"))
local macro_rules | `(tactic| walk_at "app") => `(tactic| ((try (with_reducible refine as_seq ?_)); (with_reducible apply as_app); (focus (walk_at "evm")); (focus (walk_at "ev")); (focus (walk_at "rfl")); (focus (walk_at "side")); walk_at "ds"))
local macro_rules | `(tactic| walk_at "ifT") => `(tactic| ((try (with_reducible refine as_seq ?_)); (with_reducible apply as_ifT); (focus (walk_at "et")); (focus (first | rfl | assumption | (simp; done) | (simp; omega)))))
local macro_rules | `(tactic| walk_at "ifF") => `(tactic| ((try (with_reducible refine as_seq ?_)); (with_reducible apply as_ifF); (focus (walk_at "et")); (focus (first | rfl | assumption | (simp; done) | (simp; omega))); (try (with_reducible refine as_next ?_)); (try dsimp only)))

def topS (i : Nat) : Stmt := PySem.Challenge.pw_firstway_k07_measures_of_trees.main.body.getD i (.Pass ⟨0, 0, 0, 0⟩)
abbrev s_parts : Stmt := topS 1
theorem sc_parts : FnScope ["tree", "kind"] ["tree"] (defScope s_parts) := ⟨rfl, rfl, rfl, by decide +kernel, rfl, by decide +kernel, by decide +kernel⟩
abbrev s_bottom_up : Stmt := topS 2
theorem sc_bottom_up : FnScope ["tree", "found", "todo", "part"] ["tree"] (defScope s_bottom_up) := ⟨rfl, rfl, rfl, by decide +kernel, rfl, by decide +kernel, by decide +kernel⟩
abbrev s_repeat_factor : Stmt := topS 4
theorem sc_repeat_factor : FnScope ["least", "most"] ["least", "most"] (defScope s_repeat_factor) := ⟨rfl, rfl, rfl, by decide +kernel, rfl, by decide +kernel, by decide +kernel⟩
abbrev s_weight : Stmt := topS 5
theorem sc_weight : FnScope ["tree", "weights", "part", "kind", "right"] ["tree"] (defScope s_weight) := ⟨rfl, rfl, rfl, by decide +kernel, rfl, by decide +kernel, by decide +kernel⟩
abbrev s_inner_groups : Stmt := topS 6
theorem sc_inner_groups : FnScope ["tree", "part"] ["tree"] (defScope s_inner_groups) := ⟨rfl, rfl, rfl, by decide +kernel, rfl, by decide +kernel, by decide +kernel⟩
abbrev s_look_total : Stmt := topS 7
theorem sc_look_total : FnScope ["tree", "part"] ["tree"] (defScope s_look_total) := ⟨rfl, rfl, rfl, by decide +kernel, rfl, by decide +kernel, by decide +kernel⟩
abbrev s__law_row : Stmt := topS 9
theorem sc__law_row : FnScope ["script", "k", "cell", "mixed"] ["script", "k"] (defScope s__law_row) := ⟨rfl, rfl, rfl, by decide +kernel, rfl, by decide +kernel, by decide +kernel⟩
abbrev s__law_digit : Stmt := topS 10
theorem sc__law_digit : FnScope ["script", "state", "many", "digit"] ["script", "state", "many"] (defScope s__law_digit) := ⟨rfl, rfl, rfl, by decide +kernel, rfl, by decide +kernel, by decide +kernel⟩
abbrev s__law_codes : Stmt := topS 11
theorem sc__law_codes : FnScope ["script", "state", "style", "low", "named", "high", "start"] ["script", "state"] (defScope s__law_codes) := ⟨rfl, rfl, rfl, by decide +kernel, rfl, by decide +kernel, by decide +kernel⟩
abbrev s__law_leaf : Stmt := topS 12
theorem sc__law_leaf : FnScope ["script", "state", "kind", "names"] ["script", "state", "kind"] (defScope s__law_leaf) := ⟨rfl, rfl, rfl, by decide +kernel, rfl, by decide +kernel, by decide +kernel⟩
abbrev s__law_repeat : Stmt := topS 13
theorem sc__law_repeat : FnScope ["script", "state", "depth", "least", "most", "greedy"] ["script", "state", "depth"] (defScope s__law_repeat) := ⟨rfl, rfl, rfl, by decide +kernel, rfl, by decide +kernel, by decide +kernel⟩
abbrev s__law_tree : Stmt := topS 14
theorem sc__law_tree : FnScope ["script", "state", "depth", "kind", "first", "number", "ahead", "positive"] ["script", "state", "depth"] (defScope s__law_tree) := ⟨rfl, rfl, rfl, by decide +kernel, rfl, by decide +kernel, by decide +kernel⟩
abbrev s__law_same : Stmt := topS 15
theorem sc__law_same : FnScope ["actual", "expected", "k"] ["actual", "expected"] (defScope s__law_same) := ⟨rfl, rfl, rfl, by decide +kernel, rfl, by decide +kernel, by decide +kernel⟩
abbrev s__law_weight : Stmt := topS 16
theorem sc__law_weight : FnScope ["tree", "times"] ["tree"] (defScope s__law_weight) := ⟨rfl, rfl, rfl, by decide +kernel, rfl, by decide +kernel, by decide +kernel⟩
abbrev s_law : Stmt := topS 17
theorem sc_law : FnScope ["script", "state", "tree"] ["script"] (defScope s_law) := ⟨rfl, rfl, rfl, by decide +kernel, rfl, by decide +kernel, by decide +kernel⟩
structure Txt (K : PySem.W.Frag) (mg : Str → Option Value) (A : Nat → Addr) (FD : Nat → FuncData) (V0 : Nat → V) : Prop where
  F_parts : Fun K "parts" "parts" s_parts (A 1) (FD 1)
  b_parts : Binds K (FD 1) ["tree"] []
  g_parts : mg "parts" = some (.ref (A 1))
  F_bottom_up : Fun K "bottom_up" "bottom_up" s_bottom_up (A 2) (FD 2)
  b_bottom_up : Binds K (FD 2) ["tree"] []
  g_bottom_up : mg "bottom_up" = some (.ref (A 2))
  F_repeat_factor : Fun K "repeat_factor" "repeat_factor" s_repeat_factor (A 4) (FD 4)
  b_repeat_factor : Binds K (FD 4) ["least", "most"] []
  g_repeat_factor : mg "repeat_factor" = some (.ref (A 4))
  F_weight : Fun K "weight" "weight" s_weight (A 5) (FD 5)
  b_weight : Binds K (FD 5) ["tree"] []
  g_weight : mg "weight" = some (.ref (A 5))
  F_inner_groups : Fun K "inner_groups" "inner_groups" s_inner_groups (A 6) (FD 6)
  b_inner_groups : Binds K (FD 6) ["tree"] []
  g_inner_groups : mg "inner_groups" = some (.ref (A 6))
  F_look_total : Fun K "look_total" "look_total" s_look_total (A 7) (FD 7)
  b_look_total : Binds K (FD 7) ["tree"] []
  g_look_total : mg "look_total" = some (.ref (A 7))
  F__law_row : Fun K "_law_row" "_law_row" s__law_row (A 9) (FD 9)
  b__law_row : Binds K (FD 9) ["script", "k"] []
  g__law_row : mg "_law_row" = some (.ref (A 9))
  F__law_digit : Fun K "_law_digit" "_law_digit" s__law_digit (A 10) (FD 10)
  b__law_digit : Binds K (FD 10) ["script", "state", "many"] []
  g__law_digit : mg "_law_digit" = some (.ref (A 10))
  F__law_codes : Fun K "_law_codes" "_law_codes" s__law_codes (A 11) (FD 11)
  b__law_codes : Binds K (FD 11) ["script", "state"] []
  g__law_codes : mg "_law_codes" = some (.ref (A 11))
  F__law_leaf : Fun K "_law_leaf" "_law_leaf" s__law_leaf (A 12) (FD 12)
  b__law_leaf : Binds K (FD 12) ["script", "state", "kind"] []
  g__law_leaf : mg "_law_leaf" = some (.ref (A 12))
  F__law_repeat : Fun K "_law_repeat" "_law_repeat" s__law_repeat (A 13) (FD 13)
  b__law_repeat : Binds K (FD 13) ["script", "state", "depth"] []
  g__law_repeat : mg "_law_repeat" = some (.ref (A 13))
  F__law_tree : Fun K "_law_tree" "_law_tree" s__law_tree (A 14) (FD 14)
  b__law_tree : Binds K (FD 14) ["script", "state", "depth"] []
  g__law_tree : mg "_law_tree" = some (.ref (A 14))
  F__law_same : Fun K "_law_same" "_law_same" s__law_same (A 15) (FD 15)
  b__law_same : Binds K (FD 15) ["actual", "expected"] []
  g__law_same : mg "_law_same" = some (.ref (A 15))
  F__law_weight : Fun K "_law_weight" "_law_weight" s__law_weight (A 16) (FD 16)
  b__law_weight : Binds K (FD 16) ["tree"] []
  g__law_weight : mg "_law_weight" = some (.ref (A 16))
  F_law : Fun K "law" "law" s_law (A 17) (FD 17)
  b_law : Binds K (FD 17) ["script"] []
  g_law : mg "law" = some (.ref (A 17))
  m_bool : mg "bool" = none
  m_int : mg "int" = none
  m_isinstance : mg "isinstance" = none
  m_len : mg "len" = none
  m_list : mg "list" = none
  m_max : mg "max" = none
  m_range : mg "range" = none
  m_sorted : mg "sorted" = none
  m_str : mg "str" = none
  m_tuple : mg "tuple" = none
section
variable {P : Program} {w : World} {K : PySem.W.Frag} {mg : Str → Option Value} {base : Heap} {A : Nat → Addr} {FD : Nat → FuncData} {V0 : Nat → V}
/-! ### parts -/
def prsD (ps : PL) : List D := ps.map encP
theorem prs_get {ps : PL} {i : Nat} {x : D} (h : (prsD ps)[i]? = some x) : ∃ p, ps[i]? = some p ∧ x = encP p := by
  unfold prsD at h
  rw [List.getElem?_map] at h
  cases e : ps[i]? with
  | none => rw [e] at h; cases h
  | some p => rw [e] at h; cases h; exact ⟨p, rfl, rfl⟩
theorem rng_get {n i : Nat} {d : D} (h : (rngD 0 n)[i]? = some d) : i < n ∧ d = .int (i : Int) := by
  have hl : i < n := by
    have := (List.getElem?_eq_some_iff.mp h).1
    rwa [rngD_len] at this
  rw [rngD_get hl, Int.zero_add] at h
  cases h
  exact ⟨hl, rfl⟩
def G__law_in (ρ : Rho) (S : Sto) (r : Rs) (S' : Sto) : Prop := ∃ ps c d, (d = .list (prsD ps) ∨ d = .tuple (prsD ps)) ∧ ρ = [.dt d, .dt (.int c)] ∧ S = [] ∧ r = .v (.bool (inP ps c)) ∧ S' = []
theorem hG__law_in : ∀ ρ S r S', G__law_in ρ S r S' → S'.length = S.length ∧ notMu r = true := by
  rintro ρ S r S' ⟨ps, c, d, _, rfl, rfl, rfl, rfl⟩
  exact ⟨rfl, rfl⟩
theorem ev_in {K : PySem.W.Frag} {ρ : Rho} {S S1 S2 : Sto} {ta te : TE} {ps : PL} {c : Int} {d : D} {E : XK} (h1 : Ev K ρ S ta (.v d) S1) (hd : d = .list (prsD ps) ∨ d = .tuple (prsD ps)) (h2 : Ev K ρ S1 te (.v (.int c)) S2) : Ev K ρ S (tCall (spA K 2 G__law_in) [] E (tCons ta (tCons te tNil))) (.v (.bool (inP ps c))) S2 :=
  ev_call0 (ea_cons h1 (ea_cons h2 ea_nil)) rfl rfl rfl ⟨ps, c, d, hd, rfl, rfl, rfl, rfl⟩
/-- the walk over pairs that asks each for a code: shared with the program's own -/
theorem in_take {ps : PL} {i : Nat} {p : Int × Int} {c : Int} (h : ps[i]? = some p) (h1 : inP (ps.take i) c = false) (h2 : (decide (p.1 ≤ c) && decide (c < p.2)) = false) : inP (ps.take (i + 1)) c = false := by
  rw [List.take_succ, h, inP_app, h1]
  simpa [inP] using h2
theorem in_found {ps : PL} {i : Nat} {p : Int × Int} {c : Int} (h : ps[i]? = some p) (h2 : (decide (p.1 ≤ c) && decide (c < p.2)) = true) : inP ps c = true :=
  inP_iff.mpr ⟨p, List.mem_of_getElem? h, by simpa using h2⟩
def G_contains (ρ : Rho) (S : Sto) (r : Rs) (S' : Sto) : Prop := ∃ ps c, ρ = [.dt (.tuple (prsD ps)), .dt (.int c)] ∧ S = [] ∧ r = .v (.bool (inP ps c)) ∧ S' = []
theorem hG_contains : ∀ ρ S r S', G_contains ρ S r S' → S'.length = S.length ∧ notMu r = true := by
  rintro ρ S r S' ⟨ps, c, rfl, rfl, rfl, rfl⟩
  exact ⟨rfl, rfl⟩
theorem ev_contains {K : PySem.W.Frag} {ρ : Rho} {S S1 S2 : Sto} {ta te : TE} {ps : PL} {c : Int} {E : XK} (h1 : Ev K ρ S ta (.v (.tuple (prsD ps))) S1) (h2 : Ev K ρ S1 te (.v (.int c)) S2) : Ev K ρ S (tCall (spA K 2 G_contains) [] E (tCons ta (tCons te tNil))) (.v (.bool (inP ps c))) S2 :=
  ev_call0 (ea_cons h1 (ea_cons h2 ea_nil)) rfl rfl rfl ⟨ps, c, rfl, rfl, rfl, rfl⟩
def oD : Option Int → D
  | none => .none
  | some c => .int c
def inO (ps : PL) : Option Int → Bool
  | none => false
  | some c => inP ps c
def G__is_in (ρ : Rho) (S : Sto) (r : Rs) (S' : Sto) : Prop := ∃ ps o, ρ = [.dt (.tuple (prsD ps)), .dt (oD o)] ∧ S = [] ∧ r = .v (.bool (inO ps o)) ∧ S' = []
theorem hG__is_in : ∀ ρ S r S', G__is_in ρ S r S' → S'.length = S.length ∧ notMu r = true := by
  rintro ρ S r S' ⟨ps, o, rfl, rfl, rfl, rfl⟩
  exact ⟨rfl, rfl⟩
theorem ev_is_in {K : PySem.W.Frag} {ρ : Rho} {S S1 S2 : Sto} {ta tb : TE} {ps : PL} {o : Option Int} {E : XK} (h1 : Ev K ρ S ta (.v (.tuple (prsD ps))) S1) (h2 : Ev K ρ S1 tb (.v (oD o)) S2) : Ev K ρ S (tCall (spA K 2 G__is_in) [] E (tCons ta (tCons tb tNil))) (.v (.bool (inO ps o))) S2 :=
  ev_call0 (ea_cons h1 (ea_cons h2 ea_nil)) rfl rfl rfl ⟨ps, o, rfl, rfl, rfl, rfl⟩
def wordP : PL := [(48, 58), (65, 91), (95, 96), (97, 123)]
def endsP : PL := [(10, 11), (13, 14)]
def noneO : Option Int → Bool
  | none => true
  | _ => false
def anNames : List Str := ["text_start", "text_end", "line_start", "line_end", "word_boundary", "no_word_boundary"]
def anB (k : Nat) (b a : Option Int) : Bool :=
  match k with
  | 0 => noneO b
  | 1 => noneO a
  | 2 => noneO b || inO endsP b
  | 3 => noneO a || inO endsP a
  | 4 => inO wordP b != inO wordP a
  | _ => !(inO wordP b != inO wordP a)
def G_anchor_holds (ρ : Rho) (S : Sto) (r : Rs) (S' : Sto) : Prop := ∃ k b a, k < 6 ∧ ρ = [.dt (.str (anNames.getD k "")), .dt (oD b), .dt (oD a)] ∧ S = [] ∧ r = .v (.bool (anB k b a)) ∧ S' = []
theorem hG_anchor_holds : ∀ ρ S r S', G_anchor_holds ρ S r S' → S'.length = S.length ∧ notMu r = true := by
  rintro ρ S r S' ⟨k, b, a, _, rfl, rfl, rfl, rfl⟩
  exact ⟨rfl, rfl⟩
theorem ev_anchor {K : PySem.W.Frag} {ρ : Rho} {S S1 S2 S3 : Sto} {tn ta tb : TE} {k : Nat} {b a : Option Int} {E : XK} (h0 : Ev K ρ S tn (.v (.str (anNames.getD k ""))) S1) (h1 : Ev K ρ S1 ta (.v (oD b)) S2) (h2 : Ev K ρ S2 tb (.v (oD a)) S3) (hk : k < 6) : Ev K ρ S (tCall (spA K 3 G_anchor_holds) [] E (tCons tn (tCons ta (tCons tb tNil)))) (.v (.bool (anB k b a))) S3 :=
  ev_call0 (ea_cons h0 (ea_cons h1 (ea_cons h2 ea_nil))) rfl rfl rfl ⟨k, b, a, hk, rfl, rfl, rfl, rfl⟩
theorem isN_oD (o : Option Int) : (match oD o with | .none => true | _ => false) = noneO o := by cases o <;> rfl
theorem ev_isNone {K : PySem.W.Frag} {ρ : Rho} {S : Sto} {ta : TE} {o : Option Int} (h : Ev K ρ S ta (.v (oD o)) S) : Ev K ρ S (tOp (fun x y H Q => y = .non ∧ Q (.bl (decide (x = .non))) H) ta (tC .non)) (.v (.bool (noneO o))) S :=
  ev_is (ev_op h ev_non o_isN) (by cases o <;> rfl)
/-! ### pattern trees -/
inductive Tr where
  | set (ps : PL)
  | emp
  | anc (k : Nat)
  | seq (a b : Tr)
  | cho (a b : Tr)
  | rep (a : Tr) (lo : Int) (hi : Option Int) (g : Bool)
  | grp (n : Int) (a : Tr)
  | look (ah po : Bool) (a : Tr)
def trK : Tr → Str
  | .set _ => "set"
  | .emp => "empty"
  | .anc _ => "anchor"
  | .seq _ _ => "sequence"
  | .cho _ _ => "choice"
  | .rep _ _ _ _ => "repeat"
  | .grp _ _ => "group"
  | .look _ _ _ => "look"
def trD : Tr → D
  | .set ps => .tuple [.str "set", .tuple (prsD ps)]
  | .emp => .tuple [.str "empty"]
  | .anc k => .tuple [.str "anchor", .str (anNames.getD k "")]
  | .seq a b => .tuple [.str "sequence", trD a, trD b]
  | .cho a b => .tuple [.str "choice", trD a, trD b]
  | .rep a lo hi g => .tuple [.str "repeat", trD a, .int lo, oD hi, .bool g]
  | .grp n a => .tuple [.str "group", .int n, trD a]
  | .look ah po a => .tuple [.str "look", .bool ah, .bool po, trD a]
def kids : Tr → List Tr
  | .seq a b => [a, b]
  | .cho a b => [a, b]
  | .rep a _ _ _ => [a]
  | .grp _ a => [a]
  | .look _ _ a => [a]
  | _ => []
def tsz : Tr → Nat
  | .seq a b => tsz a + tsz b + 1
  | .cho a b => tsz a + tsz b + 1
  | .rep a _ _ _ => tsz a + 1
  | .grp _ a => tsz a + 1
  | .look _ _ a => tsz a + 1
  | _ => 1
def post : Tr → List Tr
  | .seq a b => post a ++ post b ++ [.seq a b]
  | .cho a b => post a ++ post b ++ [.cho a b]
  | .rep a lo hi g => post a ++ [.rep a lo hi g]
  | .grp n a => post a ++ [.grp n a]
  | .look ah po a => post a ++ [.look ah po a]
  | t => [t]
theorem post_len (t : Tr) : (post t).length = tsz t := by
  induction t with
  | set _ => rfl
  | emp => rfl
  | anc _ => rfl
  | seq a b ha hb => simp [post, tsz, ha, hb]; omega
  | cho a b ha hb => simp [post, tsz, ha, hb]; omega
  | rep a _ _ _ ha => simp [post, tsz, ha]
  | grp _ a ha => simp [post, tsz, ha]
  | look _ _ a ha => simp [post, tsz, ha]
theorem tsz_pos (t : Tr) : 1 ≤ tsz t := by cases t <;> simp [tsz]
def rpost (t : Tr) : List Tr := (post t).reverse
theorem rpost_eq (t : Tr) : rpost t = t :: (kids t).reverse.flatMap rpost := by
  cases t <;> simp [rpost, post, kids]
def szs (ts : List Tr) : Nat := (ts.map tsz).sum
theorem szs_app (a b : List Tr) : szs (a ++ b) = szs a + szs b := by simp [szs]
theorem szs_kids (t : Tr) : szs (kids t) + 1 = tsz t := by cases t <;> simp [szs, kids, tsz]
theorem szs_len (ts : List Tr) : ts.length ≤ szs ts := by
  induction ts with
  | nil => exact Nat.le_refl _
  | cons t ts ih =>
    have := tsz_pos t
    simp only [szs, List.map_cons, List.sum_cons, List.length_cons] at ih ⊢
    omega
/-- the first item of a tree: its kind -/
theorem tr_kind (t : Tr) : ∃ ds, trD t = .tuple (.str (trK t) :: ds) := by cases t <;> exact ⟨_, rfl⟩
theorem ev_kind {K : PySem.W.Frag} {ρ : Rho} {S S1 : Sto} {ta : TE} {t : Tr} (h : Ev K ρ S ta (.v (trD t)) S1) : Ev K ρ S (tOp (rIx K) ta (tC (.int 0))) (.v (.str (trK t))) S1 := by
  obtain ⟨ds, e⟩ := tr_kind t
  rw [e] at h
  exact ev_ix h rfl ev_int (.inr (.inl rfl)) atI_0
/-- a test of the kind -/
def isK (t : Tr) (x : Str) : Bool := decide (trK t = x)
/-- a loop over the trees of a tree, parts first, that keeps a pile of what it found for each -/
theorem post_loop {K : PySem.W.Frag} {n0 : Nat} {tb : TS} {bind : D → Rho → Rho} {A : AE} {chk : Sto → Prop} (N : Nat) (P : Nat → List D → Rho → Sto → Prop) (f : Tr → D) (ok : Tr → Prop) (okk : ∀ p, ok p → ∀ k ∈ kids p, ok k)
    (hb : ∀ p, ok p → ∀ n, n < N → ∀ W ρ S, P n (W ++ (kids p).map f) ρ S → As K n0 tb ⟨fun ρ' S' => chk S' ∧ P (n + 1) (W ++ [f p]) ρ' S', A.rt, A.nx, fun ρ' S' => chk S' ∧ P (n + 1) (W ++ [f p]) ρ' S'⟩ (bind (trD p) ρ) S) :
    ∀ t, ok t → ∀ rest W n, n + tsz t ≤ N → (∀ ρ S, P (n + tsz t) (W ++ [f t]) ρ S → Loop K n0 tb bind A chk rest ρ S) → ∀ ρ S, P n W ρ S → Loop K n0 tb bind A chk ((post t).map trD ++ rest) ρ S := by
  have node : ∀ p, ok p → ∀ rest W n, n < N → (∀ ρ S, P (n + 1) (W ++ [f p]) ρ S → Loop K n0 tb bind A chk rest ρ S) → ∀ ρ S, P n (W ++ (kids p).map f) ρ S → Loop K n0 tb bind A chk (trD p :: rest) ρ S := fun p hp rest W n hn h ρ S hP =>
    (hb p hp n hn W ρ S hP).mono (fun ρ S h1 => ⟨h1.1, h _ _ h1.2⟩) (fun _ _ h => h) (fun _ _ h => h) (fun ρ S h1 => ⟨h1.1, h _ _ h1.2⟩)
  have one : ∀ a p, kids p = [a] → post p = post a ++ [p] → tsz p = tsz a + 1 → ok p → (∀ rest W n, n + tsz a ≤ N → (∀ ρ S, P (n + tsz a) (W ++ [f a]) ρ S → Loop K n0 tb bind A chk rest ρ S) → ∀ ρ S, P n W ρ S → Loop K n0 tb bind A chk ((post a).map trD ++ rest) ρ S) → ∀ rest W n, n + tsz p ≤ N → (∀ ρ S, P (n + tsz p) (W ++ [f p]) ρ S → Loop K n0 tb bind A chk rest ρ S) → ∀ ρ S, P n W ρ S → Loop K n0 tb bind A chk ((post p).map trD ++ rest) ρ S := by
    intro a p h1 h2 h3 hp ih rest W n hn h ρ S hP
    rw [h2, List.map_append, List.append_assoc]
    refine ih _ W n (by omega) (fun ρ S hP => ?_) ρ S hP
    refine node p hp rest W (n + tsz a) (by omega) (fun ρ S hP => h ρ S ?_) ρ S (by rw [h1]; exact hP)
    rw [h3, ← Nat.add_assoc]
    exact hP
  have two : ∀ a b p, kids p = [a, b] → post p = post a ++ post b ++ [p] → tsz p = tsz a + tsz b + 1 → ok p → (∀ rest W n, n + tsz a ≤ N → (∀ ρ S, P (n + tsz a) (W ++ [f a]) ρ S → Loop K n0 tb bind A chk rest ρ S) → ∀ ρ S, P n W ρ S → Loop K n0 tb bind A chk ((post a).map trD ++ rest) ρ S) →
      (∀ rest W n, n + tsz b ≤ N → (∀ ρ S, P (n + tsz b) (W ++ [f b]) ρ S → Loop K n0 tb bind A chk rest ρ S) → ∀ ρ S, P n W ρ S → Loop K n0 tb bind A chk ((post b).map trD ++ rest) ρ S) → ∀ rest W n, n + tsz p ≤ N → (∀ ρ S, P (n + tsz p) (W ++ [f p]) ρ S → Loop K n0 tb bind A chk rest ρ S) → ∀ ρ S, P n W ρ S → Loop K n0 tb bind A chk ((post p).map trD ++ rest) ρ S := by
    intro a b p h1 h2 h3 hp iha ihb rest W n hn h ρ S hP
    rw [h2, List.map_append, List.map_append, List.append_assoc, List.append_assoc]
    refine iha _ W n (by omega) (fun ρ S hP => ?_) ρ S hP
    refine ihb _ (W ++ [f a]) (n + tsz a) (by omega) (fun ρ S hP => ?_) ρ S hP
    refine node p hp rest W (n + tsz a + tsz b) (by omega) (fun ρ S hP => h ρ S ?_) ρ S (by rw [h1]; simpa using hP)
    rw [h3, ← Nat.add_assoc, ← Nat.add_assoc]
    exact hP
  have leaf : ∀ p, kids p = [] → post p = [p] → tsz p = 1 → ok p → ∀ rest W n, n + tsz p ≤ N → (∀ ρ S, P (n + tsz p) (W ++ [f p]) ρ S → Loop K n0 tb bind A chk rest ρ S) → ∀ ρ S, P n W ρ S → Loop K n0 tb bind A chk ((post p).map trD ++ rest) ρ S := by
    intro p h1 h2 h3 hp rest W n hn h ρ S hP
    rw [h2]
    rw [h3] at hn h
    exact node p hp rest W n (by omega) h ρ S (by rw [h1]; simpa using hP)
  intro t
  induction t with
  | set ps => exact fun h => leaf _ rfl rfl rfl h
  | emp => exact fun h => leaf _ rfl rfl rfl h
  | anc k => exact fun h => leaf _ rfl rfl rfl h
  | seq a b iha ihb => exact fun h => two a b _ rfl rfl rfl h (iha (okk _ h a (by simp [kids]))) (ihb (okk _ h b (by simp [kids])))
  | cho a b iha ihb => exact fun h => two a b _ rfl rfl rfl h (iha (okk _ h a (by simp [kids]))) (ihb (okk _ h b (by simp [kids])))
  | rep a lo hi g iha => exact fun h => one a _ rfl rfl rfl h (iha (okk _ h a (by simp [kids])))
  | grp n a iha => exact fun h => one a _ rfl rfl rfl h (iha (okk _ h a (by simp [kids])))
  | look ah po a iha => exact fun h => one a _ rfl rfl rfl h (iha (okk _ h a (by simp [kids])))
def G_parts (ρ : Rho) (S : Sto) (r : Rs) (S' : Sto) : Prop := ∃ t, ρ = [.dt (trD t)] ∧ S = [] ∧ r = .v (.tuple ((kids t).map trD)) ∧ S' = []
theorem hG_parts : ∀ ρ S r S', G_parts ρ S r S' → S'.length = S.length ∧ notMu r = true := by
  rintro ρ S r S' ⟨t, rfl, rfl, rfl, rfl⟩
  exact ⟨rfl, rfl⟩
theorem ev_parts {K : PySem.W.Frag} {ρ : Rho} {S S1 : Sto} {ta : TE} {t : Tr} {E : XK} (h1 : Ev K ρ S ta (.v (trD t)) S1) : Ev K ρ S (tCall (spA K 1 G_parts) [] E (tCons ta tNil)) (.v (.tuple ((kids t).map trD))) S1 :=
  ev_call0 (ea_cons h1 ea_nil) rfl rfl rfl ⟨t, rfl, rfl, rfl, rfl⟩
theorem ok_parts (T : Txt K mg A FD V0) : FnOk P w K mg base CX0 1 (A 1) (FD 1) ["tree"] (spA K 1 G_parts) := by
  refine fun_okA (k := 0) (m := 1) T.F_parts sc_parts rfl rfl hG_parts (fun cdv Ar outer s H E hr => ⟨_, (pss_cons (ps_set (i := 1) sc_parts.nd rfl (by first | exact Or.inl rfl | exact Or.inr rfl) (pe_ix (ix_seqK (K := K) rfl) (pv 0) pe_int (fun _ _ => rfl))) (pss_cons (ps_if (pt_cmpR (op_in_seqK (K := K) rfl) (pv 1) (pe_tup (pa_cons pe_str (pa_cons pe_str pa_nil))) (by first | exact nomark _ | rfl)) (pss_one (ps_ret (pe_tup (pa_cons (pe_ix (ix_seqK (K := K) rfl) (pv 0) pe_int (fun _ _ => rfl)) (pa_cons (pe_ix (ix_seqK (K := K) rfl) (pv 0) pe_int (fun _ _ => rfl)) pa_nil))))) pss_nil) (pss_cons (ps_if (pt_cmpR (op_in_seqK (K := K) rfl) (pv 1) (pe_tup (pa_cons pe_str (pa_cons pe_str (pa_cons pe_str pa_nil)))) (by first | exact nomark _ | rfl)) (pss_one (ps_ret (pe_tup (pa_cons (pe_ix (ix_seqK (K := K) rfl) (pv 0) pe_int (fun _ _ => rfl)) pa_nil)))) pss_nil) (pss_cons (ps_if (pt_cmpR op_eq (pv 1) pe_str (by first | exact nomark _ | rfl)) (pss_one (ps_ret (pe_tup (pa_cons (pe_ix (ix_seqK (K := K) rfl) (pv 0) pe_int (fun _ _ => rfl)) pa_nil)))) pss_nil) (pss_cons (ps_if (pt_cmpR op_eq (pv 1) pe_str (by first | exact nomark _ | rfl)) (pss_one (ps_ret (pe_tup (pa_cons (pe_ix (ix_seqK (K := K) rfl) (pv 0) pe_int (fun _ _ => rfl)) pa_nil)))) pss_nil) (pss_one (ps_ret (pe_tup pa_nil)))))))), fun ρ S r S' hρ g => ?_⟩)
  try dsimp only [cxOf]
  obtain ⟨t, rfl, rfl, rfl, rfl⟩ := g
  refine as_seq (as_asg (ev_kind (t := t) (ev_var rfl)) ?_)
  try dsimp only [List.set]
  have i2 : ∀ {ρ : Rho} {S : Sto} {k : Str}, ρ[1]? = some (.dt (.str k)) → EvT K ρ S (tTest (tOp (rIn K false) (tVar 1) (tTup (tCons (tC (.str "sequence")) (tCons (tC (.str "choice")) tNil))))) (["sequence", "choice"].any fun y => (y : Str) == k) S := fun h => et_test (ev_inS (xs := ["sequence", "choice"]) (ev_var h) (ev_tup (ed_cons ev_str (ed_cons ev_str ed_nil)) (show 2 ≤ 100000 by decide)))
  have i3 : ∀ {ρ : Rho} {S : Sto} {k : Str}, ρ[1]? = some (.dt (.str k)) → EvT K ρ S (tTest (tOp (rIn K false) (tVar 1) (tTup (tCons (tC (.str "repeat")) (tCons (tC (.str "nonempty")) (tCons (tC (.str "star")) tNil)))))) (["repeat", "nonempty", "star"].any fun y => (y : Str) == k) S := fun h => et_test (ev_inS (xs := ["repeat", "nonempty", "star"]) (ev_var h) (ev_tup (ed_cons ev_str (ed_cons ev_str (ed_cons ev_str ed_nil))) (show 3 ≤ 100000 by decide)))
  have i1 : ∀ {ρ : Rho} {S : Sto} {k x : Str}, ρ[1]? = some (.dt (.str k)) → EvT K ρ S (tTest (tOp rEq (tVar 1) (tC (.str x)))) (decide (k = x)) S := fun h => et_test (ev_op (ev_var h) ev_str o_eqS)
  cases t with
  | seq a b =>
    refine as_seq (as_ifT (i2 rfl) (by kernel_rfl) ?_)
    exact as_ret (ev_tup (ed_cons (ev_ix (ev_var rfl) rfl ev_int (.inr (.inl rfl)) rfl) (ed_cons (ev_ix (ev_var rfl) rfl ev_int (.inr (.inl rfl)) rfl) ed_nil)) (show 2 ≤ 100000 by decide)) rfl ⟨.inl rfl, rfl⟩
  | cho a b =>
    refine as_seq (as_ifT (i2 rfl) (by kernel_rfl) ?_)
    exact as_ret (ev_tup (ed_cons (ev_ix (ev_var rfl) rfl ev_int (.inr (.inl rfl)) rfl) (ed_cons (ev_ix (ev_var rfl) rfl ev_int (.inr (.inl rfl)) rfl) ed_nil)) (show 2 ≤ 100000 by decide)) rfl ⟨.inl rfl, rfl⟩
  | rep a lo hi gr =>
    refine as_seq (as_ifF (i2 rfl) (by kernel_rfl) (as_next ?_))
    refine as_seq (as_ifT (i3 rfl) (by kernel_rfl) ?_)
    exact as_ret (ev_tup (ed_cons (ev_ix (ev_var rfl) rfl ev_int (.inr (.inl rfl)) rfl) ed_nil) (show 1 ≤ 100000 by decide)) rfl ⟨.inl rfl, rfl⟩
  | grp n a =>
    refine as_seq (as_ifF (i2 rfl) (by kernel_rfl) (as_next ?_))
    refine as_seq (as_ifF (i3 rfl) (by kernel_rfl) (as_next ?_))
    refine as_seq (as_ifT (i1 rfl) (by kernel_rfl) ?_)
    exact as_ret (ev_tup (ed_cons (ev_ix (ev_var rfl) rfl ev_int (.inr (.inl rfl)) rfl) ed_nil) (show 1 ≤ 100000 by decide)) rfl ⟨.inl rfl, rfl⟩
  | look ah po a =>
    refine as_seq (as_ifF (i2 rfl) (by kernel_rfl) (as_next ?_))
    refine as_seq (as_ifF (i3 rfl) (by kernel_rfl) (as_next ?_))
    refine as_seq (as_ifF (i1 rfl) (by kernel_rfl) (as_next ?_))
    refine as_seq (as_ifT (i1 rfl) (by kernel_rfl) ?_)
    exact as_ret (ev_tup (ed_cons (ev_ix (ev_var rfl) rfl ev_int (.inr (.inl rfl)) rfl) ed_nil) (show 1 ≤ 100000 by decide)) rfl ⟨.inl rfl, rfl⟩
  | set ps =>
    refine as_seq (as_ifF (i2 rfl) (by kernel_rfl) (as_next ?_))
    refine as_seq (as_ifF (i3 rfl) (by kernel_rfl) (as_next ?_))
    refine as_seq (as_ifF (i1 rfl) (by kernel_rfl) (as_next ?_))
    refine as_seq (as_ifF (i1 rfl) (by kernel_rfl) (as_next ?_))
    exact as_ret (ev_tup ed_nil (show 0 ≤ 100000 by decide)) rfl ⟨.inl rfl, rfl⟩
  | emp =>
    refine as_seq (as_ifF (i2 rfl) (by kernel_rfl) (as_next ?_))
    refine as_seq (as_ifF (i3 rfl) (by kernel_rfl) (as_next ?_))
    refine as_seq (as_ifF (i1 rfl) (by kernel_rfl) (as_next ?_))
    refine as_seq (as_ifF (i1 rfl) (by kernel_rfl) (as_next ?_))
    exact as_ret (ev_tup ed_nil (show 0 ≤ 100000 by decide)) rfl ⟨.inl rfl, rfl⟩
  | anc k =>
    refine as_seq (as_ifF (i2 rfl) (by kernel_rfl) (as_next ?_))
    refine as_seq (as_ifF (i3 rfl) (by kernel_rfl) (as_next ?_))
    refine as_seq (as_ifF (i1 rfl) (by kernel_rfl) (as_next ?_))
    refine as_seq (as_ifF (i1 rfl) (by kernel_rfl) (as_next ?_))
    exact as_ret (ev_tup ed_nil (show 0 ≤ 100000 by decide)) rfl ⟨.inl rfl, rfl⟩
/-! ### bottom_up -/
def G_bottom_up (ρ : Rho) (S : Sto) (r : Rs) (S' : Sto) : Prop := ∃ t, tsz t ≤ 50000 ∧ ρ = [.dt (trD t)] ∧ S = [] ∧ r = .nl ((post t).map trD) ∧ S' = []
theorem hG_bottom_up : ∀ ρ S r S', G_bottom_up ρ S r S' → S'.length = S.length ∧ notMu r = true := by
  rintro ρ S r S' ⟨t, _, rfl, rfl, rfl, rfl⟩
  exact ⟨rfl, rfl⟩
theorem ev_bottom {K : PySem.W.Frag} {ρ : Rho} {S S1 : Sto} {ta : TE} {t : Tr} {E : XK} (h1 : Ev K ρ S ta (.v (trD t)) S1) (h : tsz t ≤ 50000) : Ev K ρ S (tCall (spA K 1 G_bottom_up) [] E (tCons ta tNil)) (.nl ((post t).map trD)) S1 :=
  ev_call0 (ea_cons h1 ea_nil) rfl rfl rfl ⟨t, h, rfl, rfl, rfl, rfl⟩
theorem bu_step {Fs T : List Tr} {p : Tr} {R : List Tr} (h : Fs ++ (T ++ [p]).reverse.flatMap rpost = R) : (Fs ++ [p]) ++ (T ++ kids p).reverse.flatMap rpost = R := by
  rw [← h, List.reverse_append, List.reverse_append, List.flatMap_append, List.flatMap_append]
  simp only [List.reverse_cons, List.reverse_nil, List.nil_append, List.flatMap_cons, List.flatMap_nil, List.append_nil]
  conv => rhs; rw [rpost_eq p]
  simp
theorem ok_bottom_up (T : Txt K mg A FD V0) : FnOk P w K mg base CX0 2 (A 2) (FD 2) ["tree"] (spA K 1 G_bottom_up) := by
  refine fun_okA (k := 1) (m := 3) T.F_bottom_up sc_bottom_up rfl rfl hG_bottom_up (fun cdv Ar outer s H E hr => ⟨_, (pss_cons (ps_set (i := 1) sc_bottom_up.nd rfl (by first | exact Or.inl rfl | exact Or.inr rfl) (pe_lst pa_nil)) (pss_cons (ps_set (i := 2) sc_bottom_up.nd rfl (by first | exact Or.inl rfl | exact Or.inr rfl) (pe_lst (pa_cons (pv 0) pa_nil))) (pss_cons (ps_while PassesOwn.never (pt_truthK (K := K) rfl (pv 2) (by intro _; rfl)) (pss_cons (ps_set (i := 3) sc_bottom_up.nd rfl (by first | exact Or.inl rfl | exact Or.inr rfl) (pe_bm0E (K := K) rfl PySem.F.plainAttrs_list PySem.F.slot_list_pop PySem.F.type_list_pop mt_pop (pv 2))) (pss_cons (ps_expr (pe_bmE (K := K) rfl PySem.F.plainAttrs_list PySem.F.slot_list_append PySem.F.type_list_append mt_append (pv 1) (pa_cons (pv 3) pa_nil))) (pss_one (ps_expr (pe_bmE (K := K) rfl PySem.F.plainAttrs_list PySem.F.slot_list_extend PySem.F.type_list_extend (mt_extendT (K := K) rfl) (pv 2) (pa_cons (pe_call (ok_parts T) (hr.mono (by omega)) (by rfl) T.g_parts T.F_parts.kp T.b_parts .nil pass0 (pa_cons (pv 3) pa_nil)) pa_nil))))))) (pss_cons (ps_expr (pe_bm0E (K := K) rfl PySem.F.plainAttrs_list PySem.F.slot_list_reverse PySem.F.type_list_reverse mt_reverse (pv 1))) (pss_one (ps_ret (pv 1))))))), fun ρ S r S' hρ g => ?_⟩)
  try dsimp only [cxOf]
  obtain ⟨t, ht, rfl, rfl, rfl, rfl⟩ := g
  walk_at "asgN"
  refine as_seq (as_asgN (ev_lst (ed_cons (ev_var rfl) ed_nil) (show 1 ≤ 100000 by decide)) ?_)
  try dsimp only [List.set, List.length, List.cons_append, List.nil_append, Nat.reduceAdd]
  refine as_seq (as_while (W := fun m ρ' S' => ∃ e Fs T, ρ' = [.dt (trD t), .mu 0, .mu 1, e] ∧ S' = [Fs.map trD, T.map trD] ∧ Fs ++ T.reverse.flatMap rpost = rpost t ∧ Fs.length + szs T = tsz t ∧ m = szs T) (tsz t) ⟨_, [], [t], rfl, rfl, by simp, by simp [szs], by simp [szs]⟩ ?_)
  rintro m ρ S hS ⟨e, Fs, T, rfl, rfl, hF, hl, hm⟩
  have hTl := szs_len T
  rcases List.eq_nil_or_concat T with rfl | ⟨T', p, rfl⟩
  · refine ⟨false, _, et_truL (ds := ([] : List Tr).map trD) (ev_mu (n := 1) rfl) rfl (.inr (.inr ⟨1, rfl, rfl⟩)), ⟨fun h => (by cases h), fun _ => ?_⟩⟩
    have hFs : Fs = rpost t := by simpa using hF
    subst hFs
    refine as_seq (as_drop (ev_rev (ev_mu rfl) rfl) ?_)
    try dsimp only [List.set]
    refine as_retM (n := 0) (ev_mu rfl) (Nat.le_refl _) rfl ⟨.inl ?_, rfl⟩
    rw [← List.map_reverse]
    simp [rpost]
  · have hsz : szs (T' ++ [p]) = szs T' + tsz p := by rw [szs_app]; simp [szs]
    rw [List.concat_eq_append] at *
    have hkd := szs_kids p
    refine ⟨true, _, et_is (et_truL (ds := (T' ++ [p]).map trD) (ev_mu (n := 1) rfl) rfl (.inr (.inr ⟨1, rfl, rfl⟩))) (by simp), ⟨fun _ => ?_, fun h => (by cases h)⟩⟩
    refine as_seq (as_asg (d := trD p) (ev_pop (n := 1) (ds := T'.map trD) (ev_mu rfl) (by simp)) ?_)
    try dsimp only [List.set]
    refine as_seq (as_app (n := 0) (ev_mu rfl) (ev_var rfl) rfl (by simp; omega) ?_)
    try dsimp only [List.set]
    refine as_drop (ev_extT (n := 1) (es := (kids p).map trD) (ev_mu rfl) (ev_parts (ev_var rfl)) rfl (by
      have := szs_len T'
      have := szs_len (kids p)
      simp
      omega)) ?_
    refine ⟨szs T' + szs (kids p), by omega, rfl, _, Fs ++ [p], T' ++ kids p, rfl, by simp, bu_step hF, by simp [szs_app]; omega, by rw [szs_app]⟩
/-! ### repeat_factor -/
def fct (lo : Int) : Option Int → Int
  | none => lo + 1
  | some m => max 1 m
def G_repeat_factor (ρ : Rho) (S : Sto) (r : Rs) (S' : Sto) : Prop := ∃ lo hi, ρ = [.dt (.int lo), .dt (oD hi)] ∧ S = [] ∧ r = .v (.int (fct lo hi)) ∧ S' = []
theorem hG_repeat_factor : ∀ ρ S r S', G_repeat_factor ρ S r S' → S'.length = S.length ∧ notMu r = true := by
  rintro ρ S r S' ⟨lo, hi, rfl, rfl, rfl, rfl⟩
  exact ⟨rfl, rfl⟩
theorem ev_factor {K : PySem.W.Frag} {ρ : Rho} {S S1 S2 : Sto} {ta tb : TE} {lo : Int} {hi : Option Int} {E : XK} (h1 : Ev K ρ S ta (.v (.int lo)) S1) (h2 : Ev K ρ S1 tb (.v (oD hi)) S2) : Ev K ρ S (tCall (spA K 2 G_repeat_factor) [] E (tCons ta (tCons tb tNil))) (.v (.int (fct lo hi))) S2 :=
  ev_call0 (ea_cons h1 (ea_cons h2 ea_nil)) rfl rfl rfl ⟨lo, hi, rfl, rfl, rfl, rfl⟩
theorem ok_repeat_factor (T : Txt K mg A FD V0) : FnOk P w K mg base CX0 1 (A 4) (FD 4) ["least", "most"] (spA K 2 G_repeat_factor) := by
  refine fun_okA (k := 0) (m := 0) T.F_repeat_factor sc_repeat_factor rfl rfl hG_repeat_factor (fun cdv Ar outer s H E hr => ⟨_, (pss_cons (ps_if (pt_cmpR op_isN (pv 1) pe_non (by first | exact nomark _ | rfl)) (pss_one (ps_ret (pe_op op_add (pv 0) pe_int))) pss_nil) (pss_one (ps_ret (pe_callB (call_max2 rfl) (by rfl) T.m_max (by decide +kernel) (pa_cons pe_int (pa_cons (pv 1) pa_nil)))))), fun ρ S r S' hρ g => ?_⟩)
  try dsimp only [cxOf]
  obtain ⟨lo, hi, rfl, rfl, rfl, rfl⟩ := g
  cases hi with
  | none =>
    refine as_seq (as_ifT (et_test (ev_isNone (o := none) (ev_var rfl))) rfl ?_)
    exact as_ret (ev_op (ev_var rfl) ev_int o_add) rfl ⟨.inl rfl, rfl⟩
  | some m =>
    refine as_seq (as_ifF (et_test (ev_isNone (o := some m) (ev_var rfl))) rfl (as_next ?_))
    exact as_ret (ev_fn (ed_cons ev_int (ed_cons (ev_var rfl) ed_nil)) fn_max) rfl ⟨.inl rfl, rfl⟩
/-! ### weight -/
def wt : Tr → Int
  | .seq a b => wt a + wt b
  | .cho a b => wt a + wt b
  | .rep a lo hi _ => wt a * fct lo hi
  | .grp _ a => wt a
  | .look _ _ a => wt a
  | _ => 1
def repOk : Tr → Prop
  | .seq a b => repOk a ∧ repOk b
  | .cho a b => repOk a ∧ repOk b
  | .rep a lo hi _ => repOk a ∧ -(2 ^ 64) < fct lo hi ∧ fct lo hi < 2 ^ 64
  | .grp _ a => repOk a
  | .look _ _ a => repOk a
  | _ => True
theorem repOk_kids (p : Tr) (h : repOk p) : ∀ k ∈ kids p, repOk k := by
  intro k hk
  cases p <;> simp only [kids, List.mem_cons, List.not_mem_nil, or_false] at hk
  · rcases hk with rfl | rfl
    · exact h.1
    · exact h.2
  · rcases hk with rfl | rfl
    · exact h.1
    · exact h.2
  · subst hk; exact h.1
  · subst hk; exact h
  · subst hk; exact h
def G_weight (ρ : Rho) (S : Sto) (r : Rs) (S' : Sto) : Prop := ∃ t, tsz t ≤ 50000 ∧ repOk t ∧ ρ = [.dt (trD t)] ∧ S = [] ∧ r = .v (.int (wt t)) ∧ S' = []
theorem hG_weight : ∀ ρ S r S', G_weight ρ S r S' → S'.length = S.length ∧ notMu r = true := by
  rintro ρ S r S' ⟨t, _, _, rfl, rfl, rfl, rfl⟩
  exact ⟨rfl, rfl⟩
theorem ev_weight {K : PySem.W.Frag} {ρ : Rho} {S S1 : Sto} {ta : TE} {t : Tr} {E : XK} (h1 : Ev K ρ S ta (.v (trD t)) S1) (h : tsz t ≤ 50000) (hr : repOk t) : Ev K ρ S (tCall (spA K 1 G_weight) [] E (tCons ta tNil)) (.v (.int (wt t))) S1 :=
  ev_call0 (ea_cons h1 ea_nil) rfl rfl rfl ⟨t, h, hr, rfl, rfl, rfl, rfl⟩
theorem ok_weight (T : Txt K mg A FD V0) : FnOk P w K mg base CX0 3 (A 5) (FD 5) ["tree"] (spA K 1 G_weight) := by
  refine fun_okA (k := 2) (m := 4) T.F_weight sc_weight rfl rfl hG_weight (fun cdv Ar outer s H E hr => ⟨_, (pss_cons (ps_set (i := 1) sc_weight.nd rfl (by first | exact Or.inl rfl | exact Or.inr rfl) (pe_lst pa_nil)) (pss_cons (ps_for PassesOwn.never rfl (pi_seqK (K := K) rfl (pe_call (ok_bottom_up T) (hr.mono (by omega)) (by rfl) T.g_bottom_up T.F_bottom_up.kp T.b_bottom_up .nil pass0 (pa_cons (pv 0) pa_nil))) (pg_name (i := 2) sc_weight.nd rfl (by first | exact Or.inl rfl | exact Or.inr rfl)) (pss_cons (ps_set (i := 3) sc_weight.nd rfl (by first | exact Or.inl rfl | exact Or.inr rfl) (pe_ix (ix_seqK (K := K) rfl) (pv 2) pe_int (fun _ _ => rfl))) (pss_one (ps_if (pt_cmpR (op_in_seqK (K := K) rfl) (pv 3) (pe_tup (pa_cons pe_str (pa_cons pe_str pa_nil))) (by first | exact nomark _ | rfl)) (pss_cons (ps_set (i := 4) sc_weight.nd rfl (by first | exact Or.inl rfl | exact Or.inr rfl) (pe_bm0E (K := K) rfl PySem.F.plainAttrs_list PySem.F.slot_list_pop PySem.F.type_list_pop mt_pop (pv 1))) (pss_one (ps_expr (pe_bmE (K := K) rfl PySem.F.plainAttrs_list PySem.F.slot_list_append PySem.F.type_list_append mt_append (pv 1) (pa_cons (pe_op op_add (pe_bm0E (K := K) rfl PySem.F.plainAttrs_list PySem.F.slot_list_pop PySem.F.type_list_pop mt_pop (pv 1)) (pv 4)) pa_nil))))) (pss_one (ps_if (pt_cmpR op_eq (pv 3) pe_str (by first | exact nomark _ | rfl)) (pss_one (ps_expr (pe_bmE (K := K) rfl PySem.F.plainAttrs_list PySem.F.slot_list_append PySem.F.type_list_append mt_append (pv 1) (pa_cons (pe_op op_mul (pe_bm0E (K := K) rfl PySem.F.plainAttrs_list PySem.F.slot_list_pop PySem.F.type_list_pop mt_pop (pv 1)) (pe_call (ok_repeat_factor T) (hr.mono (by omega)) (by rfl) T.g_repeat_factor T.F_repeat_factor.kp T.b_repeat_factor .nil pass0 (pa_cons (pe_ix (ix_seqK (K := K) rfl) (pv 2) pe_int (fun _ _ => rfl)) (pa_cons (pe_ix (ix_seqK (K := K) rfl) (pv 2) pe_int (fun _ _ => rfl)) pa_nil)))) pa_nil)))) (pss_one (ps_if (pt_cmpR (op_notIn_seqK (K := K) rfl) (pv 3) (pe_tup (pa_cons pe_str (pa_cons pe_str pa_nil))) (by first | exact nomark _ | rfl)) (pss_one (ps_expr (pe_bmE (K := K) rfl PySem.F.plainAttrs_list PySem.F.slot_list_append PySem.F.type_list_append mt_append (pv 1) (pa_cons pe_int pa_nil)))) pss_nil)))))))) (pss_one (ps_ret (pe_ix (ix_seqK (K := K) rfl) (pv 1) pe_int (fun _ _ => rfl)))))), fun ρ S r S' hρ g => ?_⟩)
  try dsimp only [cxOf]
  obtain ⟨t, ht, hr0, rfl, rfl, rfl, rfl⟩ := g
  walk_at "asgN"
  have in2 : ∀ {ρ : Rho} {S : Sto} {k : Str}, ρ[3]? = some (.dt (.str k)) → EvT K ρ S (tTest (tOp (rIn K false) (tVar 3) (tTup (tCons (tC (.str "sequence")) (tCons (tC (.str "choice")) tNil))))) (["sequence", "choice"].any fun y => (y : Str) == k) S := fun h => et_test (ev_inS (xs := ["sequence", "choice"]) (ev_var h) (ev_tup (ed_cons ev_str (ed_cons ev_str ed_nil)) (show 2 ≤ 100000 by decide)))
  have in3 : ∀ {ρ : Rho} {S : Sto} {k : Str}, ρ[3]? = some (.dt (.str k)) → EvT K ρ S (tTest (tOp (rIn K true) (tVar 3) (tTup (tCons (tC (.str "group")) (tCons (tC (.str "look")) tNil))))) (!["group", "look"].any fun y => (y : Str) == k) S := fun h => et_test (ev_notInS (xs := ["group", "look"]) (ev_var h) (ev_tup (ed_cons ev_str (ed_cons ev_str ed_nil)) (show 2 ≤ 100000 by decide)))
  have i1 : ∀ {ρ : Rho} {S : Sto} {k x : Str}, ρ[3]? = some (.dt (.str k)) → EvT K ρ S (tTest (tOp rEq (tVar 3) (tC (.str x)))) (decide (k = x)) S := fun h => et_test (ev_op (ev_var h) ev_str o_eqS)
  have hlp := post_len t
  refine as_seq (as_for (bind := bN 2) (wk_nl (ev_bottom (ev_var rfl) ht)) trivial (fun d _ => tg_bN) ?_)
  rw [← List.append_nil ((post t).map trD)]
  refine post_loop (tsz t) (fun n W ρ' S' => (∃ e1 e2 e3, ρ' = [.dt (trD t), .mu 0, e1, e2, e3]) ∧ S' = [W] ∧ W.length ≤ n) (fun p => .int (wt p)) repOk repOk_kids ?_ t hr0 [] [] 0 (by omega) ?_ _ _ ⟨⟨_, _, _, rfl⟩, rfl, Nat.le_refl _⟩
  · rintro p hp n hn W ρ S ⟨⟨e1, e2, e3, rfl⟩, rfl, hl⟩
    show As _ _ _ _ [.dt (trD t), .mu 0, .dt (trD p), e2, e3] _
    refine as_seq (as_asg (ev_kind (t := p) (ev_var rfl)) ?_)
    try dsimp only [List.set]
    simp only [List.length_append, List.length_map] at hl
    cases p with
    | set ps =>
      have hl : W.length ≤ n := hl
      refine as_ifF (in2 rfl) (by kernel_rfl) ?_
      refine as_ifF (i1 rfl) (by kernel_rfl) ?_
      refine as_ifT (in3 rfl) (by kernel_rfl) ?_
      refine as_app (n := 0) (ds := W) (d := .int 1) (ev_mu rfl) ev_int (by simp [kids]) (by omega) ⟨trivial, ⟨_, _, _, rfl⟩, rfl, by simp; omega⟩
    | emp =>
      have hl : W.length ≤ n := hl
      refine as_ifF (in2 rfl) (by kernel_rfl) ?_
      refine as_ifF (i1 rfl) (by kernel_rfl) ?_
      refine as_ifT (in3 rfl) (by kernel_rfl) ?_
      refine as_app (n := 0) (ds := W) (d := .int 1) (ev_mu rfl) ev_int (by simp [kids]) (by omega) ⟨trivial, ⟨_, _, _, rfl⟩, rfl, by simp; omega⟩
    | anc k =>
      have hl : W.length ≤ n := hl
      refine as_ifF (in2 rfl) (by kernel_rfl) ?_
      refine as_ifF (i1 rfl) (by kernel_rfl) ?_
      refine as_ifT (in3 rfl) (by kernel_rfl) ?_
      refine as_app (n := 0) (ds := W) (d := .int 1) (ev_mu rfl) ev_int (by simp [kids]) (by omega) ⟨trivial, ⟨_, _, _, rfl⟩, rfl, by simp; omega⟩
    | seq a b =>
      have hl : W.length + 2 ≤ n := hl
      refine as_ifT (in2 rfl) (by kernel_rfl) ?_
      refine as_seq (as_asg (d := .int (wt b)) (ev_pop (n := 0) (ds := W ++ [.int (wt a)]) (ev_mu rfl) (by simp [kids])) ?_)
      try dsimp only [List.set]
      refine as_app (n := 0) (ds := W) (d := .int (wt a + wt b)) (ev_mu rfl) (ev_op (ev_pop (n := 0) (ds := W) (d := .int (wt a)) (ev_mu rfl) rfl) (ev_var rfl) o_add) rfl (by omega) ⟨trivial, ⟨_, _, _, rfl⟩, rfl, by simp; omega⟩
    | cho a b =>
      have hl : W.length + 2 ≤ n := hl
      refine as_ifT (in2 rfl) (by kernel_rfl) ?_
      refine as_seq (as_asg (d := .int (wt b)) (ev_pop (n := 0) (ds := W ++ [.int (wt a)]) (ev_mu rfl) (by simp [kids])) ?_)
      try dsimp only [List.set]
      refine as_app (n := 0) (ds := W) (d := .int (wt a + wt b)) (ev_mu rfl) (ev_op (ev_pop (n := 0) (ds := W) (d := .int (wt a)) (ev_mu rfl) rfl) (ev_var rfl) o_add) rfl (by omega) ⟨trivial, ⟨_, _, _, rfl⟩, rfl, by simp; omega⟩
    | rep a lo hi gr =>
      have hl : W.length + 1 ≤ n := hl
      refine as_ifF (in2 rfl) (by kernel_rfl) ?_
      refine as_ifT (i1 rfl) (by kernel_rfl) ?_
      refine as_app (n := 0) (ds := W) (d := .int (wt a * fct lo hi)) (ev_mu rfl) (ev_op (ev_pop (n := 0) (ds := W) (d := .int (wt a)) (ev_mu rfl) rfl) (ev_factor (lo := lo) (hi := hi) (ev_ix (ev_var rfl) rfl ev_int (.inr (.inl rfl)) rfl) (ev_ix (ev_var rfl) rfl ev_int (.inr (.inl rfl)) rfl)) (o_mul (.inr hp.2))) rfl (by omega) ⟨trivial, ⟨_, _, _, rfl⟩, rfl, by simp; omega⟩
    | grp m a =>
      refine as_ifF (in2 rfl) (by kernel_rfl) ?_
      refine as_ifF (i1 rfl) (by kernel_rfl) ?_
      refine as_ifF (in3 rfl) (by kernel_rfl) (as_next ⟨trivial, ⟨_, _, _, rfl⟩, rfl, ?_⟩)
      have hl : W.length + 1 ≤ n := hl
      simp; omega
    | look ah po a =>
      refine as_ifF (in2 rfl) (by kernel_rfl) ?_
      refine as_ifF (i1 rfl) (by kernel_rfl) ?_
      refine as_ifF (in3 rfl) (by kernel_rfl) (as_next ⟨trivial, ⟨_, _, _, rfl⟩, rfl, ?_⟩)
      have hl : W.length + 1 ≤ n := hl
      simp; omega
  · rintro ρ S ⟨⟨e1, e2, e3, rfl⟩, rfl, hl⟩
    exact as_ret (ev_ix (ds := [.int (wt t)]) (ev_mu rfl) rfl ev_int (.inr (.inr ⟨0, rfl, rfl⟩)) rfl) rfl ⟨.inl rfl, rfl⟩
/-! ### inner_groups -/
def gs : Tr → List Int
  | .seq a b => gs a ++ gs b
  | .cho a b => gs a ++ gs b
  | .rep a _ _ _ => gs a
  | .grp n a => gs a ++ [n]
  | .look _ _ a => gs a
  | _ => []
def grpNum : D → D
  | .tuple [_, .int n, _] => .int n
  | d => d
def isGrp : D → Bool
  | .tuple (.str x :: _) => decide (x = ("group" : Str))
  | _ => false
theorem isGrp_tr (t : Tr) : isGrp (trD t) = decide (trK t = ("group" : Str)) := by cases t <;> rfl
def isG : Tr → Bool
  | .grp _ _ => true
  | _ => false
theorem isGrp_G (t : Tr) : isGrp (trD t) = isG t := by cases t <;> (show _ = _; kernel_rfl)
theorem gs_post (t : Tr) : (((post t).map trD).filter isGrp).map grpNum = (gs t).map PyData.int := by
  induction t with
  | set _ => simp [post, isGrp_G, isG, gs]
  | emp => simp [post, isGrp_G, isG, gs]
  | anc _ => simp [post, isGrp_G, isG, gs]
  | seq a b ha hb => simp [post, isGrp_G, isG, gs, ha, hb]
  | cho a b ha hb => simp [post, isGrp_G, isG, gs, ha, hb]
  | rep a _ _ _ ha => simp [post, isGrp_G, isG, gs, ha]
  | grp _ a ha => simp [post, isGrp_G, isG, gs, ha]; rfl
  | look _ _ a ha => simp [post, isGrp_G, isG, gs, ha]
def leI (a b : Int) : Bool := decide (a ≤ b)
def sortI (ns : List Int) : List Int := ns.mergeSort leI
theorem sortI_perm (ns : List Int) : (sortI ns).Perm ns := List.mergeSort_perm _ _
theorem sortI_le (ns : List Int) : (sortI ns).Pairwise (· ≤ ·) := (List.pairwise_mergeSort (le := leI) (fun a b c => by simp only [leI, decide_eq_true_eq]; omega) (fun a b => by simp only [leI, Bool.or_eq_true, decide_eq_true_eq]; omega) ns).imp fun h => by simpa [leI] using h
theorem sortI_eq {ns ms : List Int} (h : ms.Perm ns) (hp : ms.Pairwise (· ≤ ·)) : sortI ns = ms := List.Perm.eq_of_pairwise (le := (· ≤ ·)) (fun x y _ _ a b => by omega) (sortI_le ns) hp ((sortI_perm ns).trans h.symm)
def G_inner_groups (ρ : Rho) (S : Sto) (r : Rs) (S' : Sto) : Prop := ∃ t, tsz t ≤ 50000 ∧ ρ = [.dt (trD t)] ∧ S = [] ∧ r = .nl ((sortI (gs t)).map .int) ∧ S' = []
theorem hG_inner_groups : ∀ ρ S r S', G_inner_groups ρ S r S' → S'.length = S.length ∧ notMu r = true := by
  rintro ρ S r S' ⟨t, _, rfl, rfl, rfl, rfl⟩
  exact ⟨rfl, rfl⟩
theorem ev_inner {K : PySem.W.Frag} {ρ : Rho} {S S1 : Sto} {ta : TE} {t : Tr} {E : XK} (h1 : Ev K ρ S ta (.v (trD t)) S1) (h : tsz t ≤ 50000) : Ev K ρ S (tCall (spA K 1 G_inner_groups) [] E (tCons ta tNil)) (.nl ((sortI (gs t)).map .int)) S1 :=
  ev_call0 (ea_cons h1 ea_nil) rfl rfl rfl ⟨t, h, rfl, rfl, rfl, rfl⟩
theorem ok_inner_groups (T : Txt K mg A FD V0) : FnOk P w K mg base CX0 3 (A 6) (FD 6) ["tree"] (spA K 1 G_inner_groups) := by
  refine fun_okA (k := 2) (m := 1) T.F_inner_groups sc_inner_groups rfl rfl hG_inner_groups (fun cdv Ar outer s H E hr => ⟨_, (pss_one (ps_ret (pe_callB (cr_sortedIK (K := K) rfl) (by rfl) T.m_sorted (by decide +kernel) (pa_cons (pe_lc (own := [("part", 1)]) (g := gName 1) (by rfl) sc_inner_groups.nd (pi_seqK (K := K) rfl (pe_call (ok_bottom_up T) (hr.mono (by omega)) (by rfl) T.g_bottom_up T.F_bottom_up.kp T.b_bottom_up .nil pass0 (pa_cons (pv 0) pa_nil))) (blkOk_by (own := [("part", 1)]) (N := ["tree", "part"]) (sc := defScope s_inner_groups) (by decide +kernel)) (fun _ _ _ _ _ => (pg_name (i := 1) sc_inner_groups.nd rfl (by first | exact Or.inl rfl | exact Or.inr rfl))) (fun _ _ _ _ _ => (pts_one (pt_cmpR op_eq (pe_ix (ix_seqK (K := K) rfl) (pv 1) pe_int (fun _ _ => rfl)) pe_str (by first | exact nomark _ | rfl)))) (fun _ _ _ _ _ => (pe_ix (ix_seqK (K := K) rfl) (pv 1) pe_int (fun _ _ => rfl)))) pa_nil)))), fun ρ S r S' hρ g => ?_⟩)
  try dsimp only [cxOf]
  obtain ⟨t, ht, rfl, rfl, rfl, rfl⟩ := g
  have hlp := post_len t
  refine as_ret (S1 := []) (ev_sortedI (ns := gs t) (ev_fr (ev_is (ev_lc (ds := (post t).map trD) (bind := bN 1) (wk_nl (ev_bottom (ev_var rfl) ht)) (fun d _ => tg_bN) (tgw_name (by simp)) (by simp; omega) (lc_pure trivial isGrp grpNum (fun d hd => ?_))) (by rw [gs_post]))) (sortI_perm _) (sortI_le _)) rfl ⟨.inl rfl, rfl⟩
  obtain ⟨p, _, rfl⟩ := List.mem_map.mp hd
  refine ⟨?_, fun h => ?_⟩
  · rw [isGrp_tr]
    exact et_test (ev_op (ev_kind (t := p) (ev_var rfl)) ev_str o_eqS)
  · rw [isGrp_G] at h
    cases p with
    | grp n a => exact ⟨_, ev_ix (ev_var rfl) rfl ev_int (.inr (.inl rfl)) rfl, .inl rfl⟩
    | _ => cases h
/-! ### look_total -/
def lks : Tr → Nat
  | .seq a b => lks a + lks b
  | .cho a b => lks a + lks b
  | .rep a _ _ _ => lks a
  | .grp n a => lks a
  | .look _ _ a => lks a + 1
  | _ => 0
def isLk : D → Bool
  | .tuple (.str x :: _) => decide (x = ("look" : Str))
  | _ => false
theorem isLk_tr (t : Tr) : isLk (trD t) = decide (trK t = ("look" : Str)) := by cases t <;> rfl
def isL : Tr → Bool
  | .look _ _ _ => true
  | _ => false
theorem isLk_L (t : Tr) : isLk (trD t) = isL t := by cases t <;> (show _ = _; kernel_rfl)
theorem lks_post (t : Tr) : ((((post t).map trD).filter isLk).map id).length = lks t := by
  induction t with
  | set _ => simp [post, isLk_L, isL, lks]
  | emp => simp [post, isLk_L, isL, lks]
  | anc _ => simp [post, isLk_L, isL, lks]
  | seq a b ha hb => simp at ha hb; simp [post, isLk_L, isL, lks, ha, hb]
  | cho a b ha hb => simp at ha hb; simp [post, isLk_L, isL, lks, ha, hb]
  | rep a _ _ _ ha => simp at ha; simp [post, isLk_L, isL, lks, ha]
  | grp _ a ha => simp at ha; simp [post, isLk_L, isL, lks, ha]
  | look _ _ a ha => simp at ha; simp [post, isLk_L, isL, lks, ha]
def G_look_total (ρ : Rho) (S : Sto) (r : Rs) (S' : Sto) : Prop := ∃ t, tsz t ≤ 50000 ∧ ρ = [.dt (trD t)] ∧ S = [] ∧ r = .v (.int (lks t : Int)) ∧ S' = []
theorem hG_look_total : ∀ ρ S r S', G_look_total ρ S r S' → S'.length = S.length ∧ notMu r = true := by
  rintro ρ S r S' ⟨t, _, rfl, rfl, rfl, rfl⟩
  exact ⟨rfl, rfl⟩
theorem ev_looks {K : PySem.W.Frag} {ρ : Rho} {S S1 : Sto} {ta : TE} {t : Tr} {E : XK} (h1 : Ev K ρ S ta (.v (trD t)) S1) (h : tsz t ≤ 50000) : Ev K ρ S (tCall (spA K 1 G_look_total) [] E (tCons ta tNil)) (.v (.int (lks t : Int))) S1 :=
  ev_call0 (ea_cons h1 ea_nil) rfl rfl rfl ⟨t, h, rfl, rfl, rfl, rfl⟩
theorem ok_look_total (T : Txt K mg A FD V0) : FnOk P w K mg base CX0 3 (A 7) (FD 7) ["tree"] (spA K 1 G_look_total) := by
  refine fun_okA (k := 2) (m := 1) T.F_look_total sc_look_total rfl rfl hG_look_total (fun cdv Ar outer s H E hr => ⟨_, (pss_one (ps_ret (pe_callB (call_lenK (K := K) rfl) (by rfl) T.m_len PySem.boot_len (pa_cons (pe_lc (own := [("part", 1)]) (g := gName 1) (by rfl) sc_look_total.nd (pi_seqK (K := K) rfl (pe_call (ok_bottom_up T) (hr.mono (by omega)) (by rfl) T.g_bottom_up T.F_bottom_up.kp T.b_bottom_up .nil pass0 (pa_cons (pv 0) pa_nil))) (blkOk_by (own := [("part", 1)]) (N := ["tree", "part"]) (sc := defScope s_look_total) (by decide +kernel)) (fun _ _ _ _ _ => (pg_name (i := 1) sc_look_total.nd rfl (by first | exact Or.inl rfl | exact Or.inr rfl))) (fun _ _ _ _ _ => (pts_one (pt_cmpR op_eq (pe_ix (ix_seqK (K := K) rfl) (pv 1) pe_int (fun _ _ => rfl)) pe_str (by first | exact nomark _ | rfl)))) (fun _ _ _ _ _ => (pv 1))) pa_nil)))), fun ρ S r S' hρ g => ?_⟩)
  try dsimp only [cxOf]
  obtain ⟨t, ht, rfl, rfl, rfl, rfl⟩ := g
  have hlp := post_len t
  refine as_ret (S1 := []) (ev_is (ev_len (ev_fr (ev_lc (ds := (post t).map trD) (bind := bN 1) (wk_nl (ev_bottom (ev_var rfl) ht)) (fun d _ => tg_bN) (tgw_name (by simp)) (by simp; omega) (lc_pure trivial isLk id (fun d hd => ?_)))) rfl (.inl rfl)) (by rw [lks_post])) rfl ⟨.inl rfl, rfl⟩
  obtain ⟨p, _, rfl⟩ := List.mem_map.mp hd
  refine ⟨?_, fun h => ⟨_, ev_var rfl, .inl rfl⟩⟩
  rw [isLk_tr]
  exact et_test (ev_op (ev_kind (t := p) (ev_var rfl)) ev_str o_eqS)
/-! ### _law_row -/
def intsD (ns : List Int) : D := .list (ns.map PyData.int)
def rowCell (ns : List Int) (k : Int) : Int := if k < (ns.length : Int) then ns.getD k.toNat 0 else 0
def rowAbs (ns : List Int) (k : Int) : Int := if rowCell ns k < 0 then 1 - 2 * rowCell ns k else rowCell ns k
def rowMix (ns : List Int) (k : Int) : Int := ((rowAbs ns k + 7919 * k + 1) * 6364136223846793005 + 1442695040888963407) % 2305843009213693951
def lawRow (ns : List Int) (k : Int) : Int := if rowAbs ns k ≥ 10 ^ 9 then rowAbs ns k else (rowMix ns k * rowMix ns k + 104729 * k + 977) % 2305843009213693951
theorem lawRow_nn (ns : List Int) (k : Int) : 0 ≤ lawRow ns k := by
  unfold lawRow
  split
  · omega
  · exact Int.emod_nonneg _ (by decide)
theorem atI_ints {ns : List Int} {k : Int} (h0 : 0 ≤ k) (h : k < (ns.length : Int)) : atI (ns.map PyData.int) k = some (.int (ns.getD k.toNat 0)) := by
  obtain ⟨j, rfl⟩ : ∃ j : Nat, k = (j : Int) := ⟨k.toNat, by omega⟩
  have hl : j < ns.length := by omega
  refine atI_nat ?_
  rw [List.getElem?_map, List.getElem?_eq_getElem hl]
  simp [List.getD, List.getElem?_eq_getElem hl]
def G__law_row (ρ : Rho) (S : Sto) (r : Rs) (S' : Sto) : Prop := ∃ ns k, 0 ≤ k ∧ ρ = [.dt (intsD ns), .dt (.int k)] ∧ S = [] ∧ r = .v (.int (lawRow ns k)) ∧ S' = []
theorem hG__law_row : ∀ ρ S r S', G__law_row ρ S r S' → S'.length = S.length ∧ notMu r = true := by
  rintro ρ S r S' ⟨ns, k, _, rfl, rfl, rfl, rfl⟩
  exact ⟨rfl, rfl⟩
theorem ok__law_row (T : Txt K mg A FD V0) : FnOk P w K mg base CX0 1 (A 9) (FD 9) ["script", "k"] (spA K 2 G__law_row) := by
  refine fun_okA (k := 0) (m := 2) T.F__law_row sc__law_row rfl rfl hG__law_row (fun cdv Ar outer s H E hr => ⟨_, (pss_cons (ps_set (i := 2) sc__law_row.nd rfl (by first | exact Or.inl rfl | exact Or.inr rfl) pe_int) (pss_cons (ps_if (pt_cmpR op_lt (pv 1) (pe_callB (call_lenK (K := K) rfl) (by rfl) T.m_len PySem.boot_len (pa_cons (pv 0) pa_nil)) (by first | exact nomark _ | rfl)) (pss_one (ps_set (i := 2) sc__law_row.nd rfl (by first | exact Or.inl rfl | exact Or.inr rfl) (pe_ix (ix_seqK (K := K) rfl) (pv 0) (pv 1) (fun _ _ => rfl)))) pss_nil) (pss_cons (ps_if (pt_cmpR op_lt (pv 2) pe_int (by first | exact nomark _ | rfl)) (pss_one (ps_set (i := 2) sc__law_row.nd rfl (by first | exact Or.inl rfl | exact Or.inr rfl) (pe_op op_sub pe_int (pe_op op_mul pe_int (pv 2))))) pss_nil) (pss_cons (ps_if (pt_cmpR op_ge (pv 2) (pe_op op_pow pe_int pe_int) (by first | exact nomark _ | rfl)) (pss_one (ps_ret (pv 2))) pss_nil) (pss_cons (ps_set (i := 3) sc__law_row.nd rfl (by first | exact Or.inl rfl | exact Or.inr rfl) (pe_op op_mod (pe_callTy call_int1 (by rfl) T.m_int (by decide +kernel) (pa_cons (pe_op op_add (pe_op op_mul (pe_op op_add (pe_op op_add (pv 2) (pe_op op_mul pe_int (pv 1))) pe_int) pe_int) pe_int) pa_nil)) pe_int)) (pss_one (ps_ret (pe_op op_mod (pe_callTy call_int1 (by rfl) T.m_int (by decide +kernel) (pa_cons (pe_op op_add (pe_op op_add (pe_op op_mul (pv 3) (pv 3)) (pe_op op_mul pe_int (pv 1))) pe_int) pa_nil)) pe_int)))))))), fun ρ S r S' hρ g => ?_⟩)
  try dsimp only [cxOf]
  obtain ⟨ns, k, hk, rfl, rfl, rfl, rfl⟩ := g
  unfold intsD
  have hlen : ((ns.map PyData.int).length : Int) = (ns.length : Int) := by simp
  walk_at "asg"
  refine as_seqJ (ρ1 := [.dt (.list (ns.map PyData.int)), .dt (.int k), .dt (.int (rowCell ns k)), .un]) (S1 := []) ?_ ?_
  · walk_at "if"
    · intro hb
      have hb : k < (ns.length : Int) := by simpa using hb
      refine as_asg (d := .int (ns.getD k.toNat 0)) (ev_ix (ev_var rfl) rfl (ev_var rfl) (.inl rfl) (atI_ints hk hb)) ?_
      refine ⟨?_, rfl⟩
      unfold rowCell
      rw [if_pos hb]
      rfl
    · intro hb
      have hb : ¬ k < (ns.length : Int) := by simpa using hb
      refine as_next ⟨?_, rfl⟩
      unfold rowCell
      rw [if_neg hb]
  refine as_seqJ (ρ1 := [.dt (.list (ns.map PyData.int)), .dt (.int k), .dt (.int (rowAbs ns k)), .un]) (S1 := []) ?_ ?_
  · walk_at "if"
    · intro hb
      have hb : rowCell ns k < 0 := by simpa using hb
      walk_at "asg"
      refine ⟨?_, rfl⟩
      unfold rowAbs
      rw [if_pos hb]
    · intro hb
      have hb : ¬ rowCell ns k < 0 := by simpa using hb
      refine as_next ⟨?_, rfl⟩
      unfold rowAbs
      rw [if_neg hb]
  have hmx : (rowMix ns k).natAbs < 2 ^ 61 := by
    have h1 := Int.emod_nonneg ((rowAbs ns k + 7919 * k + 1) * 6364136223846793005 + 1442695040888963407) (b := 2305843009213693951) (by decide)
    have h2 := Int.emod_lt_of_pos ((rowAbs ns k + 7919 * k + 1) * 6364136223846793005 + 1442695040888963407) (b := 2305843009213693951) (by decide)
    unfold rowMix
    omega
  walk_at "if"
  · intro hb
    walk_at "ret"
    refine ⟨.inl ?_, rfl⟩
    unfold lawRow
    rw [if_pos (by simpa using hb)]
  · intro hb
    refine as_next ?_
    walk_at "asg"
    walk_at "ret"
    refine ⟨.inl ?_, rfl⟩
    unfold lawRow
    rw [if_neg (show ¬ rowAbs ns k ≥ 10 ^ 9 from of_decide_eq_false hb)]
    rfl
/-! ### _law_digit -/
abbrev St2 := Int × Int
def stD (s : St2) : List D := [.int s.1, .int s.2]
def okS (s : St2) : Prop := 0 ≤ s.1 ∧ 0 ≤ s.2
def dgV (ns : List Int) (s : St2) : Int := if s.1 = 0 then lawRow ns s.2 else s.1
def dg (ns : List Int) (s : St2) (m : Int) : Int := dgV ns s % m
def dgS (ns : List Int) (s : St2) (m : Int) : St2 := (dgV ns s / m, if s.1 = 0 then s.2 + 1 else s.2)
theorem dgV_nn {ns : List Int} {s : St2} (h : okS s) : 0 ≤ dgV ns s := by
  unfold dgV
  split
  · exact lawRow_nn _ _
  · exact h.1
theorem dg_nn {ns : List Int} {s : St2} {m : Int} (hm : 0 < m) : 0 ≤ dg ns s m := Int.emod_nonneg _ (by omega)
theorem dg_lt {ns : List Int} {s : St2} {m : Int} (hm : 0 < m) : dg ns s m < m := Int.emod_lt_of_pos _ hm
theorem dgS_ok {ns : List Int} {s : St2} {m : Int} (h : okS s) (hm : 0 < m) : okS (dgS ns s m) := ⟨Int.ediv_nonneg (dgV_nn h) (by omega), by
  unfold dgS
  have := h.2
  try dsimp only
  split <;> omega⟩
def G__law_digit (ρ : Rho) (S : Sto) (r : Rs) (S' : Sto) : Prop := ∃ ns s m xs, okS s ∧ 0 < m ∧ m < 1073741824 ∧ ρ = [.dt (intsD ns), .mu 0, .dt (.int m)] ∧ S = [stD s ++ xs] ∧ r = .v (.int (dg ns s m)) ∧ S' = [stD (dgS ns s m) ++ xs]
theorem hG__law_digit : ∀ ρ S r S', G__law_digit ρ S r S' → S'.length = S.length ∧ notMu r = true := by
  rintro ρ S r S' ⟨ns, s, m, xs, _, _, _, rfl, rfl, rfl, rfl⟩
  exact ⟨rfl, rfl⟩
theorem ev_digX {K : PySem.W.Frag} {ρ : Rho} {S S1 : Sto} {te : TE} {ns : List Int} {s : St2} {m : Int} {xs : List D} {i j k : Nat} {E : XK} (h1 : ρ[i]? = some (.dt (intsD ns))) (h2 : ρ[j]? = some (.mu k)) (h3 : Ev K ρ S te (.v (.int m)) S1) (hs : S1[k]? = some (stD s ++ xs)) (ho : okS s) (hm : 0 < m ∧ m < 1073741824) :
    Ev K ρ S (tCall (spA K 3 G__law_digit) [] E (tCons (tVar i) (tCons (tVar j) (tCons te tNil)))) (.v (.int (dg ns s m))) (S1.set k (stD (dgS ns s m) ++ xs)) :=
  ev_call1 (k := k) (ea_cons (ev_var h1) (ea_consM (ev_mu h2) (ea_cons h3 ea_nil))) (by simp [muIs]) rfl hs rfl ⟨ns, s, m, xs, ho, hm.1, hm.2, rfl, rfl, rfl, rfl⟩
theorem ev_dig {K : PySem.W.Frag} {ρ : Rho} {S S1 : Sto} {te : TE} {ns : List Int} {s : St2} {m : Int} {i j k : Nat} {E : XK} (h1 : ρ[i]? = some (.dt (intsD ns))) (h2 : ρ[j]? = some (.mu k)) (h3 : Ev K ρ S te (.v (.int m)) S1) (hs : S1[k]? = some (stD s)) (ho : okS s) (hm : 0 < m ∧ m < 1073741824) :
    Ev K ρ S (tCall (spA K 3 G__law_digit) [] E (tCons (tVar i) (tCons (tVar j) (tCons te tNil)))) (.v (.int (dg ns s m))) (S1.set k (stD (dgS ns s m))) :=
  ev_digX (xs := []) h1 h2 h3 hs ho hm
theorem ok__law_digit (T : Txt K mg A FD V0) : FnOk P w K mg base CX0 2 (A 10) (FD 10) ["script", "state", "many"] (spA K 3 G__law_digit) := by
  refine fun_okA (k := 1) (m := 1) T.F__law_digit sc__law_digit rfl rfl hG__law_digit (fun cdv Ar outer s H E hr => ⟨_, (pss_cons (ps_if (pt_cmpR op_eq (pe_ix (ix_seqK (K := K) rfl) (pv 1) pe_int (fun _ _ => rfl)) pe_int (by first | exact nomark _ | rfl)) (pss_cons (ps_asg (pe_call (ok__law_row T) (hr.mono (by omega)) (by rfl) T.g__law_row T.F__law_row.kp T.b__law_row .nil pass0 (pa_cons (pv 0) (pa_cons (pe_ix (ix_seqK (K := K) rfl) (pv 1) pe_int (fun _ _ => rfl)) pa_nil))) (pg_sub (pv 1) pe_int set_list)) (pss_one (ps_asg (pe_op op_add (pe_ix (ix_seqK (K := K) rfl) (pv 1) pe_int (fun _ _ => rfl)) pe_int) (pg_sub (pv 1) pe_int set_list)))) pss_nil) (pss_cons (ps_set (i := 3) sc__law_digit.nd rfl (by first | exact Or.inl rfl | exact Or.inr rfl) (pe_op op_mod (pe_callTy call_int1 (by rfl) T.m_int (by decide +kernel) (pa_cons (pe_ix (ix_seqK (K := K) rfl) (pv 1) pe_int (fun _ _ => rfl)) pa_nil)) (pv 2))) (pss_cons (ps_asg (pe_op op_fdiv (pe_ix (ix_seqK (K := K) rfl) (pv 1) pe_int (fun _ _ => rfl)) (pv 2)) (pg_sub (pv 1) pe_int set_list)) (pss_one (ps_ret (pv 3)))))), fun ρ S r S' hρ g => ?_⟩)
  try dsimp only [cxOf]
  obtain ⟨ns, s, m, xs, ho, h0, h1, rfl, rfl, rfl, rfl⟩ := g
  refine as_seqJ (ρ1 := [.dt (intsD ns), .mu 0, .dt (.int m), .un]) (S1 := [.int (dgV ns s) :: .int (dgS ns s m).2 :: xs]) ?_ ?_
  · unfold stD
    simp only [List.cons_append, List.nil_append]
    walk_at "if"
    · intro hb
      have hb : s.1 = 0 := by simpa using hb
      refine as_seq ?_
      refine as_setI (j := 0) (ev_call0 (ea_cons (ev_var rfl) (ea_cons (by walk_at "ev") ea_nil)) rfl rfl rfl ⟨ns, s.2, ho.2, rfl, rfl, rfl, rfl⟩) (by walk_at "evm") (by walk_at "ev") rfl (by exact ixN_nat (n := xs.length + 2) (j := 0) (by omega)) ?_
      try dsimp only [List.set]
      refine as_setI (j := 1) (by walk_at "ev") (by walk_at "evm") (by walk_at "ev") rfl (by exact ixN_nat (n := xs.length + 2) (j := 1) (by omega)) ?_
      refine ⟨rfl, ?_⟩
      simp [dgV, dgS, hb]
    · intro hb
      have hb : ¬ s.1 = 0 := by simpa using hb
      refine as_next ⟨rfl, ?_⟩
      simp [dgV, dgS, hb]
  walk_at "asg"
  refine as_seq (as_setI (j := 0) (by walk_at "ev") (by walk_at "evm") (by walk_at "ev") rfl (by exact ixN_nat (n := xs.length + 2) (j := 0) (by omega)) ?_)
  try dsimp only [List.set]
  walk_at "ret"
  exact ⟨.inl rfl, rfl⟩
/-! ### _law_codes -/
def nm4 : List PL := [[], [(0, 128)], [(48, 58), (65, 91), (95, 96), (97, 123)], [(10, 11), (13, 14)]]
def lawCodes (ns : List Int) (s : St2) : PL × St2 :=
  let y := dg ns s 16
  let s1 := dgS ns s 16
  if y < 9 then ([(97 + y % 3, 97 + y % 3 + 1)], s1)
  else if y < 11 then ([(97, 99 + y - 9)], s1)
  else if y = 11 then ([(0, 10), (11, 13), (14, 128)], s1)
  else if y = 12 then (nm4.getD (dg ns s1 4).toNat [], dgS ns s1 4)
  else if y = 13 then
    let lo := dg ns s1 60
    let s2 := dgS ns s1 60
    let hi := lo + 1 + dg ns s2 30
    let s3 := dgS ns s2 30
    let st := hi + 1 + dg ns s3 20
    let s4 := dgS ns s3 20
    ([(lo, hi), (st, st + 1 + dg ns s4 17)], dgS ns s4 17)
  else
    let lo := dg ns s1 128
    let s2 := dgS ns s1 128
    ([(lo, lo + 1 + dg ns s2 (128 - lo))], dgS ns s2 (128 - lo))
theorem lawCodes_ok {ns : List Int} {s : St2} (h : okS s) : okS (lawCodes ns s).2 := by
  have h1 : okS (dgS ns s 16) := dgS_ok h (by decide)
  have hl := dg_lt (ns := ns) (s := dgS ns s 16) (m := 128) (by decide)
  have h2 : okS (dgS ns (dgS ns s 16) 128) := dgS_ok h1 (by decide)
  unfold lawCodes
  dsimp only
  repeat' split
  · exact h1
  · exact h1
  · exact h1
  · exact dgS_ok h1 (by decide)
  · exact dgS_ok (dgS_ok (dgS_ok (dgS_ok h1 (by decide)) (by decide)) (by decide)) (by decide)
  · exact dgS_ok h2 (by omega)
def G__law_codes (ρ : Rho) (S : Sto) (r : Rs) (S' : Sto) : Prop := ∃ ns s xs, okS s ∧ ρ = [.dt (intsD ns), .mu 0] ∧ S = [stD s ++ xs] ∧ r = .v (.tuple (prsD (lawCodes ns s).1)) ∧ S' = [stD (lawCodes ns s).2 ++ xs]
theorem hG__law_codes : ∀ ρ S r S', G__law_codes ρ S r S' → S'.length = S.length ∧ notMu r = true := by
  rintro ρ S r S' ⟨ns, s, xs, _, rfl, rfl, rfl, rfl⟩
  exact ⟨rfl, rfl⟩
theorem ev_codes {K : PySem.W.Frag} {ρ : Rho} {S : Sto} {ns : List Int} {s : St2} {xs : List D} {i j k : Nat} {E : XK} (h1 : ρ[i]? = some (.dt (intsD ns))) (h2 : ρ[j]? = some (.mu k)) (hs : S[k]? = some (stD s ++ xs)) (ho : okS s) :
    Ev K ρ S (tCall (spA K 2 G__law_codes) [] E (tCons (tVar i) (tCons (tVar j) tNil))) (.v (.tuple (prsD (lawCodes ns s).1))) (S.set k (stD (lawCodes ns s).2 ++ xs)) :=
  ev_call1 (k := k) (ea_cons (ev_var h1) (ea_consM (ev_mu h2) ea_nil)) (by simp [muIs]) rfl hs rfl ⟨ns, s, xs, ho, rfl, rfl, rfl, rfl⟩
theorem ok__law_codes (T : Txt K mg A FD V0) : FnOk P w K mg base CX0 3 (A 11) (FD 11) ["script", "state"] (spA K 2 G__law_codes) := by
  refine fun_okA (k := 2) (m := 5) T.F__law_codes sc__law_codes rfl rfl hG__law_codes (fun cdv Ar outer s H E hr => ⟨_, (pss_cons (ps_set (i := 2) sc__law_codes.nd rfl (by first | exact Or.inl rfl | exact Or.inr rfl) (pe_call (ok__law_digit T) (hr.mono (by omega)) (by rfl) T.g__law_digit T.F__law_digit.kp T.b__law_digit .nil pass0 (pa_cons (pv 0) (pa_cons (pv 1) (pa_cons pe_int pa_nil))))) (pss_cons (ps_if (pt_cmpR op_lt (pv 2) pe_int (by first | exact nomark _ | rfl)) (pss_cons (ps_set (i := 3) sc__law_codes.nd rfl (by first | exact Or.inl rfl | exact Or.inr rfl) (pe_op op_add pe_int (pe_op op_mod (pe_callTy call_int1 (by rfl) T.m_int (by decide +kernel) (pa_cons (pv 2) pa_nil)) pe_int))) (pss_one (ps_ret (pe_tup (pa_cons (pe_tup (pa_cons (pv 3) (pa_cons (pe_op op_add (pv 3) pe_int) pa_nil))) pa_nil))))) pss_nil) (pss_cons (ps_if (pt_cmpR op_lt (pv 2) pe_int (by first | exact nomark _ | rfl)) (pss_one (ps_ret (pe_tup (pa_cons (pe_tup (pa_cons pe_int (pa_cons (pe_op op_sub (pe_op op_add pe_int (pv 2)) pe_int) pa_nil))) pa_nil)))) pss_nil) (pss_cons (ps_if (pt_cmpR op_eq (pv 2) pe_int (by first | exact nomark _ | rfl)) (pss_one (ps_ret (pe_tup (pa_cons (pe_tup (pa_cons pe_int (pa_cons pe_int pa_nil))) (pa_cons (pe_tup (pa_cons pe_int (pa_cons pe_int pa_nil))) (pa_cons (pe_tup (pa_cons pe_int (pa_cons pe_int pa_nil))) pa_nil)))))) pss_nil) (pss_cons (ps_if (pt_cmpR op_eq (pv 2) pe_int (by first | exact nomark _ | rfl)) (pss_cons (ps_set (i := 4) sc__law_codes.nd rfl (by first | exact Or.inl rfl | exact Or.inr rfl) (pe_lst (pa_cons (pe_tup pa_nil) (pa_cons (pe_tup (pa_cons (pe_tup (pa_cons pe_int (pa_cons pe_int pa_nil))) pa_nil)) (pa_cons (pe_tup (pa_cons (pe_tup (pa_cons pe_int (pa_cons pe_int pa_nil))) (pa_cons (pe_tup (pa_cons pe_int (pa_cons pe_int pa_nil))) (pa_cons (pe_tup (pa_cons pe_int (pa_cons pe_int pa_nil))) (pa_cons (pe_tup (pa_cons pe_int (pa_cons pe_int pa_nil))) pa_nil))))) (pa_cons (pe_tup (pa_cons (pe_tup (pa_cons pe_int (pa_cons pe_int pa_nil))) (pa_cons (pe_tup (pa_cons pe_int (pa_cons pe_int pa_nil))) pa_nil))) pa_nil)))))) (pss_one (ps_ret (pe_ix (ix_seqK (K := K) rfl) (pv 4) (pe_call (ok__law_digit T) (hr.mono (by omega)) (by rfl) T.g__law_digit T.F__law_digit.kp T.b__law_digit .nil pass0 (pa_cons (pv 0) (pa_cons (pv 1) (pa_cons pe_int pa_nil)))) (fun _ _ => rfl))))) pss_nil) (pss_cons (ps_if (pt_cmpR op_eq (pv 2) pe_int (by first | exact nomark _ | rfl)) (pss_cons (ps_set (i := 3) sc__law_codes.nd rfl (by first | exact Or.inl rfl | exact Or.inr rfl) (pe_call (ok__law_digit T) (hr.mono (by omega)) (by rfl) T.g__law_digit T.F__law_digit.kp T.b__law_digit .nil pass0 (pa_cons (pv 0) (pa_cons (pv 1) (pa_cons pe_int pa_nil))))) (pss_cons (ps_set (i := 5) sc__law_codes.nd rfl (by first | exact Or.inl rfl | exact Or.inr rfl) (pe_op op_add (pe_op op_add (pv 3) pe_int) (pe_call (ok__law_digit T) (hr.mono (by omega)) (by rfl) T.g__law_digit T.F__law_digit.kp T.b__law_digit .nil pass0 (pa_cons (pv 0) (pa_cons (pv 1) (pa_cons pe_int pa_nil)))))) (pss_cons (ps_set (i := 6) sc__law_codes.nd rfl (by first | exact Or.inl rfl | exact Or.inr rfl) (pe_op op_add (pe_op op_add (pv 5) pe_int) (pe_call (ok__law_digit T) (hr.mono (by omega)) (by rfl) T.g__law_digit T.F__law_digit.kp T.b__law_digit .nil pass0 (pa_cons (pv 0) (pa_cons (pv 1) (pa_cons pe_int pa_nil)))))) (pss_one (ps_ret (pe_tup (pa_cons (pe_tup (pa_cons (pv 3) (pa_cons (pv 5) pa_nil))) (pa_cons (pe_tup (pa_cons (pv 6) (pa_cons (pe_op op_add (pe_op op_add (pv 6) pe_int) (pe_call (ok__law_digit T) (hr.mono (by omega)) (by rfl) T.g__law_digit T.F__law_digit.kp T.b__law_digit .nil pass0 (pa_cons (pv 0) (pa_cons (pv 1) (pa_cons pe_int pa_nil))))) pa_nil))) pa_nil)))))))) pss_nil) (pss_cons (ps_set (i := 3) sc__law_codes.nd rfl (by first | exact Or.inl rfl | exact Or.inr rfl) (pe_call (ok__law_digit T) (hr.mono (by omega)) (by rfl) T.g__law_digit T.F__law_digit.kp T.b__law_digit .nil pass0 (pa_cons (pv 0) (pa_cons (pv 1) (pa_cons pe_int pa_nil))))) (pss_one (ps_ret (pe_tup (pa_cons (pe_tup (pa_cons (pv 3) (pa_cons (pe_op op_add (pe_op op_add (pv 3) pe_int) (pe_call (ok__law_digit T) (hr.mono (by omega)) (by rfl) T.g__law_digit T.F__law_digit.kp T.b__law_digit .nil pass0 (pa_cons (pv 0) (pa_cons (pv 1) (pa_cons (pe_op op_sub pe_int (pv 3)) pa_nil))))) pa_nil))) pa_nil))))))))))), fun ρ S r S' hρ g => ?_⟩)
  try dsimp only [cxOf]
  obtain ⟨ns, s, xs, ho, rfl, rfl, rfl, rfl⟩ := g
  have h1 : okS (dgS ns s 16) := dgS_ok ho (by decide)
  have y0 := dg_nn (ns := ns) (s := s) (m := 16) (by decide)
  refine as_seq (as_asg (ev_digX (s := s) (xs := xs) (by rfl) (by rfl) ev_int (by rfl) ho (by decide)) ?_)
  try dsimp only [List.set]
  unfold lawCodes
  dsimp only
  generalize dg ns s 16 = y at *
  generalize dgS ns s 16 = s1 at *
  refine as_seq (as_if (b := decide (y < 9)) (et_test (ev_op (ev_var rfl) ev_int o_lt)) (fun h => ?_) (fun h => as_next ?_))
  · rw [if_pos (by simpa using h)]
    refine as_seq (as_asg (ev_op ev_int (ev_op (ev_fn (ed_cons (ev_var rfl) ed_nil) fn_int) ev_int (o_mod (by decide))) o_add) ?_)
    try dsimp only [List.set]
    walk_at "ret"
    exact ⟨.inl rfl, rfl⟩
  rw [if_neg (by simpa using h)]
  refine as_seq (as_if (b := decide (y < 11)) (et_test (ev_op (ev_var rfl) ev_int o_lt)) (fun h => ?_) (fun h => as_next ?_))
  · rw [if_pos (by simpa using h)]
    walk_at "ret"
    exact ⟨.inl rfl, rfl⟩
  rw [if_neg (by simpa using h)]
  refine as_seq (as_if (b := decide (y = 11)) (et_test (ev_op (ev_var rfl) ev_int o_eqI)) (fun h => ?_) (fun h => as_next ?_))
  · rw [if_pos (by simpa using h)]
    walk_at "ret"
    exact ⟨.inl rfl, rfl⟩
  rw [if_neg (by simpa using h)]
  refine as_seq (as_if (b := decide (y = 12)) (et_test (ev_op (ev_var rfl) ev_int o_eqI)) (fun h => ?_) (fun h => as_next ?_))
  · rw [if_pos (by simpa using h)]
    have b0 := dg_nn (ns := ns) (s := s1) (m := 4) (by decide)
    have b1 := dg_lt (ns := ns) (s := s1) (m := 4) (by decide)
    refine as_seq (as_asg (d := .list (nm4.map fun ps => PyData.tuple (prsD ps))) (ev_fr (ev_is (by walk_at "evn") (by rfl))) ?_)
    try dsimp only [List.set]
    refine as_ret (ev_ix (d := .tuple (prsD (nm4.getD (dg ns s1 4).toNat []))) (ev_var rfl) rfl (ev_digX (s := s1) (xs := xs) (by rfl) (by rfl) ev_int (by rfl) h1 (by decide)) (.inl rfl) ?_) rfl ⟨.inl rfl, rfl⟩
    obtain ⟨j, hj⟩ : ∃ j : Nat, dg ns s1 4 = (j : Int) := ⟨(dg ns s1 4).toNat, by omega⟩
    rw [hj]
    refine atI_nat ?_
    have : j < nm4.length := by show j < 4; omega
    rw [List.getElem?_map, List.getElem?_eq_getElem this]
    simp [List.getD, List.getElem?_eq_getElem this]
  rw [if_neg (by simpa using h)]
  refine as_seq (as_if (b := decide (y = 13)) (et_test (ev_op (ev_var rfl) ev_int o_eqI)) (fun h => ?_) (fun h => as_next ?_))
  · rw [if_pos (by simpa using h)]
    have h2 : okS (dgS ns s1 60) := dgS_ok h1 (by decide)
    have h3 : okS (dgS ns (dgS ns s1 60) 30) := dgS_ok h2 (by decide)
    have h4 : okS (dgS ns (dgS ns (dgS ns s1 60) 30) 20) := dgS_ok h3 (by decide)
    refine as_seq (as_asg (ev_digX (s := s1) (xs := xs) (by rfl) (by rfl) ev_int (by rfl) h1 (by decide)) ?_)
    try dsimp only [List.set]
    refine as_seq (as_asg (ev_op (ev_op (ev_var rfl) ev_int o_add) (ev_digX (xs := xs) (by rfl) (by rfl) ev_int (by rfl) h2 (by decide)) o_add) ?_)
    try dsimp only [List.set]
    refine as_seq (as_asg (ev_op (ev_op (ev_var rfl) ev_int o_add) (ev_digX (xs := xs) (by rfl) (by rfl) ev_int (by rfl) h3 (by decide)) o_add) ?_)
    try dsimp only [List.set]
    exact as_ret (ev_tup (ed_cons (ev_tup (ed_cons (ev_var rfl) (ed_cons (ev_var rfl) ed_nil)) (show 2 ≤ 100000 by decide)) (ed_cons (ev_tup (ed_cons (ev_var rfl) (ed_cons (ev_op (ev_op (ev_var rfl) ev_int o_add) (ev_digX (xs := xs) (by rfl) (by rfl) ev_int (by rfl) h4 (by decide)) o_add) ed_nil)) (show 2 ≤ 100000 by decide)) ed_nil)) (show 2 ≤ 100000 by decide)) rfl ⟨.inl rfl, rfl⟩
  rw [if_neg (by simpa using h)]
  have h2 : okS (dgS ns s1 128) := dgS_ok h1 (by decide)
  have b0 := dg_nn (ns := ns) (s := s1) (m := 128) (by decide)
  have b1 := dg_lt (ns := ns) (s := s1) (m := 128) (by decide)
  refine as_seq (as_asg (ev_digX (s := s1) (xs := xs) (by rfl) (by rfl) ev_int (by rfl) h1 (by decide)) ?_)
  try dsimp only [List.set]
  exact as_ret (ev_tup (ed_cons (ev_tup (ed_cons (ev_var rfl) (ed_cons (ev_op (ev_op (ev_var rfl) ev_int o_add) (ev_digX (xs := xs) (by rfl) (by rfl) (ev_op ev_int (ev_var rfl) o_sub) (by rfl) h2 ⟨by omega, by omega⟩) o_add) ed_nil)) (show 2 ≤ 100000 by decide)) ed_nil) (show 1 ≤ 100000 by decide)) rfl ⟨.inl rfl, rfl⟩
/-! ### _law_leaf -/
def lawLeaf (ns : List Int) (s : St2) (kind : Int) : Tr × St2 :=
  if kind < 13 then (.set (lawCodes ns s).1, (lawCodes ns s).2)
  else if kind = 13 then (.emp, s)
  else (.anc (dg ns s 6).toNat, dgS ns s 6)
theorem lawLeaf_ok {ns : List Int} {s : St2} {kind : Int} (h : okS s) : okS (lawLeaf ns s kind).2 := by
  unfold lawLeaf
  repeat' split
  · exact lawCodes_ok h
  · exact h
  · exact dgS_ok h (by decide)
def G__law_leaf (ρ : Rho) (S : Sto) (r : Rs) (S' : Sto) : Prop := ∃ ns s xs kind, okS s ∧ ρ = [.dt (intsD ns), .mu 0, .dt (.int kind)] ∧ S = [stD s ++ xs] ∧ r = .v (trD (lawLeaf ns s kind).1) ∧ S' = [stD (lawLeaf ns s kind).2 ++ xs]
theorem hG__law_leaf : ∀ ρ S r S', G__law_leaf ρ S r S' → S'.length = S.length ∧ notMu r = true := by
  rintro ρ S r S' ⟨ns, s, xs, kind, _, rfl, rfl, rfl, rfl⟩
  exact ⟨rfl, rfl⟩
theorem ev_leaf {K : PySem.W.Frag} {ρ : Rho} {S S1 : Sto} {te : TE} {ns : List Int} {s : St2} {kind : Int} {xs : List D} {i j k : Nat} {E : XK} (h1 : ρ[i]? = some (.dt (intsD ns))) (h2 : ρ[j]? = some (.mu k)) (h3 : Ev K ρ S te (.v (.int kind)) S1) (hs : S1[k]? = some (stD s ++ xs)) (ho : okS s) :
    Ev K ρ S (tCall (spA K 3 G__law_leaf) [] E (tCons (tVar i) (tCons (tVar j) (tCons te tNil)))) (.v (trD (lawLeaf ns s kind).1)) (S1.set k (stD (lawLeaf ns s kind).2 ++ xs)) :=
  ev_call1 (k := k) (ea_cons (ev_var h1) (ea_consM (ev_mu h2) (ea_cons h3 ea_nil))) (by simp [muIs]) rfl hs rfl ⟨ns, s, xs, kind, ho, rfl, rfl, rfl, rfl⟩
theorem ok__law_leaf (T : Txt K mg A FD V0) : FnOk P w K mg base CX0 4 (A 12) (FD 12) ["script", "state", "kind"] (spA K 3 G__law_leaf) := by
  refine fun_okA (k := 3) (m := 1) T.F__law_leaf sc__law_leaf rfl rfl hG__law_leaf (fun cdv Ar outer s H E hr => ⟨_, (pss_cons (ps_if (pt_cmpR op_lt (pv 2) pe_int (by first | exact nomark _ | rfl)) (pss_one (ps_ret (pe_tup (pa_cons pe_str (pa_cons (pe_call (ok__law_codes T) (hr.mono (by omega)) (by rfl) T.g__law_codes T.F__law_codes.kp T.b__law_codes .nil pass0 (pa_cons (pv 0) (pa_cons (pv 1) pa_nil))) pa_nil))))) pss_nil) (pss_cons (ps_if (pt_cmpR op_eq (pv 2) pe_int (by first | exact nomark _ | rfl)) (pss_one (ps_ret (pe_tup (pa_cons pe_str pa_nil)))) pss_nil) (pss_cons (ps_set (i := 3) sc__law_leaf.nd rfl (by first | exact Or.inl rfl | exact Or.inr rfl) (pe_lst (pa_cons pe_str (pa_cons pe_str (pa_cons pe_str (pa_cons pe_str (pa_cons pe_str (pa_cons pe_str pa_nil)))))))) (pss_one (ps_ret (pe_tup (pa_cons pe_str (pa_cons (pe_ix (ix_seqK (K := K) rfl) (pv 3) (pe_call (ok__law_digit T) (hr.mono (by omega)) (by rfl) T.g__law_digit T.F__law_digit.kp T.b__law_digit .nil pass0 (pa_cons (pv 0) (pa_cons (pv 1) (pa_cons pe_int pa_nil)))) (fun _ _ => rfl)) pa_nil)))))))), fun ρ S r S' hρ g => ?_⟩)
  try dsimp only [cxOf]
  obtain ⟨ns, s, xs, kind, ho, rfl, rfl, rfl, rfl⟩ := g
  unfold lawLeaf
  refine as_seq (as_if (b := decide (kind < 13)) (et_test (ev_op (ev_var rfl) ev_int o_lt)) (fun h => ?_) (fun h => as_next ?_))
  · rw [if_pos (by simpa using h)]
    exact as_ret (ev_tup (ed_cons ev_str (ed_cons (ev_codes (s := s) (xs := xs) (by rfl) (by rfl) (by rfl) ho) ed_nil)) (show 2 ≤ 100000 by decide)) rfl ⟨.inl rfl, rfl⟩
  rw [if_neg (by simpa using h)]
  refine as_seq (as_if (b := decide (kind = 13)) (et_test (ev_op (ev_var rfl) ev_int o_eqI)) (fun h => ?_) (fun h => as_next ?_))
  · rw [if_pos (by simpa using h)]
    exact as_ret (ev_tup (ed_cons ev_str ed_nil) (show 1 ≤ 100000 by decide)) rfl ⟨.inl rfl, rfl⟩
  rw [if_neg (by simpa using h)]
  refine as_seq (as_asg (d := .list (anNames.map PyData.str)) (ev_fr (ev_is (by walk_at "evn") (by rfl))) ?_)
  try dsimp only [List.set]
  have b0 := dg_nn (ns := ns) (s := s) (m := 6) (by decide)
  have b1 := dg_lt (ns := ns) (s := s) (m := 6) (by decide)
  refine as_ret (ev_tup (ed_cons ev_str (ed_cons (ev_ix (d := .str (anNames.getD (dg ns s 6).toNat "")) (ev_var rfl) rfl (ev_digX (s := s) (xs := xs) (by rfl) (by rfl) ev_int (by rfl) ho (by decide)) (.inl rfl) ?_) ed_nil)) (show 2 ≤ 100000 by decide)) rfl ⟨.inl rfl, rfl⟩
  obtain ⟨j, hj⟩ : ∃ j : Nat, dg ns s 6 = (j : Int) := ⟨(dg ns s 6).toNat, by omega⟩
  rw [hj]
  refine atI_nat ?_
  have : j < anNames.length := by show j < 6; omega
  rw [List.getElem?_map, List.getElem?_eq_getElem this]
  simp [List.getD, List.getElem?_eq_getElem this]
/-! ### _law_repeat -/
abbrev St4 := St2 × Int × Int
def t4 (s : St4) : List D := stD s.1 ++ [.int s.2.1, .int s.2.2]
def lawRep (ns : List Int) (rc : St4 → Tr × St4) (s : St4) : Tr × St4 :=
  let lo := dg ns s.1 3
  let s1 := dgS ns s.1 3
  let c := dg ns s1 2
  let s2 := dgS ns s1 2
  let hi := if c = 1 then some (lo + dg ns s2 3) else none
  let s3 := if c = 1 then dgS ns s2 3 else s2
  let gr := decide (0 < dg ns s3 3)
  let a := rc (dgS ns s3 3, s.2)
  (.rep a.1 lo hi gr, a.2)
def lawNode (ns : List Int) (rc : St4 → Tr × St4) (d0 : Bool) (s : St4) : Tr × St4 :=
  let k := dg ns s.1 15
  let s1 := dgS ns s.1 15
  if d0 || (decide (k = 0) || decide (k = 14)) then ((lawLeaf ns s1 k).1, (lawLeaf ns s1 k).2, s.2)
  else if k < 5 then
    let a := rc (s1, s.2)
    let b := rc a.2
    (.seq a.1 b.1, b.2)
  else if k < 8 then
    let a := rc (s1, s.2)
    let b := rc a.2
    (.cho a.1 b.1, b.2)
  else if k < 11 then lawRep ns rc (s1, s.2)
  else if decide (k < 13) || decide (2 < s.2.2) then
    let a := rc (s1, s.2.1 + 1, s.2.2)
    (.grp s.2.1 a.1, a.2)
  else
    let ah := decide (dg ns s1 2 = 0)
    let s2 := dgS ns s1 2
    let po := decide (0 < dg ns s2 3)
    let a := rc (dgS ns s2 3, s.2.1, s.2.2 + 1)
    (.look ah po a.1, a.2)
def lawTree (ns : List Int) : Nat → St4 → Tr × St4
  | 0 => lawNode ns (fun s => (.emp, s)) true
  | d + 1 => lawNode ns (lawTree ns d) false
theorem lawRep_ok {ns : List Int} {rc : St4 → Tr × St4} (hr : ∀ s, okS s.1 → okS (rc s).2.1) {s : St4} (h : okS s.1) : okS (lawRep ns rc s).2.1 := by
  have h1 : okS (dgS ns s.1 3) := dgS_ok h (by decide)
  have h2 : okS (dgS ns (dgS ns s.1 3) 2) := dgS_ok h1 (by decide)
  unfold lawRep
  dsimp only
  refine hr _ (dgS_ok ?_ (by decide))
  split
  · exact dgS_ok h2 (by decide)
  · exact h2
theorem lawNode_ok {ns : List Int} {rc : St4 → Tr × St4} (hr : ∀ s, okS s.1 → okS (rc s).2.1) {b : Bool} {s : St4} (h : okS s.1) : okS (lawNode ns rc b s).2.1 := by
  have h1 : okS (dgS ns s.1 15) := dgS_ok h (by decide)
  unfold lawNode
  dsimp only
  repeat' split
  · exact lawLeaf_ok h1
  · exact hr _ (hr _ h1)
  · exact hr _ (hr _ h1)
  · exact lawRep_ok hr h1
  · exact hr _ h1
  · exact hr _ (dgS_ok (dgS_ok h1 (by decide)) (by decide))
theorem lawTree_ok {ns : List Int} : ∀ (d : Nat) (s : St4), okS s.1 → okS (lawTree ns d s).2.1
  | 0, s, h => lawNode_ok (fun _ h => h) h
  | d + 1, s, h => lawNode_ok (lawTree_ok d) h
def G__law_tree (dp : Nat) (ρ : Rho) (S : Sto) (r : Rs) (S' : Sto) : Prop := ∃ ns d s, d < dp ∧ okS s.1 ∧ ρ = [.dt (intsD ns), .mu 0, .dt (.int ((d : Nat) : Int))] ∧ S = [t4 s] ∧ r = .v (trD (lawTree ns d s).1) ∧ S' = [t4 (lawTree ns d s).2]
theorem G__law_tree_0 {ρ : Rho} {S : Sto} {r : Rs} {S' : Sto} (h : G__law_tree 0 ρ S r S') : False := by
  obtain ⟨ns, d, s, h, _⟩ := h
  omega
theorem hG__law_tree {dp : Nat} : ∀ ρ S r S', G__law_tree dp ρ S r S' → S'.length = S.length ∧ notMu r = true := by
  rintro ρ S r S' ⟨ns, d, s, _, _, rfl, rfl, rfl, rfl⟩
  exact ⟨rfl, rfl⟩
theorem ev_tree {K : PySem.W.Frag} {dp : Nat} {ρ : Rho} {S S1 : Sto} {te : TE} {ns : List Int} {d : Nat} {s : St4} {i j k : Nat} {E : XK} (h1 : ρ[i]? = some (.dt (intsD ns))) (h2 : ρ[j]? = some (.mu k)) (h3 : Ev K ρ S te (.v (.int (d : Int))) S1) (hs : S1[k]? = some (t4 s)) (ho : okS s.1) (hd : d < dp) :
    Ev K ρ S (tCall (spA K 3 (G__law_tree dp)) [] E (tCons (tVar i) (tCons (tVar j) (tCons te tNil)))) (.v (trD (lawTree ns d s).1)) (S1.set k (t4 (lawTree ns d s).2)) :=
  ev_call1 (k := k) (ea_cons (ev_var h1) (ea_consM (ev_mu h2) (ea_cons h3 ea_nil))) (by simp [muIs]) rfl hs rfl ⟨ns, d, s, hd, ho, rfl, rfl, rfl, rfl⟩
def G__law_repeat (dp : Nat) (ρ : Rho) (S : Sto) (r : Rs) (S' : Sto) : Prop := ∃ ns d s, d < dp ∧ okS s.1 ∧ ρ = [.dt (intsD ns), .mu 0, .dt (.int ((d : Int) + 1))] ∧ S = [t4 s] ∧ r = .v (trD (lawRep ns (lawTree ns d) s).1) ∧ S' = [t4 (lawRep ns (lawTree ns d) s).2]
theorem hG__law_repeat {dp : Nat} : ∀ ρ S r S', G__law_repeat dp ρ S r S' → S'.length = S.length ∧ notMu r = true := by
  rintro ρ S r S' ⟨ns, d, s, _, _, rfl, rfl, rfl, rfl⟩
  exact ⟨rfl, rfl⟩
theorem ev_rept {K : PySem.W.Frag} {dp : Nat} {ρ : Rho} {S S1 : Sto} {te : TE} {ns : List Int} {d : Nat} {s : St4} {i j k : Nat} {E : XK} (h1 : ρ[i]? = some (.dt (intsD ns))) (h2 : ρ[j]? = some (.mu k)) (h3 : Ev K ρ S te (.v (.int ((d : Int) + 1))) S1) (hs : S1[k]? = some (t4 s)) (ho : okS s.1) (hd : d < dp) :
    Ev K ρ S (tCall (spA K 3 (G__law_repeat dp)) [] E (tCons (tVar i) (tCons (tVar j) (tCons te tNil)))) (.v (trD (lawRep ns (lawTree ns d) s).1)) (S1.set k (t4 (lawRep ns (lawTree ns d) s).2)) :=
  ev_call1 (k := k) (ea_cons (ev_var h1) (ea_consM (ev_mu h2) (ea_cons h3 ea_nil))) (by simp [muIs]) rfl hs rfl ⟨ns, d, s, hd, ho, rfl, rfl, rfl, rfl⟩
theorem ev_down {K : PySem.W.Frag} {ρ : Rho} {S : Sto} {i d : Nat} (h : ρ[i]? = some (.dt (.int ((d : Int) + 1)))) : Ev K ρ S (tOp (rI0 fun i j => .int (i - j)) (tVar i) (tC (.int 1))) (.v (.int (d : Int))) S :=
  ev_is (ev_op (ev_var h) ev_int o_sub) (by rw [Int.add_sub_cancel])
theorem ok__law_repeat (T : Txt K mg A FD V0) (dp : Nat) (ih : FnOk P w K mg base CX0 (4 + 2 * dp + 1) (A 14) (FD 14) ["script", "state", "depth"] (spA K 3 (G__law_tree dp))) : FnOk P w K mg base CX0 (4 + 2 * dp + 1 + 1) (A 13) (FD 13) ["script", "state", "depth"] (spA K 3 (G__law_repeat dp)) := by
  refine fun_okA (k := 4 + 2 * dp + 1) (m := 3) T.F__law_repeat sc__law_repeat rfl rfl hG__law_repeat (fun cdv Ar outer s H E hr => ⟨_, (pss_cons (ps_set (i := 3) sc__law_repeat.nd rfl (by first | exact Or.inl rfl | exact Or.inr rfl) (pe_call (ok__law_digit T) (hr.mono (by omega)) (by rfl) T.g__law_digit T.F__law_digit.kp T.b__law_digit .nil pass0 (pa_cons (pv 0) (pa_cons (pv 1) (pa_cons pe_int pa_nil))))) (pss_cons (ps_set (i := 4) sc__law_repeat.nd rfl (by first | exact Or.inl rfl | exact Or.inr rfl) pe_non) (pss_cons (ps_if (pt_cmpR op_eq (pe_call (ok__law_digit T) (hr.mono (by omega)) (by rfl) T.g__law_digit T.F__law_digit.kp T.b__law_digit .nil pass0 (pa_cons (pv 0) (pa_cons (pv 1) (pa_cons pe_int pa_nil)))) pe_int (by first | exact nomark _ | rfl)) (pss_one (ps_set (i := 4) sc__law_repeat.nd rfl (by first | exact Or.inl rfl | exact Or.inr rfl) (pe_op op_add (pv 3) (pe_call (ok__law_digit T) (hr.mono (by omega)) (by rfl) T.g__law_digit T.F__law_digit.kp T.b__law_digit .nil pass0 (pa_cons (pv 0) (pa_cons (pv 1) (pa_cons pe_int pa_nil))))))) pss_nil) (pss_cons (ps_set (i := 5) sc__law_repeat.nd rfl (by first | exact Or.inl rfl | exact Or.inr rfl) (pe_cmpR op_gt (pe_call (ok__law_digit T) (hr.mono (by omega)) (by rfl) T.g__law_digit T.F__law_digit.kp T.b__law_digit .nil pass0 (pa_cons (pv 0) (pa_cons (pv 1) (pa_cons pe_int pa_nil)))) pe_int (by first | exact nomark _ | rfl))) (pss_one (ps_ret (pe_tup (pa_cons pe_str (pa_cons (pe_call ih (hr.mono (by omega)) (by rfl) T.g__law_tree T.F__law_tree.kp T.b__law_tree .nil pass0 (pa_cons (pv 0) (pa_cons (pv 1) (pa_cons (pe_op op_sub (pv 2) pe_int) pa_nil)))) (pa_cons (pv 3) (pa_cons (pv 4) (pa_cons (pv 5) pa_nil)))))))))))), fun ρ S r S' hρ g => ?_⟩)
  obtain ⟨ns, d, s, hd, ho, rfl, rfl, rfl, rfl⟩ := g
  obtain ⟨q, gn, ln⟩ := s
  dsimp only at ho
  have ts : ∀ (q : St2) (a b : Int), t4 (q, a, b) = stD q ++ [.int a, .int b] := fun _ _ _ => rfl
  have h1 : okS (dgS ns q 3) := dgS_ok ho (by decide)
  have h2 : okS (dgS ns (dgS ns q 3) 2) := dgS_ok h1 (by decide)
  rw [ts]
  unfold lawRep
  dsimp only
  refine as_seq (as_asg (ev_digX (s := q) (xs := [.int gn, .int ln]) (by rfl) (by rfl) ev_int (by rfl) ho (by decide)) ?_)
  try dsimp only [List.set]
  refine as_seq (as_asg ev_non ?_)
  try dsimp only [List.set]
  generalize dg ns q 3 = lo at *
  generalize dgS ns q 3 = s1 at *
  refine as_seqJ (ρ1 := [.dt (intsD ns), .mu 0, .dt (.int ((d : Int) + 1)), .dt (.int lo), .dt (oD (if dg ns s1 2 = 1 then some (lo + dg ns (dgS ns s1 2) 3) else none)), .un]) (S1 := [stD (if dg ns s1 2 = 1 then dgS ns (dgS ns s1 2) 3 else dgS ns s1 2) ++ [.int gn, .int ln]]) ?_ ?_
  · refine as_if (b := decide (dg ns s1 2 = 1)) (et_test (ev_op (ev_digX (s := s1) (xs := [.int gn, .int ln]) (by rfl) (by rfl) ev_int (by rfl) h1 (by decide)) ev_int o_eqI)) (fun h => ?_) (fun h => as_next ?_)
    · have h : dg ns s1 2 = 1 := by simpa using h
      rw [if_pos h, if_pos h]
      exact as_asg (ev_op (ev_var rfl) (ev_digX (xs := [.int gn, .int ln]) (by rfl) (by rfl) ev_int (by rfl) h2 (by decide)) o_add) ⟨rfl, rfl⟩
    · have h : ¬ dg ns s1 2 = 1 := by simpa using h
      rw [if_neg h, if_neg h]
      exact ⟨rfl, rfl⟩
  have h3 : okS (if dg ns s1 2 = 1 then dgS ns (dgS ns s1 2) 3 else dgS ns s1 2) := by
    split
    · exact dgS_ok h2 (by decide)
    · exact h2
  generalize (if dg ns s1 2 = 1 then some (lo + dg ns (dgS ns s1 2) 3) else none) = hi at *
  generalize (if dg ns s1 2 = 1 then dgS ns (dgS ns s1 2) 3 else dgS ns s1 2) = s3 at *
  refine as_seq (as_asg (ev_op (ev_digX (s := s3) (xs := [.int gn, .int ln]) (by rfl) (by rfl) ev_int (by rfl) h3 (by decide)) ev_int o_gt) ?_)
  try dsimp only [List.set]
  have h4 : okS (dgS ns s3 3) := dgS_ok h3 (by decide)
  exact as_ret (ev_tup (ed_cons ev_str (ed_cons (ev_tree (d := d) (s := (dgS ns s3 3, gn, ln)) (by rfl) (by rfl) (ev_down rfl) (by rfl) h4 hd) (ed_cons (ev_var rfl) (ed_cons (ev_var rfl) (ed_cons (ev_var rfl) ed_nil))))) (show 5 ≤ 100000 by decide)) rfl ⟨.inl rfl, rfl⟩
/-! ### _law_tree -/
theorem ok__law_tree (T : Txt K mg A FD V0) : ∀ dp : Nat, FnOk P w K mg base CX0 (4 + 2 * dp + 1) (A 14) (FD 14) ["script", "state", "depth"] (spA K 3 (G__law_tree dp))
  | 0 => fn_never (fun ρ S r S' h => G__law_tree_0 h)
  | dp + 1 => by
    have ih := ok__law_tree T dp
    refine fun_okA (k := 4 + 2 * dp + 2) (m := 5) T.F__law_tree sc__law_tree rfl rfl hG__law_tree (fun cdv Ar outer s H E hr => ⟨_, (pss_cons (ps_set (i := 3) sc__law_tree.nd rfl (by first | exact Or.inl rfl | exact Or.inr rfl) (pe_call (ok__law_digit T) (hr.mono (by omega)) (by rfl) T.g__law_digit T.F__law_digit.kp T.b__law_digit .nil pass0 (pa_cons (pv 0) (pa_cons (pv 1) (pa_cons pe_int pa_nil))))) (pss_cons (ps_if (PW.pt (pw_or (pt_cmpR op_eq (pv 2) pe_int (by first | exact nomark _ | rfl)) (pw_or (pt_cmpR op_eq (pv 3) pe_int (by first | exact nomark _ | rfl)) (pw_or1 (pt_cmpR op_eq (pv 3) pe_int (by first | exact nomark _ | rfl)))))) (pss_one (ps_ret (pe_call (ok__law_leaf T) (hr.mono (by omega)) (by rfl) T.g__law_leaf T.F__law_leaf.kp T.b__law_leaf .nil pass0 (pa_cons (pv 0) (pa_cons (pv 1) (pa_cons (pv 3) pa_nil)))))) pss_nil) (pss_cons (ps_if (pt_cmpR op_lt (pv 3) pe_int (by first | exact nomark _ | rfl)) (pss_cons (ps_set (i := 4) sc__law_tree.nd rfl (by first | exact Or.inl rfl | exact Or.inr rfl) (pe_call ih (hr.mono (by omega)) (by rfl) T.g__law_tree T.F__law_tree.kp T.b__law_tree .nil pass0 (pa_cons (pv 0) (pa_cons (pv 1) (pa_cons (pe_op op_sub (pv 2) pe_int) pa_nil))))) (pss_one (ps_ret (pe_tup (pa_cons pe_str (pa_cons (pv 4) (pa_cons (pe_call ih (hr.mono (by omega)) (by rfl) T.g__law_tree T.F__law_tree.kp T.b__law_tree .nil pass0 (pa_cons (pv 0) (pa_cons (pv 1) (pa_cons (pe_op op_sub (pv 2) pe_int) pa_nil)))) pa_nil))))))) pss_nil) (pss_cons (ps_if (pt_cmpR op_lt (pv 3) pe_int (by first | exact nomark _ | rfl)) (pss_cons (ps_set (i := 4) sc__law_tree.nd rfl (by first | exact Or.inl rfl | exact Or.inr rfl) (pe_call ih (hr.mono (by omega)) (by rfl) T.g__law_tree T.F__law_tree.kp T.b__law_tree .nil pass0 (pa_cons (pv 0) (pa_cons (pv 1) (pa_cons (pe_op op_sub (pv 2) pe_int) pa_nil))))) (pss_one (ps_ret (pe_tup (pa_cons pe_str (pa_cons (pv 4) (pa_cons (pe_call ih (hr.mono (by omega)) (by rfl) T.g__law_tree T.F__law_tree.kp T.b__law_tree .nil pass0 (pa_cons (pv 0) (pa_cons (pv 1) (pa_cons (pe_op op_sub (pv 2) pe_int) pa_nil)))) pa_nil))))))) pss_nil) (pss_cons (ps_if (pt_cmpR op_lt (pv 3) pe_int (by first | exact nomark _ | rfl)) (pss_one (ps_ret (pe_call (ok__law_repeat T dp ih) (hr.mono (by omega)) (by rfl) T.g__law_repeat T.F__law_repeat.kp T.b__law_repeat .nil pass0 (pa_cons (pv 0) (pa_cons (pv 1) (pa_cons (pv 2) pa_nil)))))) pss_nil) (pss_cons (ps_if (PW.pt (pw_or (pt_cmpR op_lt (pv 3) pe_int (by first | exact nomark _ | rfl)) (pw_or1 (pt_cmpR op_gt (pe_ix (ix_seqK (K := K) rfl) (pv 1) pe_int (fun _ _ => rfl)) pe_int (by first | exact nomark _ | rfl))))) (pss_cons (ps_set (i := 5) sc__law_tree.nd rfl (by first | exact Or.inl rfl | exact Or.inr rfl) (pe_ix (ix_seqK (K := K) rfl) (pv 1) pe_int (fun _ _ => rfl))) (pss_cons (ps_asg (pe_op op_add (pv 5) pe_int) (pg_sub (pv 1) pe_int set_list)) (pss_one (ps_ret (pe_tup (pa_cons pe_str (pa_cons (pv 5) (pa_cons (pe_call ih (hr.mono (by omega)) (by rfl) T.g__law_tree T.F__law_tree.kp T.b__law_tree .nil pass0 (pa_cons (pv 0) (pa_cons (pv 1) (pa_cons (pe_op op_sub (pv 2) pe_int) pa_nil)))) pa_nil)))))))) pss_nil) (pss_cons (ps_asg (pe_op op_add (pe_ix (ix_seqK (K := K) rfl) (pv 1) pe_int (fun _ _ => rfl)) pe_int) (pg_sub (pv 1) pe_int set_list)) (pss_cons (ps_set (i := 6) sc__law_tree.nd rfl (by first | exact Or.inl rfl | exact Or.inr rfl) (pe_cmpR op_eq (pe_call (ok__law_digit T) (hr.mono (by omega)) (by rfl) T.g__law_digit T.F__law_digit.kp T.b__law_digit .nil pass0 (pa_cons (pv 0) (pa_cons (pv 1) (pa_cons pe_int pa_nil)))) pe_int (by first | exact nomark _ | rfl))) (pss_cons (ps_set (i := 7) sc__law_tree.nd rfl (by first | exact Or.inl rfl | exact Or.inr rfl) (pe_cmpR op_gt (pe_call (ok__law_digit T) (hr.mono (by omega)) (by rfl) T.g__law_digit T.F__law_digit.kp T.b__law_digit .nil pass0 (pa_cons (pv 0) (pa_cons (pv 1) (pa_cons pe_int pa_nil)))) pe_int (by first | exact nomark _ | rfl))) (pss_one (ps_ret (pe_tup (pa_cons pe_str (pa_cons (pv 6) (pa_cons (pv 7) (pa_cons (pe_call ih (hr.mono (by omega)) (by rfl) T.g__law_tree T.F__law_tree.kp T.b__law_tree .nil pass0 (pa_cons (pv 0) (pa_cons (pv 1) (pa_cons (pe_op op_sub (pv 2) pe_int) pa_nil)))) pa_nil)))))))))))))))), fun ρ S r S' hρ g => ?_⟩)
    obtain ⟨ns, d, s, hd, ho, rfl, rfl, rfl, rfl⟩ := g
    obtain ⟨q, gn, ln⟩ := s
    dsimp only at ho
    have h1 : okS (dgS ns q 15) := dgS_ok ho (by decide)
    have ts : ∀ (q : St2) (a b : Int), t4 (q, a, b) = stD q ++ [.int a, .int b] := fun _ _ _ => rfl
    rw [ts]
    refine as_seq (as_asg (ev_digX (s := q) (xs := [.int gn, .int ln]) (by rfl) (by rfl) ev_int (by rfl) ho (by decide)) ?_)
    try dsimp only [List.set]
    cases d with
    | zero =>
      refine as_seq (as_ifT (b := (true || false)) (et_or (a := true) (b := false) (et_test (ev_is (ev_op (ev_var rfl) ev_int o_eqI) (by rfl))) (fun h => by cases h)) rfl ?_)
      exact as_ret (ev_leaf (s := dgS ns q 15) (xs := [.int gn, .int ln]) (by rfl) (by rfl) (ev_var rfl) (by rfl) h1) rfl ⟨.inl rfl, rfl⟩
    | succ d =>
      have hd' : d < dp := by omega
      have e : ∀ s, lawTree ns (d + 1) s = lawNode ns (lawTree ns d) false s := fun _ => rfl
      rw [e]
      unfold lawNode
      dsimp only
      simp only [Bool.false_or]
      generalize dg ns q 15 = k at *
      generalize dgS ns q 15 = s1 at *
      have ec : ((d + 1 : Nat) : Int) = (d : Int) + 1 := by omega
      show As _ _ _ _ [.dt (intsD ns), .mu 0, .dt (.int ((d + 1 : Nat) : Int)), .dt (.int k), .un, .un, .un, .un] _
      rw [ec]
      refine as_seq (as_if (b := false || (decide (k = 0) || decide (k = 14))) (et_or (et_test (ev_is (ev_op (ev_var rfl) ev_int o_eqI) (by
        have : decide ((d : Int) + 1 = 0) = false := by simp; omega
        rw [this]))) (fun _ => et_or (et_test (ev_op (ev_var rfl) ev_int o_eqI)) (fun _ => et_test (ev_op (ev_var rfl) ev_int o_eqI)))) (fun h => ?_) (fun h => as_next ?_))
      · rw [Bool.false_or] at h
        rw [if_pos h]
        exact as_ret (ev_leaf (s := s1) (xs := [.int gn, .int ln]) (by rfl) (by rfl) (ev_var rfl) (by rfl) h1) rfl ⟨.inl rfl, rfl⟩
      rw [Bool.false_or] at h
      rw [if_neg (by rw [h]; simp)]
      refine as_seq (as_if (b := decide (k < 5)) (et_test (ev_op (ev_var rfl) ev_int o_lt)) (fun h => ?_) (fun h => as_next ?_))
      · rw [if_pos (by simpa using h)]
        refine as_seq (as_asg (ev_tree (d := d) (s := (s1, gn, ln)) (by rfl) (by rfl) (ev_down rfl) (by rfl) h1 hd') ?_)
        try dsimp only [List.set]
        have o1 := lawTree_ok (ns := ns) d (s1, gn, ln) h1
        exact as_ret (ev_tup (ed_cons ev_str (ed_cons (ev_var rfl) (ed_cons (ev_tree (d := d) (s := (lawTree ns d (s1, gn, ln)).2) (by rfl) (by rfl) (ev_down rfl) (by rfl) o1 hd') ed_nil))) (show 3 ≤ 100000 by decide)) rfl ⟨.inl rfl, rfl⟩
      rw [if_neg (by simpa using h)]
      refine as_seq (as_if (b := decide (k < 8)) (et_test (ev_op (ev_var rfl) ev_int o_lt)) (fun h => ?_) (fun h => as_next ?_))
      · rw [if_pos (by simpa using h)]
        refine as_seq (as_asg (ev_tree (d := d) (s := (s1, gn, ln)) (by rfl) (by rfl) (ev_down rfl) (by rfl) h1 hd') ?_)
        try dsimp only [List.set]
        have o1 := lawTree_ok (ns := ns) d (s1, gn, ln) h1
        exact as_ret (ev_tup (ed_cons ev_str (ed_cons (ev_var rfl) (ed_cons (ev_tree (d := d) (s := (lawTree ns d (s1, gn, ln)).2) (by rfl) (by rfl) (ev_down rfl) (by rfl) o1 hd') ed_nil))) (show 3 ≤ 100000 by decide)) rfl ⟨.inl rfl, rfl⟩
      rw [if_neg (by simpa using h)]
      refine as_seq (as_if (b := decide (k < 11)) (et_test (ev_op (ev_var rfl) ev_int o_lt)) (fun h => ?_) (fun h => as_next ?_))
      · rw [if_pos (by simpa using h)]
        exact as_ret (ev_rept (d := d) (s := (s1, gn, ln)) (by rfl) (by rfl) (ev_var rfl) (by rfl) h1 hd') rfl ⟨.inl rfl, rfl⟩
      rw [if_neg (by simpa using h)]
      refine as_seq (as_if (b := decide (k < 13) || decide (2 < ln)) (et_or (et_test (ev_op (ev_var rfl) ev_int o_lt)) (fun _ => et_test (ev_op (ev_ix (d := .int ln) (ev_mu rfl) rfl ev_int (.inr (.inr ⟨0, rfl, rfl⟩)) rfl) ev_int o_gt))) (fun h => ?_) (fun h => as_next ?_))
      · rw [if_pos h]
        refine as_seq (as_asg (ev_ix (d := .int gn) (ev_mu rfl) rfl ev_int (.inr (.inr ⟨0, rfl, rfl⟩)) rfl) ?_)
        try dsimp only [List.set]
        refine as_seq (as_setI (n := 0) (j := 2) (ev_op (ev_var rfl) ev_int o_add) (ev_mu rfl) ev_int rfl (by rfl) ?_)
        refine as_ret (ev_tup (ed_cons ev_str (ed_cons (ev_var rfl) (ed_cons (ev_tree (d := d) (s := (s1, gn + 1, ln)) (by rfl) (by rfl) (ev_down rfl) (by rfl) h1 hd') ed_nil))) (show 3 ≤ 100000 by decide)) rfl ⟨.inl rfl, rfl⟩
      rw [if_neg (by rw [h]; simp)]
      have h2 : okS (dgS ns s1 2) := dgS_ok h1 (by decide)
      have h3 : okS (dgS ns (dgS ns s1 2) 3) := dgS_ok h2 (by decide)
      refine as_seq (as_setI (n := 0) (j := 3) (ev_op (ev_ix (d := .int ln) (ev_mu rfl) rfl ev_int (.inr (.inr ⟨0, rfl, rfl⟩)) rfl) ev_int o_add) (ev_mu rfl) ev_int rfl (by rfl) ?_)
      refine as_seq (as_asg (ev_op (ev_digX (s := s1) (xs := [.int gn, .int (ln + 1)]) (by rfl) (by rfl) ev_int (by rfl) h1 (by decide)) ev_int o_eqI) ?_)
      try dsimp only [List.set]
      refine as_seq (as_asg (ev_op (ev_digX (s := dgS ns s1 2) (xs := [.int gn, .int (ln + 1)]) (by rfl) (by rfl) ev_int (by rfl) h2 (by decide)) ev_int o_gt) ?_)
      try dsimp only [List.set]
      exact as_ret (ev_tup (ed_cons ev_str (ed_cons (ev_var rfl) (ed_cons (ev_var rfl) (ed_cons (ev_tree (d := d) (s := (dgS ns (dgS ns s1 2) 3, gn, ln + 1)) (by rfl) (by rfl) (ev_down rfl) (by rfl) h3 hd') ed_nil)))) (show 4 ≤ 100000 by decide)) rfl ⟨.inl rfl, rfl⟩
/-! ### _law_same -/
def dOk : Nat → D → Prop
  | 0, _ => False
  | n + 1, .list ds => ds.length ≤ 100000 ∧ ∀ d ∈ ds, dOk n d
  | n + 1, .tuple ds => ds.length ≤ 100000 ∧ ∀ d ∈ ds, dOk n d
  | _ + 1, .dict _ => False
  | _ + 1, _ => True
def G__law_same (dp : Nat) (ρ : Rho) (S : Sto) (r : Rs) (S' : Sto) : Prop := ∃ d, dOk dp d ∧ ρ = [.dt d, .dt d] ∧ S = [] ∧ r = .v (.bool true) ∧ S' = []
theorem G__law_same_0 {ρ : Rho} {S : Sto} {r : Rs} {S' : Sto} (h : G__law_same 0 ρ S r S') : False := by
  obtain ⟨d, h, _⟩ := h
  exact h
theorem hG__law_same {dp : Nat} : ∀ ρ S r S', G__law_same dp ρ S r S' → S'.length = S.length ∧ notMu r = true := by
  rintro ρ S r S' ⟨d, _, rfl, rfl, rfl, rfl⟩
  exact ⟨rfl, rfl⟩
theorem ev_same {K : PySem.W.Frag} {dp : Nat} {ρ : Rho} {S S1 S2 : Sto} {ta te : TE} {d : D} {E : XK} (h1 : Ev K ρ S ta (.v d) S1) (h2 : Ev K ρ S1 te (.v d) S2) (hd : dOk dp d) : Ev K ρ S (tCall (spA K 2 (G__law_same dp)) [] E (tCons ta (tCons te tNil))) (.v (.bool true)) S2 :=
  ev_call0 (ea_cons h1 (ea_cons h2 ea_nil)) rfl rfl rfl ⟨d, hd, rfl, rfl, rfl, rfl⟩
theorem same_loop {K : PySem.W.Frag} {A : AE} {ds : List D} {d : D} {tb : TS} {chk : Sto → Prop} (hc : chk []) (hb : ∀ (i : Nat) (en : En), i < ds.length → As K 0 tb ⟨fun ρ' S' => chk S' ∧ ∃ en, ρ' = [.dt d, .dt d, en] ∧ S' = [], A.rt, A.nx, fun ρ' S' => chk S' ∧ ∃ en, ρ' = [.dt d, .dt d, en] ∧ S' = []⟩ [.dt d, .dt d, .dt (.int (0 + (i : Int)))] []) (hn : ∀ en : En, A.nx [.dt d, .dt d, en] []) : Loop K 0 tb (bN 2) A chk (rngD 0 ds.length) [.dt d, .dt d, .un] [] :=
  loop_inv (fun _ ρ' S' => ∃ en, ρ' = [.dt d, .dt d, en] ∧ S' = []) (rngD 0 ds.length) 0 _ _ (fun i x ρ S hi ⟨en, h1, h2⟩ => by
    subst h1; subst h2
    have hl : i < ds.length := by
      have := (List.getElem?_eq_some_iff.mp hi).1
      rwa [rngD_len] at this
    rw [rngD_get hl] at hi
    cases hi
    exact hb i en hl) (fun ρ S ⟨en, h1, h2⟩ => by
    subst h1; subst h2
    exact hn en) ⟨_, rfl, rfl⟩
theorem ok__law_same (T : Txt K mg A FD V0) : ∀ dp : Nat, FnOk P w K mg base CX0 (0 + dp + 1) (A 15) (FD 15) ["actual", "expected"] (spA K 2 (G__law_same dp))
  | 0 => fn_never (fun ρ S r S' h => G__law_same_0 h)
  | dp + 1 => by
    have ih := ok__law_same T dp
    refine fun_okA (k := 0 + dp + 1) (m := 1) T.F__law_same sc__law_same rfl rfl hG__law_same (fun cdv Ar outer s H E hr => ⟨_, (pss_cons (ps_if (pt_cmpR op_isN (pv 1) pe_non (by first | exact nomark _ | rfl)) (pss_one (ps_ret (pe_cmpR op_isN (pv 0) pe_non (by first | exact nomark _ | rfl)))) pss_nil) (pss_cons (ps_if (pt_truthK (K := K) rfl (pe_callB (call_isiK (K := K) rfl) (by rfl) T.m_isinstance (by decide +kernel) (pa_cons (pv 1) (pa_cons (pe_bltn (v := .ty "bool") (by rfl) T.m_bool boot_bool rfl) pa_nil))) (by intro _; rfl)) (pss_one (ps_ret (pe_and (pe_callB (call_isiK (K := K) rfl) (by rfl) T.m_isinstance (by decide +kernel) (pa_cons (pv 0) (pa_cons (pe_bltn (v := .ty "bool") (by rfl) T.m_bool boot_bool rfl) pa_nil))) (pe_one (pe_cmpR op_eq (pv 0) (pv 1) (by first | exact nomark _ | rfl)))))) pss_nil) (pss_cons (ps_if (pt_truthK (K := K) rfl (pe_callB (call_isiK (K := K) rfl) (by rfl) T.m_isinstance (by decide +kernel) (pa_cons (pv 1) (pa_cons (pe_bltn (v := .ty "int") (by rfl) T.m_int boot_int rfl) pa_nil))) (by intro _; rfl)) (pss_one (ps_ret (pe_and (pe_callB (call_isiK (K := K) rfl) (by rfl) T.m_isinstance (by decide +kernel) (pa_cons (pv 0) (pa_cons (pe_bltn (v := .ty "int") (by rfl) T.m_int boot_int rfl) pa_nil))) (pe_and (pe_not (pe_callB (call_isiK (K := K) rfl) (by rfl) T.m_isinstance (by decide +kernel) (pa_cons (pv 0) (pa_cons (pe_bltn (v := .ty "bool") (by rfl) T.m_bool boot_bool rfl) pa_nil)))) (pe_one (pe_cmpR op_eq (pv 0) (pv 1) (by first | exact nomark _ | rfl))))))) pss_nil) (pss_cons (ps_if (pt_truthK (K := K) rfl (pe_callB (call_isiK (K := K) rfl) (by rfl) T.m_isinstance (by decide +kernel) (pa_cons (pv 1) (pa_cons (pe_bltn (v := .ty "str") (by rfl) T.m_str boot_str rfl) pa_nil))) (by intro _; rfl)) (pss_one (ps_ret (pe_and (pe_callB (call_isiK (K := K) rfl) (by rfl) T.m_isinstance (by decide +kernel) (pa_cons (pv 0) (pa_cons (pe_bltn (v := .ty "str") (by rfl) T.m_str boot_str rfl) pa_nil))) (pe_one (pe_cmpR op_eq (pv 0) (pv 1) (by first | exact nomark _ | rfl)))))) pss_nil) (pss_cons (ps_if (PW.pt (pw_and (pt_truthK (K := K) rfl (pe_callB (call_isiK (K := K) rfl) (by rfl) T.m_isinstance (by decide +kernel) (pa_cons (pv 1) (pa_cons (pe_bltn (v := .ty "tuple") (by rfl) T.m_tuple boot_tuple rfl) pa_nil))) (by intro _; rfl)) (pw_and1 (pt_not (pt_truthK (K := K) rfl (pe_callB (call_isiK (K := K) rfl) (by rfl) T.m_isinstance (by decide +kernel) (pa_cons (pv 0) (pa_cons (pe_bltn (v := .ty "tuple") (by rfl) T.m_tuple boot_tuple rfl) pa_nil))) (by intro _; rfl)))))) (pss_one (ps_ret pe_bl)) pss_nil) (pss_cons (ps_if (PW.pt (pw_and (pt_truthK (K := K) rfl (pe_callB (call_isiK (K := K) rfl) (by rfl) T.m_isinstance (by decide +kernel) (pa_cons (pv 1) (pa_cons (pe_bltn (v := .ty "list") (by rfl) T.m_list boot_list rfl) pa_nil))) (by intro _; rfl)) (pw_and1 (pt_not (pt_truthK (K := K) rfl (pe_callB (call_isiK (K := K) rfl) (by rfl) T.m_isinstance (by decide +kernel) (pa_cons (pv 0) (pa_cons (pe_bltn (v := .ty "list") (by rfl) T.m_list boot_list rfl) pa_nil))) (by intro _; rfl)))))) (pss_one (ps_ret pe_bl)) pss_nil) (pss_cons (ps_if (pt_cmpR op_ne (pe_callB (call_lenK (K := K) rfl) (by rfl) T.m_len PySem.boot_len (pa_cons (pv 0) pa_nil)) (pe_callB (call_lenK (K := K) rfl) (by rfl) T.m_len PySem.boot_len (pa_cons (pv 1) pa_nil)) (by first | exact nomark _ | rfl)) (pss_one (ps_ret pe_bl)) pss_nil) (pss_cons (ps_for PassesOwn.never rfl (pi_range1 (by rfl) T.m_range (pa_cons (pe_callB (call_lenK (K := K) rfl) (by rfl) T.m_len PySem.boot_len (pa_cons (pv 1) pa_nil)) pa_nil)) (pg_name (i := 2) sc__law_same.nd rfl (by first | exact Or.inl rfl | exact Or.inr rfl)) (pss_one (ps_if (pt_not (pt_truthK (K := K) rfl (pe_call ih (hr.mono (by omega)) (by rfl) T.g__law_same T.F__law_same.kp T.b__law_same .nil pass0 (pa_cons (pe_ix (ix_seqK (K := K) rfl) (pv 0) (pv 2) (fun _ _ => rfl)) (pa_cons (pe_ix (ix_seqK (K := K) rfl) (pv 1) (pv 2) (fun _ _ => rfl)) pa_nil))) (by intro _; rfl))) (pss_one (ps_ret pe_bl)) pss_nil))) (pss_one (ps_ret pe_bl)))))))))), fun ρ S r S' hρ g => ?_⟩)
    try dsimp only [cxOf]
    obtain ⟨d, hd, rfl, rfl, rfl, rfl⟩ := g
    cases d with
    | none =>
      walk_at "ifT"
      walk_at "ret"
      exact ⟨.inl rfl, rfl⟩
    | bool b =>
      walk_at "ifF"
      walk_at "ifT"
      walk_at "ret"
      exact ⟨.inl (by simp [isD_bool, isD_int, isD_str, isD_tuple, isD_list]), rfl⟩
    | int b =>
      walk_at "ifF"
      walk_at "ifF"
      walk_at "ifT"
      walk_at "ret"
      exact ⟨.inl (by simp [isD_bool, isD_int, isD_str, isD_tuple, isD_list]), rfl⟩
    | str b =>
      walk_at "ifF"
      walk_at "ifF"
      walk_at "ifF"
      walk_at "ifT"
      walk_at "ret"
      exact ⟨.inl (by simp [isD_bool, isD_int, isD_str, isD_tuple, isD_list]), rfl⟩
    | dict kvs => exact hd.elim
    | list ds =>
      walk_at "ifF"
      walk_at "ifF"
      walk_at "ifF"
      walk_at "ifF"
      walk_at "ifF"
      walk_at "ifF"
      walk_at "ifF"
      refine as_seq ?_
      refine as_for (bind := bN 2) (wk_r1 (ed_cons (by walk_at "ev") ed_nil) ⟨by omega, by have := hd.1; omega⟩) trivial (fun d _ => tg_bN) (same_loop trivial (fun i en hi => ?_) fun en => ?_)
      · refine as_ifF (et_not (et_truB (ev_call0 (ea_cons (ev_ix (ev_var rfl) rfl (ev_var rfl) (.inl rfl) (by rw [Int.zero_add]; exact atI_nat (List.getElem?_eq_getElem hi))) (ea_cons (ev_ix (ev_var rfl) rfl (ev_var rfl) (.inl rfl) (by rw [Int.zero_add]; exact atI_nat (List.getElem?_eq_getElem hi))) ea_nil)) rfl rfl rfl ⟨ds[i], hd.2 _ (List.getElem_mem hi), rfl, rfl, rfl, rfl⟩))) rfl ?_
        exact as_next ⟨trivial, _, rfl, rfl⟩
      · walk_at "ret"
        exact ⟨.inl rfl, rfl⟩
    | tuple ds =>
      walk_at "ifF"
      walk_at "ifF"
      walk_at "ifF"
      walk_at "ifF"
      walk_at "ifF"
      walk_at "ifF"
      walk_at "ifF"
      refine as_seq ?_
      refine as_for (bind := bN 2) (wk_r1 (ed_cons (by walk_at "ev") ed_nil) ⟨by omega, by have := hd.1; omega⟩) trivial (fun d _ => tg_bN) (same_loop trivial (fun i en hi => ?_) fun en => ?_)
      · refine as_ifF (et_not (et_truB (ev_call0 (ea_cons (ev_ix (ev_var rfl) rfl (ev_var rfl) (.inr (.inl rfl)) (by rw [Int.zero_add]; exact atI_nat (List.getElem?_eq_getElem hi))) (ea_cons (ev_ix (ev_var rfl) rfl (ev_var rfl) (.inr (.inl rfl)) (by rw [Int.zero_add]; exact atI_nat (List.getElem?_eq_getElem hi))) ea_nil)) rfl rfl rfl ⟨ds[i], hd.2 _ (List.getElem_mem hi), rfl, rfl, rfl, rfl⟩))) rfl ?_
        exact as_next ⟨trivial, _, rfl, rfl⟩
      · walk_at "ret"
        exact ⟨.inl rfl, rfl⟩
/-! ### _law_weight -/
def tdp : Tr → Nat
  | .seq a b => max (tdp a) (tdp b) + 1
  | .cho a b => max (tdp a) (tdp b) + 1
  | .rep a _ _ _ => tdp a + 1
  | .grp n a => tdp a + 1
  | .look _ _ a => tdp a + 1
  | _ => 0
def G__law_weight (dp : Nat) (ρ : Rho) (S : Sto) (r : Rs) (S' : Sto) : Prop := ∃ t, tdp t < dp ∧ repOk t ∧ ρ = [.dt (trD t)] ∧ S = [] ∧ r = .v (.int (wt t)) ∧ S' = []
theorem G__law_weight_0 {ρ : Rho} {S : Sto} {r : Rs} {S' : Sto} (h : G__law_weight 0 ρ S r S') : False := by
  obtain ⟨t, h, _⟩ := h
  omega
theorem hG__law_weight {dp : Nat} : ∀ ρ S r S', G__law_weight dp ρ S r S' → S'.length = S.length ∧ notMu r = true := by
  rintro ρ S r S' ⟨t, _, _, rfl, rfl, rfl, rfl⟩
  exact ⟨rfl, rfl⟩
theorem ev_lwt {K : PySem.W.Frag} {dp : Nat} {ρ : Rho} {S S1 : Sto} {ta : TE} {t : Tr} {E : XK} (h1 : Ev K ρ S ta (.v (trD t)) S1) (h : tdp t < dp) (hr : repOk t) : Ev K ρ S (tCall (spA K 1 (G__law_weight dp)) [] E (tCons ta tNil)) (.v (.int (wt t))) S1 :=
  ev_call0 (ea_cons h1 ea_nil) rfl rfl rfl ⟨t, h, hr, rfl, rfl, rfl, rfl⟩
theorem ok__law_weight (T : Txt K mg A FD V0) : ∀ dp : Nat, FnOk P w K mg base CX0 (0 + dp + 1) (A 16) (FD 16) ["tree"] (spA K 1 (G__law_weight dp))
  | 0 => fn_never (fun ρ S r S' h => G__law_weight_0 h)
  | dp + 1 => by
    have ih := ok__law_weight T dp
    refine fun_okA (k := 0 + dp + 1) (m := 1) T.F__law_weight sc__law_weight rfl rfl hG__law_weight (fun cdv Ar outer s H E hr => ⟨_, (pss_cons (ps_if (PW.pt (pw_or (pt_cmpR op_eq (pe_ix (ix_seqK (K := K) rfl) (pv 0) pe_int (fun _ _ => rfl)) pe_str (by first | exact nomark _ | rfl)) (pw_or1 (pt_cmpR op_eq (pe_ix (ix_seqK (K := K) rfl) (pv 0) pe_int (fun _ _ => rfl)) pe_str (by first | exact nomark _ | rfl))))) (pss_one (ps_ret (pe_op op_add (pe_call ih (hr.mono (by omega)) (by rfl) T.g__law_weight T.F__law_weight.kp T.b__law_weight .nil pass0 (pa_cons (pe_ix (ix_seqK (K := K) rfl) (pv 0) pe_int (fun _ _ => rfl)) pa_nil)) (pe_call ih (hr.mono (by omega)) (by rfl) T.g__law_weight T.F__law_weight.kp T.b__law_weight .nil pass0 (pa_cons (pe_ix (ix_seqK (K := K) rfl) (pv 0) pe_int (fun _ _ => rfl)) pa_nil))))) pss_nil) (pss_cons (ps_if (pt_cmpR op_eq (pe_ix (ix_seqK (K := K) rfl) (pv 0) pe_int (fun _ _ => rfl)) pe_str (by first | exact nomark _ | rfl)) (pss_cons (ps_set (i := 1) sc__law_weight.nd rfl (by first | exact Or.inl rfl | exact Or.inr rfl) (pe_op op_add (pe_ix (ix_seqK (K := K) rfl) (pv 0) pe_int (fun _ _ => rfl)) pe_int)) (pss_cons (ps_if (pt_cmpR op_notN (pe_ix (ix_seqK (K := K) rfl) (pv 0) pe_int (fun _ _ => rfl)) pe_non (by first | exact nomark _ | rfl)) (pss_one (ps_set (i := 1) sc__law_weight.nd rfl (by first | exact Or.inl rfl | exact Or.inr rfl) (pe_callB (call_max2 rfl) (by rfl) T.m_max (by decide +kernel) (pa_cons pe_int (pa_cons (pe_ix (ix_seqK (K := K) rfl) (pv 0) pe_int (fun _ _ => rfl)) pa_nil))))) pss_nil) (pss_one (ps_ret (pe_op op_mul (pv 1) (pe_call ih (hr.mono (by omega)) (by rfl) T.g__law_weight T.F__law_weight.kp T.b__law_weight .nil pass0 (pa_cons (pe_ix (ix_seqK (K := K) rfl) (pv 0) pe_int (fun _ _ => rfl)) pa_nil))))))) pss_nil) (pss_cons (ps_if (pt_cmpR op_eq (pe_ix (ix_seqK (K := K) rfl) (pv 0) pe_int (fun _ _ => rfl)) pe_str (by first | exact nomark _ | rfl)) (pss_one (ps_ret (pe_call ih (hr.mono (by omega)) (by rfl) T.g__law_weight T.F__law_weight.kp T.b__law_weight .nil pass0 (pa_cons (pe_ix (ix_seqK (K := K) rfl) (pv 0) pe_int (fun _ _ => rfl)) pa_nil)))) pss_nil) (pss_cons (ps_if (pt_cmpR op_eq (pe_ix (ix_seqK (K := K) rfl) (pv 0) pe_int (fun _ _ => rfl)) pe_str (by first | exact nomark _ | rfl)) (pss_one (ps_ret (pe_call ih (hr.mono (by omega)) (by rfl) T.g__law_weight T.F__law_weight.kp T.b__law_weight .nil pass0 (pa_cons (pe_ix (ix_seqK (K := K) rfl) (pv 0) pe_int (fun _ _ => rfl)) pa_nil)))) pss_nil) (pss_one (ps_ret pe_int)))))), fun ρ S r S' hρ g => ?_⟩)
    try dsimp only [cxOf]
    obtain ⟨t, ht, hr0, rfl, rfl, rfl, rfl⟩ := g
    have i0 : ∀ {ρ : Rho} {S : Sto} {x : Str}, ρ[0]? = some (.dt (trD t)) → EvT K ρ S (tTest (tOp rEq (tOp (rIx K) (tVar 0) (tC (.int 0))) (tC (.str x)))) (decide (trK t = x)) S := fun h => et_test (ev_op (ev_kind (ev_var h)) ev_str o_eqS)
    have sc : ∀ {ρ : Rho} {S : Sto}, ρ[0]? = some (.dt (trD t)) → EvT K ρ S (tOr (tTest (tOp rEq (tOp (rIx K) (tVar 0) (tC (.int 0))) (tC (.str "sequence")))) (tTest (tOp rEq (tOp (rIx K) (tVar 0) (tC (.int 0))) (tC (.str "choice"))))) (decide (trK t = ("sequence" : Str)) || decide (trK t = ("choice" : Str))) S := fun h => et_or (i0 h) (fun _ => i0 h)
    cases t with
    | seq a b =>
      simp only [tdp] at ht
      refine as_seq (as_ifT (sc rfl) (by kernel_rfl) ?_)
      exact as_ret (ev_op (ev_lwt (t := a) (ev_ix (ev_var rfl) rfl ev_int (.inr (.inl rfl)) rfl) (by omega) hr0.1) (ev_lwt (t := b) (ev_ix (ev_var rfl) rfl ev_int (.inr (.inl rfl)) rfl) (by omega) hr0.2) o_add) rfl ⟨.inl rfl, rfl⟩
    | cho a b =>
      simp only [tdp] at ht
      refine as_seq (as_ifT (sc rfl) (by kernel_rfl) ?_)
      exact as_ret (ev_op (ev_lwt (t := a) (ev_ix (ev_var rfl) rfl ev_int (.inr (.inl rfl)) rfl) (by omega) hr0.1) (ev_lwt (t := b) (ev_ix (ev_var rfl) rfl ev_int (.inr (.inl rfl)) rfl) (by omega) hr0.2) o_add) rfl ⟨.inl rfl, rfl⟩
    | rep a lo hi gr =>
      simp only [tdp] at ht
      refine as_seq (as_ifF (sc rfl) (by kernel_rfl) (as_next ?_))
      refine as_seq (as_ifT (i0 rfl) (by kernel_rfl) ?_)
      refine as_seq (as_asg (ev_op (ev_ix (d := .int lo) (ev_var rfl) rfl ev_int (.inr (.inl rfl)) rfl) ev_int o_add) ?_)
      try dsimp only [List.set]
      refine as_seqJ (ρ1 := [.dt (trD (.rep a lo hi gr)), .dt (.int (fct lo hi))]) (S1 := []) ?_ ?_
      · cases hi with
        | none => exact as_ifF (et_test (ev_op (ev_ix (d := .none) (ev_var rfl) rfl ev_int (.inr (.inl rfl)) rfl) ev_non o_notN)) rfl (as_next ⟨rfl, rfl⟩)
        | some m =>
          refine as_ifT (et_test (ev_op (ev_ix (d := .int m) (ev_var rfl) rfl ev_int (.inr (.inl rfl)) rfl) ev_non o_notN)) rfl ?_
          exact as_asg (ev_fn (ed_cons ev_int (ed_cons (ev_ix (d := .int m) (ev_var rfl) rfl ev_int (.inr (.inl rfl)) rfl) ed_nil)) fn_max) ⟨rfl, rfl⟩
      refine as_ret (S1 := []) (ev_op (ev_var rfl) (ev_lwt (t := a) (ev_ix (ev_var rfl) rfl ev_int (.inr (.inl rfl)) rfl) (by omega) hr0.1) (o_mul (.inl hr0.2))) rfl ⟨.inl ?_, rfl⟩
      show Rs.v (.int (fct lo hi * wt a)) = .v (.int (wt a * fct lo hi))
      rw [Int.mul_comm]
    | grp n a =>
      simp only [tdp] at ht
      refine as_seq (as_ifF (sc rfl) (by kernel_rfl) (as_next ?_))
      refine as_seq (as_ifF (i0 rfl) (by kernel_rfl) (as_next ?_))
      refine as_seq (as_ifT (i0 rfl) (by kernel_rfl) ?_)
      exact as_ret (ev_lwt (t := a) (ev_ix (ev_var rfl) rfl ev_int (.inr (.inl rfl)) rfl) (by omega) hr0) rfl ⟨.inl rfl, rfl⟩
    | look ah po a =>
      simp only [tdp] at ht
      refine as_seq (as_ifF (sc rfl) (by kernel_rfl) (as_next ?_))
      refine as_seq (as_ifF (i0 rfl) (by kernel_rfl) (as_next ?_))
      refine as_seq (as_ifF (i0 rfl) (by kernel_rfl) (as_next ?_))
      refine as_seq (as_ifT (i0 rfl) (by kernel_rfl) ?_)
      exact as_ret (ev_lwt (t := a) (ev_ix (ev_var rfl) rfl ev_int (.inr (.inl rfl)) rfl) (by omega) hr0) rfl ⟨.inl rfl, rfl⟩
    | set ps =>
      refine as_seq (as_ifF (sc rfl) (by kernel_rfl) (as_next ?_))
      refine as_seq (as_ifF (i0 rfl) (by kernel_rfl) (as_next ?_))
      refine as_seq (as_ifF (i0 rfl) (by kernel_rfl) (as_next ?_))
      refine as_seq (as_ifF (i0 rfl) (by kernel_rfl) (as_next ?_))
      exact as_ret ev_int rfl ⟨.inl rfl, rfl⟩
    | emp =>
      refine as_seq (as_ifF (sc rfl) (by kernel_rfl) (as_next ?_))
      refine as_seq (as_ifF (i0 rfl) (by kernel_rfl) (as_next ?_))
      refine as_seq (as_ifF (i0 rfl) (by kernel_rfl) (as_next ?_))
      refine as_seq (as_ifF (i0 rfl) (by kernel_rfl) (as_next ?_))
      exact as_ret ev_int rfl ⟨.inl rfl, rfl⟩
    | anc k =>
      refine as_seq (as_ifF (sc rfl) (by kernel_rfl) (as_next ?_))
      refine as_seq (as_ifF (i0 rfl) (by kernel_rfl) (as_next ?_))
      refine as_seq (as_ifF (i0 rfl) (by kernel_rfl) (as_next ?_))
      refine as_seq (as_ifF (i0 rfl) (by kernel_rfl) (as_next ?_))
      exact as_ret ev_int rfl ⟨.inl rfl, rfl⟩
/-! ### law -/
def G_law (ρ : Rho) (S : Sto) (r : Rs) (S' : Sto) : Prop := ∃ ns, ρ = [.dt (intsD ns)] ∧ S = [] ∧ r = .v (.bool true) ∧ S' = []
theorem hG_law : ∀ ρ S r S', G_law ρ S r S' → S'.length = S.length ∧ notMu r = true := by
  rintro ρ S r S' ⟨ns, rfl, rfl, rfl, rfl⟩
  exact ⟨rfl, rfl⟩
theorem G_law_holds (ns : List Int) (hl : ns.length ≤ 63) : G_law [.dt (.list (ns.map PyData.int))] [] (.v (.bool true)) [] := ⟨ns, rfl, rfl, rfl, rfl⟩
theorem dOk_prs {n : Nat} {ps : PL} (h : ps.length ≤ 100000) : dOk (n + 3) (.list (prsD ps)) ∧ dOk (n + 3) (.tuple (prsD ps)) := by
  have key : (prsD ps).length ≤ 100000 ∧ ∀ d ∈ prsD ps, dOk (n + 2) d := by
    refine ⟨by simpa [prsD] using h, fun d hd => ?_⟩
    obtain ⟨p, _, rfl⟩ := List.mem_map.mp hd
    refine ⟨show 2 ≤ 100000 by decide, fun d hd => ?_⟩
    simp only [List.mem_cons, List.not_mem_nil, or_false] at hd
    rcases hd with rfl | rfl <;> trivial
  exact ⟨key, key⟩
theorem dOk_set {n : Nat} {f : Int → Bool} : dOk (n + 3) (.tuple (prsD (setOf f))) := (dOk_prs (Nat.le_trans (can_len (set_can _)) (by decide))).2
theorem bits_get {f : Int → Bool} {c : Int} (h0 : 0 ≤ c) (h1 : c < 128) : atI ((codeBits f).map PyData.bool) c = some (.bool (f c)) := by
  obtain ⟨n, rfl⟩ : ∃ n : Nat, c = (n : Int) := ⟨c.toNat, by omega⟩
  refine atI_nat ?_
  have hn : n < 128 := by omega
  simp [codeBits, hn]
theorem set_op2 (g : Bool → Bool → Bool) (f1 f2 : Int → Bool) : setOf (fun c => g (inP (setOf f1) c) (inP (setOf f2) c)) = setOf (fun c => g (f1 c) (f2 c)) := set_congr fun c h0 h1 => by
  have a0 : decide (0 ≤ c) = true := by simpa using h0
  have a1 : decide (c < 128) = true := by simpa using h1
  rw [set_mem, set_mem, a0, a1]
  rfl
theorem set_op1 (g : Bool → Bool) (f1 : Int → Bool) : setOf (fun c => g (inP (setOf f1) c)) = setOf (fun c => g (f1 c)) := set_congr fun c h0 h1 => by
  have a0 : decide (0 ≤ c) = true := by simpa using h0
  have a1 : decide (c < 128) = true := by simpa using h1
  rw [set_mem, a0, a1]
  rfl
def rgInt (a : Int) (n : Nat) : List Int := (List.range n).map fun (i : Nat) => a + (i : Int)
theorem rgInt_add (a : Int) (n m : Nat) : rgInt a n ++ rgInt (a + n) m = rgInt a (n + m) := by
  unfold rgInt
  rw [List.range_add, List.map_append, List.map_map]
  congr 1
  apply List.map_congr_left
  intro i _
  simp only [Function.comp]
  omega
theorem rgInt_succ (a : Int) (n : Nat) : a :: rgInt (a + 1) n = rgInt a (n + 1) := by
  have h := rgInt_add a 1 n
  have e : rgInt a 1 = [a] := by simp [rgInt]
  rw [e, Nat.add_comm 1 n] at h
  exact h
theorem rgInt_pw (a : Int) (n : Nat) : (rgInt a n).Pairwise (· ≤ ·) := by
  unfold rgInt
  rw [List.pairwise_map]
  exact List.pairwise_lt_range.imp fun h => by omega
/-- what the drawn trees keep -/
structure TrOk (d : Nat) (s : St4) (t : Tr) (s' : St4) : Prop where
  g : ∃ n : Nat, s'.2.1 = s.2.1 + n ∧ (gs t).Perm (rgInt s.2.1 n)
  l : s'.2.2 = s.2.2 + (lks t : Int)
  z : tsz t + 1 ≤ 2 ^ (d + 1)
  p : tdp t ≤ d
  r : repOk t
theorem TrOk.leaf {d : Nat} {s : St4} {ns : List Int} {q q' : St2} {k : Int} : TrOk d s (lawLeaf ns q k).1 (q', s.2) := by
  have hz : 2 ≤ 2 ^ (d + 1) := by
    have := Nat.one_le_two_pow (n := d)
    rw [Nat.pow_succ]
    omega
  unfold lawLeaf
  repeat' split
  all_goals exact ⟨⟨0, by simp, .refl _⟩, by simp [lks], hz, Nat.zero_le _, trivial⟩
theorem TrOk.cong {d : Nat} {s s0 s' : St4} {t : Tr} (h : TrOk d s t s') (e : s.2 = s0.2) : TrOk d s0 t s' := ⟨e ▸ h.g, e ▸ h.l, h.z, h.p, h.r⟩
theorem TrOk.two {d : Nat} {s s1 s2 : St4} {a b : Tr} (ha : TrOk d s a s1) (hb : TrOk d s1 b s2) : TrOk (d + 1) s (.seq a b) s2 ∧ TrOk (d + 1) s (.cho a b) s2 := by
  have key : (∃ n : Nat, s2.2.1 = s.2.1 + n ∧ (gs a ++ gs b).Perm (rgInt s.2.1 n)) ∧ s2.2.2 = s.2.2 + ((lks a + lks b : Nat) : Int) ∧ tsz a + tsz b + 1 + 1 ≤ 2 ^ (d + 1 + 1) ∧ max (tdp a) (tdp b) + 1 ≤ d + 1 := by
    obtain ⟨n, e1, p1⟩ := ha.g
    obtain ⟨m, e2, p2⟩ := hb.g
    refine ⟨⟨n + m, by omega, ?_⟩, ?_, ?_, ?_⟩
    · rw [← rgInt_add]
      rw [e1] at p2
      exact p1.append p2
    · have := ha.l
      have := hb.l
      omega
    · have := ha.z
      have := hb.z
      rw [Nat.pow_succ 2 (d + 1)]
      omega
    · have := ha.p
      have := hb.p
      omega
  exact ⟨⟨key.1, key.2.1, key.2.2.1, key.2.2.2, ha.r, hb.r⟩, ⟨key.1, key.2.1, key.2.2.1, key.2.2.2, ha.r, hb.r⟩⟩
theorem lawNode_trok {ns : List Int} {d : Nat} {rc : St4 → Tr × St4} (hr : ∀ s, TrOk d s (rc s).1 (rc s).2) (s : St4) : TrOk (d + 1) s (lawNode ns rc false s).1 (lawNode ns rc false s).2 := by
  unfold lawNode
  dsimp only
  repeat' split
  · exact TrOk.leaf (s := s)
  · exact (TrOk.two (hr (dgS ns s.1 15, s.2)) (hr (rc (dgS ns s.1 15, s.2)).2)).1.cong rfl
  · exact (TrOk.two (hr (dgS ns s.1 15, s.2)) (hr (rc (dgS ns s.1 15, s.2)).2)).2.cong rfl
  · unfold lawRep
    dsimp only
    generalize hq : (dgS ns (if dg ns (dgS ns (dgS ns s.1 15) 3) 2 = 1 then dgS ns (dgS ns (dgS ns (dgS ns s.1 15) 3) 2) 3 else dgS ns (dgS ns (dgS ns s.1 15) 3) 2) 3, s.2) = s0
    have h := hr s0
    have e : s0.2 = s.2 := by rw [← hq]
    have hg := h.g
    have hl := h.l
    rw [e] at hg hl
    refine ⟨hg, hl, ?_, ?_, h.r, ?_⟩
    · have := h.z
      show tsz (rc s0).1 + 1 + 1 ≤ 2 ^ (d + 1 + 1)
      rw [Nat.pow_succ 2 (d + 1)]
      omega
    · have := h.p
      show tdp (rc s0).1 + 1 ≤ d + 1
      omega
    · have a1 := dg_nn (ns := ns) (s := dgS ns s.1 15) (m := 3) (by decide)
      have a2 := dg_lt (ns := ns) (s := dgS ns s.1 15) (m := 3) (by decide)
      have a3 := dg_nn (ns := ns) (s := dgS ns (dgS ns (dgS ns s.1 15) 3) 2) (m := 3) (by decide)
      have a4 := dg_lt (ns := ns) (s := dgS ns (dgS ns (dgS ns s.1 15) 3) 2) (m := 3) (by decide)
      split <;> simp only [fct] <;> omega
  · have h := hr (dgS ns s.1 15, s.2.1 + 1, s.2.2)
    obtain ⟨n, e1, p1⟩ := h.g
    refine ⟨⟨n + 1, ?_, ?_⟩, h.l, ?_, ?_, h.r⟩
    · have e2 : (rc (dgS ns s.1 15, s.2.1 + 1, s.2.2)).2.2.1 = s.2.1 + 1 + (n : Int) := e1
      show (rc (dgS ns s.1 15, s.2.1 + 1, s.2.2)).2.2.1 = s.2.1 + ((n + 1 : Nat) : Int)
      omega
    · rw [← rgInt_succ]
      show (gs (rc (dgS ns s.1 15, s.2.1 + 1, s.2.2)).1 ++ [s.2.1]).Perm _
      exact (List.perm_append_singleton _ _).trans (p1.cons _)
    · have := h.z
      show tsz (rc (dgS ns s.1 15, s.2.1 + 1, s.2.2)).1 + 1 + 1 ≤ 2 ^ (d + 1 + 1)
      rw [Nat.pow_succ 2 (d + 1)]
      omega
    · have := h.p
      show tdp (rc (dgS ns s.1 15, s.2.1 + 1, s.2.2)).1 + 1 ≤ d + 1
      omega
  · have h := hr (dgS ns (dgS ns (dgS ns s.1 15) 2) 3, s.2.1, s.2.2 + 1)
    refine ⟨h.g, ?_, ?_, ?_, h.r⟩
    · have h2 : (rc (dgS ns (dgS ns (dgS ns s.1 15) 2) 3, s.2.1, s.2.2 + 1)).2.2.2 = s.2.2 + 1 + (lks (rc (dgS ns (dgS ns (dgS ns s.1 15) 2) 3, s.2.1, s.2.2 + 1)).1 : Int) := h.l
      show (rc (dgS ns (dgS ns (dgS ns s.1 15) 2) 3, s.2.1, s.2.2 + 1)).2.2.2 = s.2.2 + ((lks (rc (dgS ns (dgS ns (dgS ns s.1 15) 2) 3, s.2.1, s.2.2 + 1)).1 + 1 : Nat) : Int)
      omega
    · have := h.z
      show tsz (rc (dgS ns (dgS ns (dgS ns s.1 15) 2) 3, s.2.1, s.2.2 + 1)).1 + 1 + 1 ≤ 2 ^ (d + 1 + 1)
      rw [Nat.pow_succ 2 (d + 1)]
      omega
    · have := h.p
      show tdp (rc (dgS ns (dgS ns (dgS ns s.1 15) 2) 3, s.2.1, s.2.2 + 1)).1 + 1 ≤ d + 1
      omega
theorem lawTree_trok {ns : List Int} : ∀ (d : Nat) (s : St4), TrOk d s (lawTree ns d s).1 (lawTree ns d s).2
  | 0, s => TrOk.leaf (s := s)
  | d + 1, s => lawNode_trok (lawTree_trok d) s
theorem ok_law (T : Txt K mg A FD V0) : FnOk P w K mg base CX0 16 (A 17) (FD 17) ["script"] (spA K 1 G_law) := by
  refine fun_okA (k := 15) (m := 2) T.F_law sc_law rfl rfl hG_law (fun cdv Ar outer s H E hr => ⟨_, (pss_cons (ps_set (i := 1) sc_law.nd rfl (by first | exact Or.inl rfl | exact Or.inr rfl) (pe_lst (pa_cons pe_int (pa_cons pe_int (pa_cons pe_int (pa_cons pe_int pa_nil)))))) (pss_cons (ps_set (i := 2) sc_law.nd rfl (by first | exact Or.inl rfl | exact Or.inr rfl) (pe_call (ok__law_tree T 5) (hr.mono (by omega)) (by rfl) T.g__law_tree T.F__law_tree.kp T.b__law_tree .nil pass0 (pa_cons (pv 0) (pa_cons (pv 1) (pa_cons (pe_op op_add pe_int (pe_call (ok__law_digit T) (hr.mono (by omega)) (by rfl) T.g__law_digit T.F__law_digit.kp T.b__law_digit .nil pass0 (pa_cons (pv 0) (pa_cons (pv 1) (pa_cons pe_int pa_nil))))) pa_nil))))) (pss_cons (ps_if (pt_not (pt_truthK (K := K) rfl (pe_call (ok__law_same T 5) (hr.mono (by omega)) (by rfl) T.g__law_same T.F__law_same.kp T.b__law_same .nil pass0 (pa_cons (pe_call (ok_weight T) (hr.mono (by omega)) (by rfl) T.g_weight T.F_weight.kp T.b_weight .nil pass0 (pa_cons (pv 2) pa_nil)) (pa_cons (pe_call (ok__law_weight T 5) (hr.mono (by omega)) (by rfl) T.g__law_weight T.F__law_weight.kp T.b__law_weight .nil pass0 (pa_cons (pv 2) pa_nil)) pa_nil))) (by intro _; rfl))) (pss_one (ps_ret pe_bl)) pss_nil) (pss_one (ps_ret (pe_and (pe_call (ok__law_same T 5) (hr.mono (by omega)) (by rfl) T.g__law_same T.F__law_same.kp T.b__law_same .nil pass0 (pa_cons (pe_call (ok_inner_groups T) (hr.mono (by omega)) (by rfl) T.g_inner_groups T.F_inner_groups.kp T.b_inner_groups .nil pass0 (pa_cons (pv 2) pa_nil)) (pa_cons (pe_listRg rfl (by rfl) T.m_list (prg_1 (by rfl) T.m_range (pe_ix (ix_seqK (K := K) rfl) (pv 1) pe_int (fun _ _ => rfl)))) pa_nil))) (pe_one (pe_call (ok__law_same T 5) (hr.mono (by omega)) (by rfl) T.g__law_same T.F__law_same.kp T.b__law_same .nil pass0 (pa_cons (pe_call (ok_look_total T) (hr.mono (by omega)) (by rfl) T.g_look_total T.F_look_total.kp T.b_look_total .nil pass0 (pa_cons (pv 2) pa_nil)) (pa_cons (pe_ix (ix_seqK (K := K) rfl) (pv 1) pe_int (fun _ _ => rfl)) pa_nil)))))))))), fun ρ S r S' hρ g => ?_⟩)
  try dsimp only [cxOf]
  obtain ⟨ns, rfl, rfl, rfl, rfl⟩ := g
  have ho : okS (0, 0) := ⟨Int.le_refl _, Int.le_refl _⟩
  walk_at "asgN"
  have h1 : okS (dgS ns (0, 0) 3) := dgS_ok ho (by decide)
  have b0 := dg_nn (ns := ns) (s := (0, 0)) (m := 3) (by decide)
  have b1 := dg_lt (ns := ns) (s := (0, 0)) (m := 3) (by decide)
  obtain ⟨d, hd⟩ : ∃ d : Nat, 1 + dg ns (0, 0) 3 = (d : Int) := ⟨(1 + dg ns (0, 0) 3).toNat, by omega⟩
  have hd3 : d ≤ 3 := by omega
  refine as_seq (as_asg (ev_tree (dp := 5) (d := d) (s := (dgS ns (0, 0) 3, 0, 0)) (by rfl) (by rfl) (ev_is (ev_op ev_int (ev_digX (s := (0, 0)) (xs := [.int 0, .int 0]) (by rfl) (by rfl) ev_int (by rfl) ho (by decide)) o_add) (by rw [hd])) (by rfl) h1 (by omega)) ?_)
  try dsimp only [List.set]
  have hk := lawTree_trok (ns := ns) d (dgS ns (0, 0) 3, 0, 0)
  generalize (lawTree ns d (dgS ns (0, 0) 3, 0, 0)).1 = t at *
  generalize (lawTree ns d (dgS ns (0, 0) 3, 0, 0)).2 = s at *
  have hz : tsz t ≤ 50000 := by
    have := hk.z
    have : 2 ^ (d + 1) ≤ 2 ^ 4 := Nat.pow_le_pow_right (by decide) (by omega)
    omega
  refine as_seq (as_ifF (et_not (et_truB (ev_same (dp := 5) (ev_weight (t := t) (ev_var rfl) hz hk.r) (ev_lwt (dp := 5) (t := t) (ev_var rfl) (by have := hk.p; omega) hk.r) trivial))) rfl (as_next ?_))
  obtain ⟨n, e1, p1⟩ := hk.g
  have e1 : s.2.1 = (n : Int) := by
    dsimp only at e1
    omega
  have e2 : s.2.2 = (lks t : Int) := by
    have := hk.l
    dsimp only at this
    omega
  have hs : sortI (gs t) = rgInt 0 n := sortI_eq p1.symm (rgInt_pw 0 n)
  have hn : n ≤ 50000 := by
    have hg : (gs t).length ≤ tsz t := by
      clear p1 hs e1 e2 hz hk
      induction t with
      | set _ => exact Nat.zero_le _
      | emp => exact Nat.zero_le _
      | anc _ => exact Nat.zero_le _
      | seq a b ha hb => simp [gs, tsz]; omega
      | cho a b ha hb => simp [gs, tsz]; omega
      | rep a _ _ _ ha => simp [gs, tsz]; omega
      | grp _ a ha => simp [gs, tsz]; omega
      | look _ _ a ha => simp [gs, tsz]; omega
    have := p1.length_eq
    simp [rgInt] at this
    omega
  have hr : (rgInt 0 n).map PyData.int = rngD 0 n := by
    unfold rgInt rngD
    rw [List.map_map]
    rfl
  refine as_ret (ev_andB (a := true) (b := true) (ev_same (dp := 5) (d := .list (rngD 0 n)) (ev_fr (ev_is (ev_inner (t := t) (ev_var rfl) hz) (by rw [hs, hr]))) (ev_fr (ev_is (ev_listRg1 (n := (n : Int)) (ev_is (ev_ix (d := .int s.2.1) (ev_mu rfl) rfl ev_int (.inr (.inr ⟨0, rfl, rfl⟩)) rfl) (by rw [e1])) ⟨by omega, by omega⟩) (by simp))) ⟨by rw [rngD_len]; omega, fun x hx => by
    obtain ⟨i, _, rfl⟩ := List.mem_map.mp hx
    trivial⟩) (fun _ => ev_same (dp := 5) (ev_looks (t := t) (ev_var rfl) hz) (ev_is (ev_ix (d := .int s.2.2) (ev_mu rfl) rfl ev_int (.inr (.inr ⟨0, rfl, rfl⟩)) rfl) (by rw [e2])) trivial)) rfl ⟨.inl rfl, rfl⟩
end
theorem all_mk {l : PySem.W.OpenLaw} {w : World} {K : PySem.W.Frag} {h : Heap} {mg : Str → Option Value} {fa f0 f1 f2 f3 f4 f5 f6 f7 f8 f9 f10 f11 f12 f13 f14 : Addr} (X : K.In h) (G : h.Ns mainGlobals mg) (hfa : mg "law" = some (.ref fa))
    {od0 an0 od1 an1 od2 an2 od3 an3 od4 an4 od5 an5 od6 an6 od7 an7 od8 an8 od9 an9 od10 an10 od11 an11 od12 an12 od13 an13 od14 an14 : Option Addr} {sl0 sl1 sl2 sl3 sl4 sl5 sl6 sl7 sl8 sl9 sl10 sl11 sl12 sl13 sl14 : Array (Option Value)} {oc0 kV0 dc0 pm0 cd0 ct0 oc1 kV1 dc1 pm1 cd1 ct1 oc2 kV2 dc2 pm2 cd2 ct2 oc3 kV3 dc3 pm3 cd3 ct3 oc4 kV4 dc4 pm4 cd4 ct4 oc5 kV5 dc5 pm5 cd5 ct5 oc6 kV6 dc6 pm6 cd6 ct6 oc7 kV7 dc7 pm7 cd7 ct7 oc8 kV8 dc8 pm8 cd8 ct8 oc9 kV9 dc9 pm9 cd9 ct9 oc10 kV10 dc10 pm10 cd10 ct10 oc11 kV11 dc11 pm11 cd11 ct11 oc12 kV12 dc12 pm12 cd12 ct12 oc13 kV13 dc13 pm13 cd13 ct13 oc14 kV14 dc14 pm14 cd14 ct14 : Value}
    (a0 : PySem.W.nsIn K mainGlobals "parts" = some (some (.ref f0))) (l0 : K.lookup f0 = some ⟨oc0, od0, .func (PySem.W.fnOf "parts" "parts" (defArgs s_parts) (defBody s_parts) (defScope s_parts) .none kV0 dc0 pm0 an0 cd0 ct0), sl0⟩) (c0 : PySem.W.codeIn K cd0 "parts" = true) (k0 : PySem.W.keepIn K (.ref f0) = true)
    (a1 : PySem.W.nsIn K mainGlobals "bottom_up" = some (some (.ref f1))) (l1 : K.lookup f1 = some ⟨oc1, od1, .func (PySem.W.fnOf "bottom_up" "bottom_up" (defArgs s_bottom_up) (defBody s_bottom_up) (defScope s_bottom_up) .none kV1 dc1 pm1 an1 cd1 ct1), sl1⟩) (c1 : PySem.W.codeIn K cd1 "bottom_up" = true) (k1 : PySem.W.keepIn K (.ref f1) = true)
    (a2 : PySem.W.nsIn K mainGlobals "repeat_factor" = some (some (.ref f2))) (l2 : K.lookup f2 = some ⟨oc2, od2, .func (PySem.W.fnOf "repeat_factor" "repeat_factor" (defArgs s_repeat_factor) (defBody s_repeat_factor) (defScope s_repeat_factor) .none kV2 dc2 pm2 an2 cd2 ct2), sl2⟩) (c2 : PySem.W.codeIn K cd2 "repeat_factor" = true) (k2 : PySem.W.keepIn K (.ref f2) = true)
    (a3 : PySem.W.nsIn K mainGlobals "weight" = some (some (.ref f3))) (l3 : K.lookup f3 = some ⟨oc3, od3, .func (PySem.W.fnOf "weight" "weight" (defArgs s_weight) (defBody s_weight) (defScope s_weight) .none kV3 dc3 pm3 an3 cd3 ct3), sl3⟩) (c3 : PySem.W.codeIn K cd3 "weight" = true) (k3 : PySem.W.keepIn K (.ref f3) = true)
    (a4 : PySem.W.nsIn K mainGlobals "inner_groups" = some (some (.ref f4))) (l4 : K.lookup f4 = some ⟨oc4, od4, .func (PySem.W.fnOf "inner_groups" "inner_groups" (defArgs s_inner_groups) (defBody s_inner_groups) (defScope s_inner_groups) .none kV4 dc4 pm4 an4 cd4 ct4), sl4⟩) (c4 : PySem.W.codeIn K cd4 "inner_groups" = true) (k4 : PySem.W.keepIn K (.ref f4) = true)
    (a5 : PySem.W.nsIn K mainGlobals "look_total" = some (some (.ref f5))) (l5 : K.lookup f5 = some ⟨oc5, od5, .func (PySem.W.fnOf "look_total" "look_total" (defArgs s_look_total) (defBody s_look_total) (defScope s_look_total) .none kV5 dc5 pm5 an5 cd5 ct5), sl5⟩) (c5 : PySem.W.codeIn K cd5 "look_total" = true) (k5 : PySem.W.keepIn K (.ref f5) = true)
    (a6 : PySem.W.nsIn K mainGlobals "_law_row" = some (some (.ref f6))) (l6 : K.lookup f6 = some ⟨oc6, od6, .func (PySem.W.fnOf "_law_row" "_law_row" (defArgs s__law_row) (defBody s__law_row) (defScope s__law_row) .none kV6 dc6 pm6 an6 cd6 ct6), sl6⟩) (c6 : PySem.W.codeIn K cd6 "_law_row" = true) (k6 : PySem.W.keepIn K (.ref f6) = true)
    (a7 : PySem.W.nsIn K mainGlobals "_law_digit" = some (some (.ref f7))) (l7 : K.lookup f7 = some ⟨oc7, od7, .func (PySem.W.fnOf "_law_digit" "_law_digit" (defArgs s__law_digit) (defBody s__law_digit) (defScope s__law_digit) .none kV7 dc7 pm7 an7 cd7 ct7), sl7⟩) (c7 : PySem.W.codeIn K cd7 "_law_digit" = true) (k7 : PySem.W.keepIn K (.ref f7) = true)
    (a8 : PySem.W.nsIn K mainGlobals "_law_codes" = some (some (.ref f8))) (l8 : K.lookup f8 = some ⟨oc8, od8, .func (PySem.W.fnOf "_law_codes" "_law_codes" (defArgs s__law_codes) (defBody s__law_codes) (defScope s__law_codes) .none kV8 dc8 pm8 an8 cd8 ct8), sl8⟩) (c8 : PySem.W.codeIn K cd8 "_law_codes" = true) (k8 : PySem.W.keepIn K (.ref f8) = true)
    (a9 : PySem.W.nsIn K mainGlobals "_law_leaf" = some (some (.ref f9))) (l9 : K.lookup f9 = some ⟨oc9, od9, .func (PySem.W.fnOf "_law_leaf" "_law_leaf" (defArgs s__law_leaf) (defBody s__law_leaf) (defScope s__law_leaf) .none kV9 dc9 pm9 an9 cd9 ct9), sl9⟩) (c9 : PySem.W.codeIn K cd9 "_law_leaf" = true) (k9 : PySem.W.keepIn K (.ref f9) = true)
    (a10 : PySem.W.nsIn K mainGlobals "_law_repeat" = some (some (.ref f10))) (l10 : K.lookup f10 = some ⟨oc10, od10, .func (PySem.W.fnOf "_law_repeat" "_law_repeat" (defArgs s__law_repeat) (defBody s__law_repeat) (defScope s__law_repeat) .none kV10 dc10 pm10 an10 cd10 ct10), sl10⟩) (c10 : PySem.W.codeIn K cd10 "_law_repeat" = true) (k10 : PySem.W.keepIn K (.ref f10) = true)
    (a11 : PySem.W.nsIn K mainGlobals "_law_tree" = some (some (.ref f11))) (l11 : K.lookup f11 = some ⟨oc11, od11, .func (PySem.W.fnOf "_law_tree" "_law_tree" (defArgs s__law_tree) (defBody s__law_tree) (defScope s__law_tree) .none kV11 dc11 pm11 an11 cd11 ct11), sl11⟩) (c11 : PySem.W.codeIn K cd11 "_law_tree" = true) (k11 : PySem.W.keepIn K (.ref f11) = true)
    (a12 : PySem.W.nsIn K mainGlobals "_law_same" = some (some (.ref f12))) (l12 : K.lookup f12 = some ⟨oc12, od12, .func (PySem.W.fnOf "_law_same" "_law_same" (defArgs s__law_same) (defBody s__law_same) (defScope s__law_same) .none kV12 dc12 pm12 an12 cd12 ct12), sl12⟩) (c12 : PySem.W.codeIn K cd12 "_law_same" = true) (k12 : PySem.W.keepIn K (.ref f12) = true)
    (a13 : PySem.W.nsIn K mainGlobals "_law_weight" = some (some (.ref f13))) (l13 : K.lookup f13 = some ⟨oc13, od13, .func (PySem.W.fnOf "_law_weight" "_law_weight" (defArgs s__law_weight) (defBody s__law_weight) (defScope s__law_weight) .none kV13 dc13 pm13 an13 cd13 ct13), sl13⟩) (c13 : PySem.W.codeIn K cd13 "_law_weight" = true) (k13 : PySem.W.keepIn K (.ref f13) = true)
    (a14 : PySem.W.nsIn K mainGlobals "law" = some (some (.ref f14))) (l14 : K.lookup f14 = some ⟨oc14, od14, .func (PySem.W.fnOf "law" "law" (defArgs s_law) (defBody s_law) (defScope s_law) .none kV14 dc14 pm14 an14 cd14 ct14), sl14⟩) (c14 : PySem.W.codeIn K cd14 "law" = true) (k14 : PySem.W.keepIn K (.ref f14) = true)
    (z_bool : PySem.W.nsIn K mainGlobals "bool" = some none)
    (z_int : PySem.W.nsIn K mainGlobals "int" = some none)
    (z_isinstance : PySem.W.nsIn K mainGlobals "isinstance" = some none)
    (z_len : PySem.W.nsIn K mainGlobals "len" = some none)
    (z_list : PySem.W.nsIn K mainGlobals "list" = some none)
    (z_max : PySem.W.nsIn K mainGlobals "max" = some none)
    (z_range : PySem.W.nsIn K mainGlobals "range" = some none)
    (z_sorted : PySem.W.nsIn K mainGlobals "sorted" = some none)
    (z_str : PySem.W.nsIn K mainGlobals "str" = some none)
    (z_tuple : PySem.W.nsIn K mainGlobals "tuple" = some none)
    : ∃ fd : FuncData, (∀ (s : Shared) (v : Value), BindsTo s fd ⟨[v], []⟩ [("script", v)]) ∧ ∀ base : Heap, K.In base → base.Ns mainGlobals mg → FnOk l.prog w K mg base CX0 16 fa fd ["script"] (spA K 1 G_law) := by
  have e := hfa.symm.trans (PySem.W.mg_of X G a14)
  cases e
  have F0 := fun_mk (st := s_parts) l0 c0 k0
  have b0 := F0.binds (ps := ["tree"]) fun _ _ _ _ _ _ us hl => match us, hl with | [_], _ => rfl
  have F1 := fun_mk (st := s_bottom_up) l1 c1 k1
  have b1 := F1.binds (ps := ["tree"]) fun _ _ _ _ _ _ us hl => match us, hl with | [_], _ => rfl
  have F2 := fun_mk (st := s_repeat_factor) l2 c2 k2
  have b2 := F2.binds (ps := ["least", "most"]) fun _ _ _ _ _ _ us hl => match us, hl with | [_, _], _ => rfl
  have F3 := fun_mk (st := s_weight) l3 c3 k3
  have b3 := F3.binds (ps := ["tree"]) fun _ _ _ _ _ _ us hl => match us, hl with | [_], _ => rfl
  have F4 := fun_mk (st := s_inner_groups) l4 c4 k4
  have b4 := F4.binds (ps := ["tree"]) fun _ _ _ _ _ _ us hl => match us, hl with | [_], _ => rfl
  have F5 := fun_mk (st := s_look_total) l5 c5 k5
  have b5 := F5.binds (ps := ["tree"]) fun _ _ _ _ _ _ us hl => match us, hl with | [_], _ => rfl
  have F6 := fun_mk (st := s__law_row) l6 c6 k6
  have b6 := F6.binds (ps := ["script", "k"]) fun _ _ _ _ _ _ us hl => match us, hl with | [_, _], _ => rfl
  have F7 := fun_mk (st := s__law_digit) l7 c7 k7
  have b7 := F7.binds (ps := ["script", "state", "many"]) fun _ _ _ _ _ _ us hl => match us, hl with | [_, _, _], _ => rfl
  have F8 := fun_mk (st := s__law_codes) l8 c8 k8
  have b8 := F8.binds (ps := ["script", "state"]) fun _ _ _ _ _ _ us hl => match us, hl with | [_, _], _ => rfl
  have F9 := fun_mk (st := s__law_leaf) l9 c9 k9
  have b9 := F9.binds (ps := ["script", "state", "kind"]) fun _ _ _ _ _ _ us hl => match us, hl with | [_, _, _], _ => rfl
  have F10 := fun_mk (st := s__law_repeat) l10 c10 k10
  have b10 := F10.binds (ps := ["script", "state", "depth"]) fun _ _ _ _ _ _ us hl => match us, hl with | [_, _, _], _ => rfl
  have F11 := fun_mk (st := s__law_tree) l11 c11 k11
  have b11 := F11.binds (ps := ["script", "state", "depth"]) fun _ _ _ _ _ _ us hl => match us, hl with | [_, _, _], _ => rfl
  have F12 := fun_mk (st := s__law_same) l12 c12 k12
  have b12 := F12.binds (ps := ["actual", "expected"]) fun _ _ _ _ _ _ us hl => match us, hl with | [_, _], _ => rfl
  have F13 := fun_mk (st := s__law_weight) l13 c13 k13
  have b13 := F13.binds (ps := ["tree"]) fun _ _ _ _ _ _ us hl => match us, hl with | [_], _ => rfl
  have F14 := fun_mk (st := s_law) l14 c14 k14
  have b14 := F14.binds (ps := ["script"]) fun _ _ _ _ _ _ us hl => match us, hl with | [_], _ => rfl
  have T : Txt K mg (fun i => if i = 1 then f0 else if i = 2 then f1 else if i = 4 then f2 else if i = 5 then f3 else if i = 6 then f4 else if i = 7 then f5 else if i = 9 then f6 else if i = 10 then f7 else if i = 11 then f8 else if i = 12 then f9 else if i = 13 then f10 else if i = 14 then f11 else if i = 15 then f12 else if i = 16 then f13 else if i = 17 then fa else 0) (fun i => if i = 1 then PySem.W.fnOf "parts" "parts" (defArgs s_parts) (defBody s_parts) (defScope s_parts) .none kV0 dc0 pm0 an0 cd0 ct0 else if i = 2 then PySem.W.fnOf "bottom_up" "bottom_up" (defArgs s_bottom_up) (defBody s_bottom_up) (defScope s_bottom_up) .none kV1 dc1 pm1 an1 cd1 ct1 else if i = 4 then PySem.W.fnOf "repeat_factor" "repeat_factor" (defArgs s_repeat_factor) (defBody s_repeat_factor) (defScope s_repeat_factor) .none kV2 dc2 pm2 an2 cd2 ct2 else if i = 5 then PySem.W.fnOf "weight" "weight" (defArgs s_weight) (defBody s_weight) (defScope s_weight) .none kV3 dc3 pm3 an3 cd3 ct3 else if i = 6 then PySem.W.fnOf "inner_groups" "inner_groups" (defArgs s_inner_groups) (defBody s_inner_groups) (defScope s_inner_groups) .none kV4 dc4 pm4 an4 cd4 ct4 else if i = 7 then PySem.W.fnOf "look_total" "look_total" (defArgs s_look_total) (defBody s_look_total) (defScope s_look_total) .none kV5 dc5 pm5 an5 cd5 ct5 else if i = 9 then PySem.W.fnOf "_law_row" "_law_row" (defArgs s__law_row) (defBody s__law_row) (defScope s__law_row) .none kV6 dc6 pm6 an6 cd6 ct6 else if i = 10 then PySem.W.fnOf "_law_digit" "_law_digit" (defArgs s__law_digit) (defBody s__law_digit) (defScope s__law_digit) .none kV7 dc7 pm7 an7 cd7 ct7 else if i = 11 then PySem.W.fnOf "_law_codes" "_law_codes" (defArgs s__law_codes) (defBody s__law_codes) (defScope s__law_codes) .none kV8 dc8 pm8 an8 cd8 ct8 else if i = 12 then PySem.W.fnOf "_law_leaf" "_law_leaf" (defArgs s__law_leaf) (defBody s__law_leaf) (defScope s__law_leaf) .none kV9 dc9 pm9 an9 cd9 ct9 else if i = 13 then PySem.W.fnOf "_law_repeat" "_law_repeat" (defArgs s__law_repeat) (defBody s__law_repeat) (defScope s__law_repeat) .none kV10 dc10 pm10 an10 cd10 ct10 else if i = 14 then PySem.W.fnOf "_law_tree" "_law_tree" (defArgs s__law_tree) (defBody s__law_tree) (defScope s__law_tree) .none kV11 dc11 pm11 an11 cd11 ct11 else if i = 15 then PySem.W.fnOf "_law_same" "_law_same" (defArgs s__law_same) (defBody s__law_same) (defScope s__law_same) .none kV12 dc12 pm12 an12 cd12 ct12 else if i = 16 then PySem.W.fnOf "_law_weight" "_law_weight" (defArgs s__law_weight) (defBody s__law_weight) (defScope s__law_weight) .none kV13 dc13 pm13 an13 cd13 ct13 else if i = 17 then PySem.W.fnOf "law" "law" (defArgs s_law) (defBody s_law) (defScope s_law) .none kV14 dc14 pm14 an14 cd14 ct14 else PySem.W.fnOf "law" "law" (defArgs s_law) (defBody s_law) (defScope s_law) .none kV14 dc14 pm14 an14 cd14 ct14) (fun i =>  V.non) := ⟨F0, b0, PySem.W.mg_of X G a0, F1, b1, PySem.W.mg_of X G a1, F2, b2, PySem.W.mg_of X G a2, F3, b3, PySem.W.mg_of X G a3, F4, b4, PySem.W.mg_of X G a4, F5, b5, PySem.W.mg_of X G a5, F6, b6, PySem.W.mg_of X G a6, F7, b7, PySem.W.mg_of X G a7, F8, b8, PySem.W.mg_of X G a8, F9, b9, PySem.W.mg_of X G a9, F10, b10, PySem.W.mg_of X G a10, F11, b11, PySem.W.mg_of X G a11, F12, b12, PySem.W.mg_of X G a12, F13, b13, PySem.W.mg_of X G a13, F14, b14, PySem.W.mg_of X G a14, PySem.W.mg_none_of X G z_bool, PySem.W.mg_none_of X G z_int, PySem.W.mg_none_of X G z_isinstance, PySem.W.mg_none_of X G z_len, PySem.W.mg_none_of X G z_list, PySem.W.mg_none_of X G z_max, PySem.W.mg_none_of X G z_range, PySem.W.mg_none_of X G z_sorted, PySem.W.mg_none_of X G z_str, PySem.W.mg_none_of X G z_tuple⟩
  exact ⟨PySem.W.fnOf "law" "law" (defArgs s_law) (defBody s_law) (defScope s_law) .none kV14 dc14 pm14 an14 cd14 ct14, fun s v => .of_eq rfl, fun base _ _ => ok_law (P := l.prog) (w := w) (base := base) T⟩
end Lw
open PySem PySem.W PyProof.Rows
set_option maxRecDepth 100000 in
set_option maxHeartbeats 0 in
theorem PySem.Challenge.cw_firstway_k07_measures_of_trees_holds : PySem.Challenge.rw_firstway_k07_measures_of_trees.Holds := by
  w_on; o_law; k_head; (case hw => w_witness2)
  k_fill
  refine L2.walk_of (l := PySem.Challenge.rw_firstway_k07_measures_of_trees) (n := 63) (k := 16) (x := "script") (CX := fun _ => L2.CX0) (sp := fun w => DL.spA _ 1 Lw.G_law) rfl (by decide) rfl ⟨rfl, by decide, by decide⟩ (fun w h Y => PySem.W.kIn_of Y) ?F (fun _ H a ns hl _ hS => DL.law_script hS (Lw.G_law_holds ns hl)) (fun _ _ _ _ _ h => h)
  case F =>
    intro w mg fa h KX G hmg
    refine' Lw.all_mk KX G hmg ?a0 ?l0 ?c0 ?k0 ?a1 ?l1 ?c1 ?k1 ?a2 ?l2 ?c2 ?k2 ?a3 ?l3 ?c3 ?k3 ?a4 ?l4 ?c4 ?k4 ?a5 ?l5 ?c5 ?k5 ?a6 ?l6 ?c6 ?k6 ?a7 ?l7 ?c7 ?k7 ?a8 ?l8 ?c8 ?k8 ?a9 ?l9 ?c9 ?k9 ?a10 ?l10 ?c10 ?k10 ?a11 ?l11 ?c11 ?k11 ?a12 ?l12 ?c12 ?k12 ?a13 ?l13 ?c13 ?k13 ?a14 ?l14 ?c14 ?k14 ?z_bool ?z_int ?z_isinstance ?z_len ?z_list ?z_max ?z_range ?z_sorted ?z_str ?z_tuple
    (case a0 => k_is)
    (case l0 => k_is)
    (case c0 => k_is)
    (case k0 => k_is)
    (case a1 => k_is)
    (case l1 => k_is)
    (case c1 => k_is)
    (case k1 => k_is)
    (case a2 => k_is)
    (case l2 => k_is)
    (case c2 => k_is)
    (case k2 => k_is)
    (case a3 => k_is)
    (case l3 => k_is)
    (case c3 => k_is)
    (case k3 => k_is)
    (case a4 => k_is)
    (case l4 => k_is)
    (case c4 => k_is)
    (case k4 => k_is)
    (case a5 => k_is)
    (case l5 => k_is)
    (case c5 => k_is)
    (case k5 => k_is)
    (case a6 => k_is)
    (case l6 => k_is)
    (case c6 => k_is)
    (case k6 => k_is)
    (case a7 => k_is)
    (case l7 => k_is)
    (case c7 => k_is)
    (case k7 => k_is)
    (case a8 => k_is)
    (case l8 => k_is)
    (case c8 => k_is)
    (case k8 => k_is)
    (case a9 => k_is)
    (case l9 => k_is)
    (case c9 => k_is)
    (case k9 => k_is)
    (case a10 => k_is)
    (case l10 => k_is)
    (case c10 => k_is)
    (case k10 => k_is)
    (case a11 => k_is)
    (case l11 => k_is)
    (case c11 => k_is)
    (case k11 => k_is)
    (case a12 => k_is)
    (case l12 => k_is)
    (case c12 => k_is)
    (case k12 => k_is)
    (case a13 => k_is)
    (case l13 => k_is)
    (case c13 => k_is)
    (case k13 => k_is)
    (case a14 => k_is)
    (case l14 => k_is)
    (case c14 => k_is)
    (case k14 => k_is)
    (case z_bool => k_is)
    (case z_int => k_is)
    (case z_isinstance => k_is)
    (case z_len => k_is)
    (case z_list => k_is)
    (case z_max => k_is)
    (case z_range => k_is)
    (case z_sorted => k_is)
    (case z_str => k_is)
    (case z_tuple => k_is)
