import PyProof.Rows.All
import Wide.All
import OpenK.AllK
import Wide.FinOn
import HandS.ForMost
import HandS.IsInst
import HandS.Star
import HandS.SortRule
import HandS.Wide
import HandS.SortInts
import HandS.Conv
import PyProof.StrLaws
import HandS.TupMul
import HandS.Deep
import HandS.TupAny
import HandS.Text
import HandS.Dict
import HandS.Flow
import HandS.More
import HandS.ListItems
import HandS.Small
import HandS.Rev
import HandS.Defaults
import PySem.Challenge.RW_firstway_k15_mirrored_ways

section
set_option Elab.async false
set_option linter.all false
set_option maxRecDepth 100000
set_option maxHeartbeats 4000000
namespace DL
open PySem PySem.Spec PyProof.Rows L2

abbrev D := PyData
abbrev Sto := List (List D)

/-! ### data stays when the heap grows -/
mutual
theorem dp_mono {K : PySem.W.Frag} {H H' : Hp} (e : Same H H') : ∀ (d : D) (v : V), Dp K H v d → Dp K H' v d
  | .none, _, h => by cases h; exact .non
  | .bool b, _, h => by cases h; exact .bl b
  | .int i, _, h => by cases h; exact .int i
  | .str x, _, h => by cases h; exact .str x
  | .list ds, _, h => by
    cases h with
    | lst h1 h2 => exact .lst (e.seq h1) (dpa_mono e ds _ h2)
  | .tuple ds, _, h => by
    cases h with
    | tup h1 h2 =>
      refine .tup ?_ (dpa_mono e ds _ h2)
      rcases h1 with (h1 | ⟨o, h1⟩) | h1
      · exact .inl (.inl (e _ _ h1))
      · exact .inl (.inr ⟨o, e _ _ h1⟩)
      · exact .inr h1
  | .dict kvs, _, h => by cases h
theorem dpa_mono {K : PySem.W.Frag} {H H' : Hp} (e : Same H H') : ∀ (ds : List D) (vs : List V), DpAll K H vs ds → DpAll K H' vs ds
  | [], _, h => by cases h; exact .nil
  | d :: ds, _, h => by
    cases h with
    | cons h1 h2 => exact .cons (dp_mono e d _ h1) (dpa_mono e ds _ h2)
end
theorem sqt_mono {K : PySem.W.Frag} {H H' : Hp} (e : Same H H') {a : Addr} {xs : List V} (h1 : SqT K H a xs) : SqT K H' a xs := by
  rcases h1 with (h1 | ⟨o, h1⟩) | h1
  · exact .inl (.inl (e _ _ h1))
  · exact .inl (.inr ⟨o, e _ _ h1⟩)
  · exact .inr h1
theorem dpa_len {K : PySem.W.Frag} {H : Hp} : ∀ {vs : List V} {ds : List D}, DpAll K H vs ds → vs.length = ds.length
  | _, _, .nil => rfl
  | _, _, .cons _ h => by simp [dpa_len h]
theorem dpa_get {K : PySem.W.Frag} {H : Hp} : ∀ {vs : List V} {ds : List D} {i : Nat} {d : D}, DpAll K H vs ds → ds[i]? = some d → ∃ v, vs[i]? = some v ∧ Dp K H v d
  | _, _, 0, d, .cons h _, e => ⟨_, rfl, by
      have := Option.some.inj e
      rw [← this]
      exact h⟩
  | _, _, i + 1, d, .cons _ h, e => dpa_get (i := i) h e
theorem dpa_get' {K : PySem.W.Frag} {H : Hp} : ∀ {vs : List V} {ds : List D} {i : Nat} {v : V}, DpAll K H vs ds → vs[i]? = some v → ∃ d, ds[i]? = some d ∧ Dp K H v d
  | _, _, 0, d, .cons h _, e => ⟨_, rfl, by
      have := Option.some.inj e
      rw [← this]
      exact h⟩
  | _, _, i + 1, d, .cons _ h, e => dpa_get' (i := i) h e
theorem dpa_app {K : PySem.W.Frag} {H : Hp} : ∀ {vs ws : List V} {ds es : List D}, DpAll K H vs ds → DpAll K H ws es → DpAll K H (vs ++ ws) (ds ++ es)
  | _, _, _, _, .nil, h => h
  | _, _, _, _, .cons h1 h2, h => .cons h1 (dpa_app h2 h)
theorem dpa_set {K : PySem.W.Frag} {H : Hp} : ∀ {vs : List V} {ds : List D} (i : Nat) {v : V} {d : D}, DpAll K H vs ds → Dp K H v d → DpAll K H (vs.set i v) (ds.set i d)
  | _, _, _, _, _, .nil, _ => .nil
  | _, _, 0, _, _, .cons _ h2, h => .cons h h2
  | _, _, i + 1, _, _, .cons h1 h2, h => .cons h1 (dpa_set i h2 h)
theorem dpa_take {K : PySem.W.Frag} {H : Hp} : ∀ {vs : List V} {ds : List D} (n : Nat), DpAll K H vs ds → DpAll K H (vs.take n) (ds.take n)
  | _, _, 0, _ => by simp only [List.take_zero]; exact .nil
  | _, _, _ + 1, .nil => .nil
  | _, _, n + 1, .cons h1 h2 => .cons h1 (dpa_take n h2)
theorem dpa_drop {K : PySem.W.Frag} {H : Hp} : ∀ {vs : List V} {ds : List D} (n : Nat), DpAll K H vs ds → DpAll K H (vs.drop n) (ds.drop n)
  | _, _, 0, h => h
  | _, _, _ + 1, .nil => .nil
  | _, _, n + 1, .cons h1 h2 => dpa_drop n h2

/-! ### one step: F what is known for ever, H what stands; L what may be written -/
structure Stp (L : List Addr) (F H F' H' : Hp) : Prop where
  fx : Same F F'
  keep : ∀ a o, H a = some o → a ∉ L → H' a = some o
  live : ∀ a, H a ≠ none → H' a ≠ none
  nof : ∀ a, H a ≠ none → F a = none → F' a = none
theorem Stp.refl (L : List Addr) (F H : Hp) : Stp L F H F H := ⟨Same.refl _, fun _ _ h _ => h, fun _ h => h, fun _ _ h => h⟩
theorem Stp.trans {L : List Addr} {F H F1 H1 F2 H2 : Hp} (a : Stp L F H F1 H1) (b : Stp L F1 H1 F2 H2) : Stp L F H F2 H2 :=
  ⟨a.fx.trans b.fx, fun x o h n => b.keep x o (a.keep x o h n) n, fun x h => b.live x (a.live x h), fun x h n => b.nof x (a.live x h) (a.nof x h n)⟩
/-- the written addresses: those of L1, or new ones -/
theorem Stp.trans' {L L1 : List Addr} {F H F1 H1 F2 H2 : Hp} (a : Stp L F H F1 H1) (b : Stp L1 F1 H1 F2 H2) (hl : ∀ x ∈ L1, x ∈ L ∨ H x = none) : Stp L F H F2 H2 :=
  ⟨a.fx.trans b.fx, fun x o h n => b.keep x o (a.keep x o h n) (fun m => by
    rcases hl x m with q | q
    · exact n q
    · rw [q] at h; cases h), fun x h => b.live x (a.live x h), fun x h n => b.nof x (a.live x h) (a.nof x h n)⟩
theorem Stp.fresh {L : List Addr} {F H F' H' : Hp} (a : Stp L F H F' H') {x : Addr} (h : H' x = none) : H x = none := by
  cases q : H x with
  | none => rfl
  | some o => exact absurd h (a.live x (by rw [q]; exact nofun))

structure SOk (K : PySem.W.Frag) (F H : Hp) (L : List Addr) (S : Sto) : Prop where
  sub : Same F H
  len : L.length = S.length
  nd : L.Nodup
  st : ∀ (n : Nat) (a : Addr), L[n]? = some a → F a = none ∧ ∃ vs ds, S[n]? = some ds ∧ H a = some (.lst vs) ∧ DpAll K F vs ds

inductive En where
  | un
  | dt (d : D)
  | mu (n : Nat)
abbrev Rho := List En
def EnOk (K : PySem.W.Frag) (F : Hp) (L : List Addr) : En → Option V → Prop
  | .un, _ => True
  | .dt d, o => ∃ v, o = some v ∧ Dp K F v d
  | .mu n, o => ∃ a, o = some (.ref a) ∧ L[n]? = some a
def EOk (K : PySem.W.Frag) (F : Hp) (L : List Addr) (σ : L2.St) (ρ : Rho) : Prop := ∀ (i : Nat) (e : En), ρ[i]? = some e → ∃ o, σ[i]? = some o ∧ EnOk K F L e o
theorem EnOk.mono {K : PySem.W.Frag} {F F' : Hp} {L : List Addr} (h : Same F F') {R : List Addr} : ∀ {e : En} {o : Option V}, EnOk K F L e o → EnOk K F' (L ++ R) e o
  | .un, _, _ => trivial
  | .dt d, _, ⟨v, e, q⟩ => ⟨v, e, dp_mono h d v q⟩
  | .mu n, _, ⟨a, e, q⟩ => ⟨a, e, by
      rw [List.getElem?_append_left (List.getElem?_eq_some_iff.mp q).1]
      exact q⟩
theorem EOk.mono {K : PySem.W.Frag} {F F' : Hp} {L R : List Addr} (h : Same F F') {σ : L2.St} {ρ : Rho} (E : EOk K F L σ ρ) : EOk K F' (L ++ R) σ ρ := fun i e q =>
  let ⟨o, a, b⟩ := E i e q
  ⟨o, a, b.mono h⟩
theorem EOk.mono0 {K : PySem.W.Frag} {F F' : Hp} {L : List Addr} (h : Same F F') {σ : L2.St} {ρ : Rho} (E : EOk K F L σ ρ) : EOk K F' L σ ρ := by
  have := EOk.mono (R := []) h E
  rw [List.append_nil] at this
  exact this
theorem EOk.set {K : PySem.W.Frag} {F : Hp} {L : List Addr} {σ : L2.St} {ρ : Rho} (E : EOk K F L σ ρ) (i : Nat) {e : En} {o : Option V} (h : EnOk K F L e o) : EOk K F L (σ.set i o) (ρ.set i e) := fun j u q => by
  by_cases hij : i = j
  · subst hij
    have hl : i < ρ.length := by
      have := (List.getElem?_eq_some_iff.mp q).1
      rw [List.length_set] at this
      exact this
    obtain ⟨o', a, _⟩ := E i _ (List.getElem?_eq_getElem hl)
    have hs : i < σ.length := (List.getElem?_eq_some_iff.mp a).1
    rw [List.getElem?_set_self hl] at q
    have := Option.some.inj q
    subst this
    exact ⟨o, List.getElem?_set_self hs, h⟩
  · rw [List.getElem?_set_ne hij] at q
    rw [List.getElem?_set_ne hij]
    exact E j u q

/-! ### results -/
inductive Rs where
  | v (d : D)
  | nl (ds : List D)
  | mu (n : Nat)
def RsOk (K : PySem.W.Frag) (L : List Addr) (F' H H' : Hp) (v : V) : Rs → Prop
  | .v d => Dp K F' v d
  | .nl ds => ∃ a vs, v = .ref a ∧ H a = none ∧ F' a = none ∧ H' a = some (.lst vs) ∧ DpAll K F' vs ds
  | .mu n => ∃ a, v = .ref a ∧ L[n]? = some a
/-- r as it is, or a new list taken as data -/
def RsLe (r2 r : Rs) : Prop := r2 = r ∨ ∃ ds, r2 = .nl ds ∧ r = .v (.list ds)

/-- a new list becomes data -/
theorem freeze {K : PySem.W.Frag} {L : List Addr} {S0 S : Sto} {F0 H0 F H : Hp} {a : Addr} {vs : List V} {ds : List D} (st : Stp L F0 H0 F H) (s0 : SOk K F0 H0 L S0) (so : SOk K F H L S) (h0 : H0 a = none) (hf : F a = none) (hh : H a = some (.lst vs)) (hd : DpAll K F vs ds) :
    Stp L F0 H0 (upd F a (.lst vs)) H ∧ SOk K (upd F a (.lst vs)) H L S ∧ Dp K (upd F a (.lst vs)) (.ref a) (.list ds) := by
  have sm : Same F (upd F a (.lst vs)) := fun b o e => by
    rw [upd_ne (ne_of_none e hf)]
    exact e
  refine ⟨⟨st.fx.trans sm, st.keep, st.live, fun b hb n => ?_⟩, ⟨fun b o e => ?_, so.len, so.nd, fun n b e => ?_⟩, .lst (.inl (.inl upd_same)) (dpa_mono sm _ _ hd)⟩
  · have : b ≠ a := fun q => hb (by rw [q]; exact h0)
    rw [upd_ne this]
    exact st.nof b hb n
  · by_cases q : b = a
    · subst q
      rw [upd_same] at e
      cases e
      exact hh
    · rw [upd_ne q] at e
      exact so.sub _ _ e
  · obtain ⟨f0, vs', ds', e1, e2, e3⟩ := so.st n b e
    obtain ⟨_, vs0, _, _, e0, _⟩ := s0.st n b e
    have : b ≠ a := fun q => by
      rw [q, h0] at e0
      cases e0
    rw [upd_ne this]
    exact ⟨f0, vs', ds', e1, e2, dpa_mono sm _ _ e3⟩

/-! ### what evaluates to what -/
def Ev (K : PySem.W.Frag) (ρ : Rho) (S : Sto) (te : TE) (r : Rs) (S' : Sto) : Prop := ∀ σ F H L, EOk K F L σ ρ → SOk K F H L S → ∀ Q : VK, (∀ v F' H', Stp L F H F' H' → SOk K F' H' L S' → RsOk K L F' H H' v r → Q v H') → te σ H Q
def EvT (K : PySem.W.Frag) (ρ : Rho) (S : Sto) (tt : TT) (b : Bool) (S' : Sto) : Prop := ∀ σ F H L, EOk K F L σ ρ → SOk K F H L S → ∀ Q : Bool → Hp → Prop, (∀ F' H', Stp L F H F' H' → SOk K F' H' L S' → Q b H') → tt σ H Q
def EvA (K : PySem.W.Frag) (ρ : Rho) (S : Sto) (ta : TA) (es : Rho) (S' : Sto) : Prop := ∀ σ F H L, EOk K F L σ ρ → SOk K F H L S → ∀ Q : List V → Hp → Prop, (∀ vs F' H', Stp L F H F' H' → SOk K F' H' L S' → vs.length = es.length → EOk K F' L (vs.map some) es → Q vs H') → ta σ H Q
section
variable {K : PySem.W.Frag} {ρ : Rho} {S S1 S2 S3 : Sto} {ta tb tc te : TE} {t u : TT} {d e f : D} {r : Rs}
theorem ev_dt (h : Ev K ρ S te r S1) (hr : RsLe r (.v d)) : Ev K ρ S te (.v d) S1 := by
  rcases hr with rfl | ⟨ds, rfl, e⟩
  · exact h
  · cases e
    intro σ F H L e s Q q
    refine h σ F H L e s Q fun v F' H' st s' rr => ?_
    obtain ⟨a, vs, rfl, h0, hf, hh, hd⟩ := rr
    obtain ⟨x, y, z⟩ := freeze st s s' h0 hf hh hd
    exact q _ _ _ x y z
theorem ev_fr {ds : List D} (h : Ev K ρ S te (.nl ds) S1) : Ev K ρ S te (.v (.list ds)) S1 := ev_dt h (.inr ⟨ds, rfl, rfl⟩)
theorem ev_is {r' : Rs} (h : Ev K ρ S te r S1) (e : r = r') : Ev K ρ S te r' S1 := e ▸ h
theorem ev_var {i : Nat} (h : ρ[i]? = some (.dt d)) : Ev K ρ S (tVar i) (.v d) S := fun σ F H L e s Q q => by
  obtain ⟨o, h1, v, h2, h3⟩ := e i _ h
  subst h2
  exact ⟨v, h1, q v F H (.refl _ _ _) s h3⟩
theorem ev_mu {i n : Nat} (h : ρ[i]? = some (.mu n)) : Ev K ρ S (tVar i) (.mu n) S := fun σ F H L e s Q q => by
  obtain ⟨o, h1, a, h2, h3⟩ := e i _ h
  subst h2
  exact ⟨_, h1, q _ F H (.refl _ _ _) s ⟨a, rfl, h3⟩⟩
theorem ev_int {i : Int} : Ev K ρ S (tC (.int i)) (.v (.int i)) S := fun σ F H L e s Q q => q _ F H (.refl _ _ _) s (.int i)
theorem ev_bl {b : Bool} : Ev K ρ S (tC (.bl b)) (.v (.bool b)) S := fun σ F H L e s Q q => q _ F H (.refl _ _ _) s (.bl b)
theorem ev_non : Ev K ρ S (tC .non) (.v .none) S := fun σ F H L e s Q q => q _ F H (.refl _ _ _) s .non
theorem ev_str {x : Str} : Ev K ρ S (tC (.str x)) (.v (.str x)) S := fun σ F H L e s Q q => q _ F H (.refl _ _ _) s (.str x)
/-- a constant of the module that is data of the written part -/
def KDat (K : PySem.W.Frag) (v : V) (d : D) : Prop := Dp K (fun _ => none) v d
theorem KDat.dp {v : V} (h : KDat K v d) (F : Hp) : Dp K F v d := dp_mono (fun _ _ e => by cases e) _ _ h
theorem ev_k {v : V} (h : KDat K v d) : Ev K ρ S (tC v) (.v d) S := fun σ F H L e s Q q => q _ F H (.refl _ _ _) s (h.dp F)

/-! operators by values -/
def Op1 (K : PySem.W.Frag) (r : V → Hp → VK → Prop) (d : D) (e : D) : Prop := ∀ F H x, Same F H → Dp K F x d → ∀ Q : VK, (∀ v, Dp K F v e → Q v H) → r x H Q
def Op2 (K : PySem.W.Frag) (r : R2) (d1 d2 : D) (e : D) : Prop := ∀ F H x y, Same F H → Dp K F x d1 → Dp K F y d2 → ∀ Q : VK, (∀ v, Dp K F v e → Q v H) → r x y H Q
theorem ev_op {rr : R2} (ha : Ev K ρ S ta (.v d) S1) (hb : Ev K ρ S1 tb (.v e) S2) (hr : Op2 K rr d e f) : Ev K ρ S (tOp rr ta tb) (.v f) S2 := fun σ F H L E s Q q =>
  ha σ F H L E s _ fun x F1 H1 st1 s1 r1 => hb σ F1 H1 L (E.mono0 st1.fx) s1 _ fun y F2 H2 st2 s2 r2 =>
    hr F2 H2 x y s2.sub (dp_mono st2.fx _ _ r1) r2 Q fun v hv => q v F2 H2 (st1.trans st2) s2 hv
theorem ev_un {rr : V → Hp → VK → Prop} (ha : Ev K ρ S ta (.v d) S1) (hr : Op1 K rr d e) : Ev K ρ S (tUn rr ta) (.v e) S1 := fun σ F H L E s Q q =>
  ha σ F H L E s _ fun x F1 H1 st1 s1 r1 => hr F1 H1 x s1.sub r1 Q fun v hv => q v F1 H1 st1 s1 hv
theorem op2_I0 {g : Int → Int → V} {i j : Int} (h : ∀ F, Dp K F (g i j) e) : Op2 K (rI0 g) (.int i) (.int j) e := fun F H x y _ hx hy Q q => by
  cases hx; cases hy
  exact ⟨i, j, rfl, rfl, q _ (h F)⟩
theorem op2_I {C : Int → Int → Prop} {g : Int → Int → V} {i j : Int} (hc : C i j) (h : ∀ F, Dp K F (g i j) e) : Op2 K (rI C g) (.int i) (.int j) e := fun F H x y _ hx hy Q q => by
  cases hx; cases hy
  exact ⟨i, j, rfl, rfl, hc, q _ (h F)⟩
theorem o_add {i j : Int} : Op2 K (rI0 fun i j => .int (i + j)) (.int i) (.int j) (.int (i + j)) := op2_I0 fun _ => .int _
theorem o_sub {i j : Int} : Op2 K (rI0 fun i j => .int (i - j)) (.int i) (.int j) (.int (i - j)) := op2_I0 fun _ => .int _
theorem o_lt {i j : Int} : Op2 K (rI0 fun i j => .bl (decide (i < j))) (.int i) (.int j) (.bool (decide (i < j))) := op2_I0 fun _ => .bl _
theorem o_le {i j : Int} : Op2 K (rI0 fun i j => .bl (decide (i ≤ j))) (.int i) (.int j) (.bool (decide (i ≤ j))) := op2_I0 fun _ => .bl _
theorem o_gt {i j : Int} : Op2 K (rI0 fun i j => .bl (decide (j < i))) (.int i) (.int j) (.bool (decide (j < i))) := op2_I0 fun _ => .bl _
theorem o_ge {i j : Int} : Op2 K (rI0 fun i j => .bl (decide (j ≤ i))) (.int i) (.int j) (.bool (decide (j ≤ i))) := op2_I0 fun _ => .bl _
theorem o_mul {i j : Int} (h : (-(2 ^ 64) < i ∧ i < 2 ^ 64) ∨ (-(2 ^ 64) < j ∧ j < 2 ^ 64)) : Op2 K (rI CMul fun i j => .int (i * j)) (.int i) (.int j) (.int (i * j)) := op2_I h fun _ => .int _
theorem o_mod {i j : Int} (h : 0 < j) : Op2 K (rI (fun _ j => 0 < j) fun i j => .int (i % j)) (.int i) (.int j) (.int (i % j)) := op2_I h fun _ => .int _
theorem o_div {i j : Int} (h : 0 < j ∧ j < 1073741824) : Op2 K (rI CDiv fun i j => .int (i / j)) (.int i) (.int j) (.int (i / j)) := op2_I h fun _ => .int _
theorem o_pow {i j : Int} (h : 0 ≤ j ∧ j ≤ 1000000 ∧ i.natAbs < 2 ^ 64) : Op2 K (rI CPow fun i j => .int (i ^ j.toNat)) (.int i) (.int j) (.int (i ^ j.toNat)) := op2_I h fun _ => .int _
theorem u_neg {i : Int} : Op1 K (rU fun i => .int (-i)) (.int i) (.int (-i)) := fun F H x _ hx Q q => by
  cases hx
  exact ⟨i, rfl, q _ (.int _)⟩
/-- == of any data -/
theorem o_eqD (h1 : SeqAt.shaped d = true) (h2 : SeqAt.shaped e = true) : Op2 K (rEqD K) d e (.bool (PyData.eqv d e)) := fun F H x y sm hx hy Q q =>
  ⟨d, e, dp_mono sm _ _ hx, dp_mono sm _ _ hy, h1, h2, q _ (.bl _)⟩
theorem o_neD (h1 : SeqAt.shaped d = true) (h2 : SeqAt.shaped e = true) : Op2 K (rNeD K) d e (.bool (!PyData.eqv d e)) := fun F H x y sm hx hy Q q =>
  ⟨d, e, dp_mono sm _ _ hx, dp_mono sm _ _ hy, h1, h2, q _ (.bl _)⟩
theorem o_isN : Op2 K (fun x y H Q => y = .non ∧ Q (.bl (decide (x = .non))) H) d .none (.bool (match d with | .none => true | _ => false)) := fun F H x y _ hx hy Q q => by
  cases hy
  refine ⟨rfl, q _ ?_⟩
  cases hx <;> exact .bl _
theorem o_notN : Op2 K (fun x y H Q => y = .non ∧ Q (.bl (!decide (x = .non))) H) d .none (.bool (match d with | .none => false | _ => true)) := fun F H x y _ hx hy Q q => by
  cases hy
  refine ⟨rfl, q _ ?_⟩
  cases hx <;> exact .bl _
theorem o_addS {a b : Str} (h : a.length + b.length ≤ sizeLine) : Op2 K (fun x y H Q => ∃ i j, x = .str i ∧ y = .str j ∧ i.length + j.length ≤ sizeLine ∧ Q (.str (i ++ j)) H) (.str a) (.str b) (.str (a ++ b)) := fun F H x y _ hx hy Q q => by
  cases hx; cases hy
  exact ⟨a, b, rfl, rfl, h, q _ (.str _)⟩
/-- a chain of two comparisons -/
theorem ev_chain {r1 r2 : R2} {b1 b2 : Bool} (ha : Ev K ρ S ta (.v d) S1) (hb : Ev K ρ S1 tb (.v e) S2) (h1 : Op2 K r1 d e (.bool b1)) (hc : b1 = true → Ev K ρ S2 tc (.v f) S2) (h2 : b1 = true → Op2 K r2 e f (.bool b2)) :
    Ev K ρ S (tChain r1 r2 ta tb tc) (.v (.bool (b1 && b2))) S2 := fun σ F H L E s Q q =>
  ha σ F H L E s _ fun x F1 H1 st1 s1 q1 => hb σ F1 H1 L (E.mono0 st1.fx) s1 _ fun y F2 H2 st2 s2 q2 =>
    h1 F2 H2 x y s2.sub (dp_mono st2.fx _ _ q1) q2 _ fun z hz => by
      cases hz
      refine ⟨b1, rfl, ?_⟩
      cases b1 with
      | true =>
        rw [if_pos rfl]
        refine hc rfl σ F2 H2 L (E.mono0 (st1.trans st2).fx) s2 _ fun w F3 H3 st3 s3 q3 => ?_
        exact h2 rfl F3 H3 y w s3.sub (dp_mono st3.fx _ _ q2) q3 Q fun v hv => q v F3 H3 ((st1.trans st2).trans st3) s3 hv
      | false =>
        rw [if_neg Bool.false_ne_true]
        exact q _ F2 H2 (st1.trans st2) s2 (.bl _)

/-! tests -/
theorem et_test {b : Bool} (h : Ev K ρ S te (.v (.bool b)) S1) : EvT K ρ S (tTest te) b S1 := fun σ F H L E s Q q => h σ F H L E s _ fun v F1 H1 st s1 hv => by
  cases hv
  exact ⟨b, rfl, q F1 H1 st s1⟩
theorem et_B {b : Bool} (h : Ev K ρ S te (.v (.bool b)) S1) : EvT K ρ S (tB te) b S1 := fun σ F H L E s Q q => h σ F H L E s _ fun v F1 H1 st s1 hv => by
  cases hv
  exact ⟨b, rfl, q F1 H1 st s1⟩
theorem et_and {a b : Bool} (h1 : EvT K ρ S t a S1) (h2 : a = true → EvT K ρ S1 u b S1) : EvT K ρ S (tAnd t u) (a && b) S1 := fun σ F H L E s Q q => h1 σ F H L E s _ fun F1 H1 st s1 => by
  cases a with
  | true =>
    show u σ H1 Q
    exact h2 rfl σ F1 H1 L (E.mono0 st.fx) s1 Q fun F2 H2 st2 s2 => q F2 H2 (st.trans st2) s2
  | false =>
    show Q false H1
    exact q F1 H1 st s1
theorem et_or {a b : Bool} (h1 : EvT K ρ S t a S1) (h2 : a = false → EvT K ρ S1 u b S1) : EvT K ρ S (tOr t u) (a || b) S1 := fun σ F H L E s Q q => h1 σ F H L E s _ fun F1 H1 st s1 => by
  cases a with
  | true =>
    show Q true H1
    exact q F1 H1 st s1
  | false =>
    show u σ H1 Q
    exact h2 rfl σ F1 H1 L (E.mono0 st.fx) s1 Q fun F2 H2 st2 s2 => q F2 H2 (st.trans st2) s2
theorem et_not {a : Bool} (h1 : EvT K ρ S t a S1) : EvT K ρ S (tNot t) (!a) S1 := fun σ F H L E s Q q => h1 σ F H L E s _ fun F1 H1 st s1 => q F1 H1 st s1
theorem et_is {a b : Bool} (h : EvT K ρ S t a S1) (e : a = b) : EvT K ρ S t b S1 := e ▸ h
theorem ev_andV {a : Bool} (h1 : Ev K ρ S ta (.v (.bool a)) S1) (h2 : a = true → Ev K ρ S1 tb (.v d) S1) (h3 : a = false → d = .bool false) : Ev K ρ S (tAndV ta tb) (.v d) S1 := fun σ F H L E s Q q => h1 σ F H L E s _ fun v F1 H1 st s1 hv => by
  cases hv
  refine ⟨a, rfl, ?_⟩
  cases a with
  | true =>
    show tb σ H1 Q
    exact h2 rfl σ F1 H1 L (E.mono0 st.fx) s1 Q fun v F2 H2 st2 s2 hv => q v F2 H2 (st.trans st2) s2 hv
  | false =>
    show Q (.bl false) H1
    refine q _ F1 H1 st s1 ?_
    rw [h3 rfl]
    exact Dp.bl _
theorem ev_orV {a : Bool} (h1 : Ev K ρ S ta (.v (.bool a)) S1) (h2 : a = false → Ev K ρ S1 tb (.v d) S1) (h3 : a = true → d = .bool true) : Ev K ρ S (tOrV ta tb) (.v d) S1 := fun σ F H L E s Q q => h1 σ F H L E s _ fun v F1 H1 st s1 hv => by
  cases hv
  refine ⟨a, rfl, ?_⟩
  cases a with
  | true =>
    show Q (.bl true) H1
    refine q _ F1 H1 st s1 ?_
    rw [h3 rfl]
    exact Dp.bl _
  | false =>
    show tb σ H1 Q
    exact h2 rfl σ F1 H1 L (E.mono0 st.fx) s1 Q fun v F2 H2 st2 s2 hv => q v F2 H2 (st.trans st2) s2 hv
theorem ev_andB {a b : Bool} (h1 : Ev K ρ S ta (.v (.bool a)) S1) (h2 : a = true → Ev K ρ S1 tb (.v (.bool b)) S1) : Ev K ρ S (tAndV ta tb) (.v (.bool (a && b))) S1 :=
  ev_andV h1 (fun e => by subst e; exact h2 rfl) (fun e => by subst e; rfl)
theorem ev_orB {a b : Bool} (h1 : Ev K ρ S ta (.v (.bool a)) S1) (h2 : a = false → Ev K ρ S1 tb (.v (.bool b)) S1) : Ev K ρ S (tOrV ta tb) (.v (.bool (a || b))) S1 :=
  ev_orV h1 (fun e => by subst e; exact h2 rfl) (fun e => by subst e; rfl)
theorem ev_notV {a : Bool} (h1 : Ev K ρ S ta (.v (.bool a)) S1) : Ev K ρ S (tNotV ta) (.v (.bool (!a))) S1 := fun σ F H L E s Q q => h1 σ F H L E s _ fun v F1 H1 st s1 hv => by
  cases hv
  exact ⟨a, rfl, q _ F1 H1 st s1 (.bl _)⟩
theorem ev_if {b : Bool} (h : EvT K ρ S t b S1) (h1 : b = true → Ev K ρ S1 ta (.v d) S2) (h2 : b = false → Ev K ρ S1 tb (.v d) S2) : Ev K ρ S (tIf t ta tb) (.v d) S2 := fun σ F H L E s Q q => h σ F H L E s _ fun F1 H1 st s1 => by
  cases b with
  | true =>
    show ta σ H1 Q
    exact h1 rfl σ F1 H1 L (E.mono0 st.fx) s1 Q fun v F2 H2 st2 s2 hv => q v F2 H2 (st.trans st2) s2 hv
  | false =>
    show tb σ H1 Q
    exact h2 rfl σ F1 H1 L (E.mono0 st.fx) s1 Q fun v F2 H2 st2 s2 hv => q v F2 H2 (st.trans st2) s2 hv
end
end DL
end

section
set_option Elab.async false
set_option linter.all false
set_option maxRecDepth 100000
set_option maxHeartbeats 4000000
namespace DL
open PySem PySem.Spec PyProof.Rows L2

/-! ### sequences that are read -/
def RdSq (S : Sto) (r : Rs) (ds : List D) : Prop := r = .v (.list ds) ∨ r = .v (.tuple ds) ∨ ∃ n, r = .mu n ∧ S[n]? = some ds
def notNl : Rs → Bool
  | .nl _ => false
  | _ => true
theorem RsOk.pers {K : PySem.W.Frag} {L : List Addr} {F F' H0 H H0' H' : Hp} {v : V} (e : Same F F') : ∀ {r : Rs}, RsOk K L F H0 H v r → notNl r = true → RsOk K L F' H0' H' v r
  | .v d, h, _ => dp_mono e d v h
  | .mu n, h, _ => h
theorem RsOk.back {K : PySem.W.Frag} {L : List Addr} {F0 H0 F F' H H' : Hp} {v : V} (st : Stp L F0 H0 F H) : ∀ {r : Rs}, RsOk K L F' H H' v r → RsOk K L F' H0 H' v r
  | .v d, h => h
  | .mu n, h => h
  | .nl ds, ⟨a, vs, e, h0, h1, h2, h3⟩ => ⟨a, vs, e, st.fresh h0, h1, h2, h3⟩
theorem rd_sq {K : PySem.W.Frag} {L : List Addr} {F H H0 : Hp} {S : Sto} {v : V} {r : Rs} {ds : List D} (s : SOk K F H L S) (h : RsOk K L F H0 H v r) (q : RdSq S r ds) : ∃ a vs, v = .ref a ∧ (SqL K H a vs ∨ SqT K H a vs) ∧ DpAll K F vs ds := by
  rcases q with rfl | rfl | ⟨n, rfl, e⟩
  · have h' : Dp K F v (.list ds) := h
    cases h' with
    | lst h1 h2 => exact ⟨_, _, rfl, .inl (s.sub.seq h1), h2⟩
  · have h' : Dp K F v (.tuple ds) := h
    cases h' with
    | tup h1 h2 => exact ⟨_, _, rfl, .inr (sqt_mono s.sub h1), h2⟩
  · obtain ⟨a, rfl, e1⟩ := h
    obtain ⟨_, vs, ds', e2, e3, e4⟩ := s.st n a e1
    rw [e] at e2
    cases e2
    exact ⟨a, vs, rfl, .inl (.inl (.inl e3)), e4⟩
theorem atI_dp {K : PySem.W.Frag} {F : Hp} {vs : List V} {ds : List D} {i : Int} {d : D} (h : DpAll K F vs ds) (e : atI ds i = some d) : ∃ v, atI vs i = some v ∧ Dp K F v d := by
  unfold atI at e ⊢
  rw [dpa_len h]
  cases q : ixN ds.length i with
  | none => rw [q] at e; cases e
  | some j =>
    rw [q] at e
    exact dpa_get h e
/-- all arguments data -/
def EvD (K : PySem.W.Frag) (ρ : Rho) (S : Sto) (ta : TA) (ds : List D) (S' : Sto) : Prop := ∀ σ F H L, EOk K F L σ ρ → SOk K F H L S → ∀ Q : List V → Hp → Prop, (∀ vs F' H', Stp L F H F' H' → SOk K F' H' L S' → DpAll K F' vs ds → Q vs H') → ta σ H Q
theorem small5 {n : Nat} (h : n ≤ 100000) : n ≤ sizeLine := Nat.le_trans h (by decide)
theorem small5' {n : Nat} (h : n < 100000) : n < sizeLine := Nat.lt_of_lt_of_le h (by decide)

/-- a new tuple, a new list -/
theorem new_tup {K : PySem.W.Frag} {L : List Addr} {F H : Hp} {S : Sto} {vs : List V} {ds : List D} {p : Addr} (s : SOk K F H L S) (hd : DpAll K F vs ds) (hp : H p = none) :
    Stp L F H (upd F p (.tup vs)) (upd H p (.tup vs)) ∧ SOk K (upd F p (.tup vs)) (upd H p (.tup vs)) L S ∧ Dp K (upd F p (.tup vs)) (.ref p) (.tuple ds) := by
  have hf : F p = none := by
    cases q : F p with
    | none => rfl
    | some o => rw [s.sub _ _ q] at hp; cases hp
  have sm : Same F (upd F p (.tup vs)) := fun b o e => by
    rw [upd_ne (ne_of_none e hf)]
    exact e
  refine ⟨⟨sm, fun a o e _ => ?_, fun a h => ?_, fun a h n => ?_⟩, ⟨fun b o e => ?_, s.len, s.nd, fun n a e => ?_⟩, .tup (.inl (.inl upd_same)) (dpa_mono sm _ _ hd)⟩
  · rw [upd_ne (ne_of_none e hp)]; exact e
  · by_cases q : a = p
    · rw [q, upd_same]; exact nofun
    · rw [upd_ne q]; exact h
  · have : a ≠ p := fun q => h (by rw [q]; exact hp)
    rw [upd_ne this]; exact n
  · by_cases q : b = p
    · rw [q, upd_same] at e ⊢; exact e
    · rw [upd_ne q] at e ⊢; exact s.sub _ _ e
  · obtain ⟨f0, ws, es, e1, e2, e3⟩ := s.st n a e
    have : a ≠ p := fun q => by rw [q, hp] at e2; cases e2
    rw [upd_ne this, upd_ne this]
    exact ⟨f0, ws, es, e1, e2, dpa_mono sm _ _ e3⟩
theorem new_lst {K : PySem.W.Frag} {L : List Addr} {F H : Hp} {S : Sto} {vs : List V} {ds : List D} {p : Addr} (s : SOk K F H L S) (hd : DpAll K F vs ds) (hp : H p = none) :
    Stp L F H F (upd H p (.lst vs)) ∧ SOk K F (upd H p (.lst vs)) L S ∧ RsOk K L F H (upd H p (.lst vs)) (.ref p) (.nl ds) := by
  have hf : F p = none := by
    cases q : F p with
    | none => rfl
    | some o => rw [s.sub _ _ q] at hp; cases hp
  refine ⟨⟨Same.refl _, fun a o e _ => ?_, fun a h => ?_, fun a h n => n⟩, ⟨fun b o e => ?_, s.len, s.nd, fun n a e => ?_⟩, ⟨p, vs, rfl, hp, hf, upd_same, hd⟩⟩
  · rw [upd_ne (ne_of_none e hp)]; exact e
  · by_cases q : a = p
    · rw [q, upd_same]; exact nofun
    · rw [upd_ne q]; exact h
  · rw [upd_ne (ne_of_none e hf)]; exact s.sub _ _ e
  · obtain ⟨f0, ws, es, e1, e2, e3⟩ := s.st n a e
    have : a ≠ p := fun q => by rw [q, hp] at e2; cases e2
    rw [upd_ne this]
    exact ⟨f0, ws, es, e1, e2, e3⟩

section
variable {K : PySem.W.Frag} {ρ : Rho} {S S1 S2 S3 : Sto} {ta tb tc te : TE} {t u : TT} {tr : TA} {d e f : D} {r : Rs} {ds es : List D}
theorem ed_nil : EvD K ρ S tNil [] S := fun σ F H L E s Q q => q [] F H (.refl _ _ _) s .nil
theorem ed_cons (h : Ev K ρ S te (.v d) S1) (hr : EvD K ρ S1 tr ds S2) : EvD K ρ S (tCons te tr) (d :: ds) S2 := fun σ F H L E s Q q =>
  h σ F H L E s _ fun v F1 H1 st1 s1 r1 => hr σ F1 H1 L (E.mono0 st1.fx) s1 _ fun vs F2 H2 st2 s2 r2 => q _ F2 H2 (st1.trans st2) s2 (.cons (dp_mono st2.fx _ _ r1) r2)
theorem ed_consN (h : Ev K ρ S te (.nl es) S1) (hr : EvD K ρ S1 tr ds S2) : EvD K ρ S (tCons te tr) (.list es :: ds) S2 := ed_cons (ev_fr h) hr
theorem ev_tup (h : EvD K ρ S tr ds S1) (hl : ds.length ≤ 100000) : Ev K ρ S (tTup tr) (.v (.tuple ds)) S1 := fun σ F H L E s Q q =>
  h σ F H L E s _ fun vs F1 H1 st1 s1 r1 => ⟨by rw [dpa_len r1]; exact small5 hl, fun p hp => by
    obtain ⟨a, b, c⟩ := new_tup s1 r1 hp
    exact q _ _ _ (st1.trans a) b c⟩
theorem ev_lst (h : EvD K ρ S tr ds S1) (hl : ds.length ≤ 100000) : Ev K ρ S (tLst tr) (.nl ds) S1 := fun σ F H L E s Q q =>
  h σ F H L E s _ fun vs F1 H1 st1 s1 r1 => ⟨by rw [dpa_len r1]; exact small5 hl, fun p hp => by
    obtain ⟨a, b, c⟩ := new_lst (L := L) s1 r1 hp
    exact q _ _ _ (st1.trans a) b (c.back st1)⟩
/-! items -/
theorem ev_ix {i : Int} (ha : Ev K ρ S ta r S1) (hn : notNl r = true) (hb : Ev K ρ S1 tb (.v (.int i)) S2) (hq : RdSq S2 r ds) (hi : atI ds i = some d) : Ev K ρ S (tOp (rIx K) ta tb) (.v d) S2 := fun σ F H L E s Q q =>
  ha σ F H L E s _ fun x F1 H1 st1 s1 r1 => hb σ F1 H1 L (E.mono0 st1.fx) s1 _ fun y F2 H2 st2 s2 r2 => by
    cases r2
    obtain ⟨a, vs, rfl, hs, hd⟩ := rd_sq (H0 := H) s2 (r1.pers st2.fx hn) hq
    obtain ⟨v, hv, hdp⟩ := atI_dp hd hi
    rcases hs with hs | hs
    · exact .inl ⟨a, vs, i, v, rfl, rfl, hs, hv, q v F2 H2 (st1.trans st2) s2 hdp⟩
    · exact .inr (.inl ⟨a, vs, i, v, rfl, rfl, hs, hv, q v F2 H2 (st1.trans st2) s2 hdp⟩)
theorem ev_ixS {i : Int} {z : Str} {c : Nat} (ha : Ev K ρ S ta (.v (.str z)) S1) (hb : Ev K ρ S1 tb (.v (.int i)) S2) (hz : z.length ≤ sizeLine) (hi : atI z.cps.toList i = some c) : Ev K ρ S (tOp (rIx K) ta tb) (.v (.str ⟨#[c]⟩)) S2 := fun σ F H L E s Q q =>
  ha σ F H L E s _ fun x F1 H1 st1 s1 r1 => hb σ F1 H1 L (E.mono0 st1.fx) s1 _ fun y F2 H2 st2 s2 r2 => by
    cases r1; cases r2
    exact .inr (.inr ⟨z, i, c, rfl, rfl, hz, hi, q _ F2 H2 (st1.trans st2) s2 (.str _)⟩)
/-! builtins over data -/
def Fn (K : PySem.W.Frag) (rr : List V → Hp → VK → Prop) (ds : List D) (r : Rs) : Prop := ∀ F H L S vs, SOk K F H L S → DpAll K F vs ds → ∀ Q : VK, (∀ v F' H', Stp L F H F' H' → SOk K F' H' L S → RsOk K L F' H H' v r → Q v H') → rr vs H Q
theorem ev_fn {rr : List V → Hp → VK → Prop} (h : EvD K ρ S tr ds S1) (hr : Fn K rr ds r) : Ev K ρ S (tCB rr tr) r S1 := fun σ F H L E s Q q =>
  h σ F H L E s _ fun vs F1 H1 st1 s1 r1 => hr F1 H1 L S1 vs s1 r1 Q fun v F2 H2 st2 s2 r2 => q v F2 H2 (st1.trans st2) s2 (r2.back st1)
theorem dpa1 {F : Hp} {vs : List V} (h : DpAll K F vs [d]) : ∃ v, vs = [v] ∧ Dp K F v d := by
  cases h with
  | cons a b => cases b; exact ⟨_, rfl, a⟩
theorem dpa2 {F : Hp} {vs : List V} (h : DpAll K F vs [d, e]) : ∃ v w, vs = [v, w] ∧ Dp K F v d ∧ Dp K F w e := by
  cases h with
  | cons a b =>
    cases b with
    | cons a' b => cases b; exact ⟨_, _, rfl, a, a'⟩
theorem fn_max {i j : Int} : Fn K (fun xs H Q => ∃ i j, xs = [.int i, .int j] ∧ Q (.int (if j > i then j else i)) H) [.int i, .int j] (.v (.int (max i j))) := fun F H L S vs s h Q q => by
  obtain ⟨v, w, rfl, a, b⟩ := dpa2 h
  cases a; cases b
  refine ⟨i, j, rfl, q _ F H (.refl _ _ _) s ?_⟩
  have : (if j > i then j else i) = max i j := by
    rw [Int.max_def]
    split <;> split <;> omega
  rw [this]
  exact Dp.int _
theorem fn_min {i j : Int} : Fn K (fun xs H Q => ∃ i j, xs = [.int i, .int j] ∧ Q (.int (if j < i then j else i)) H) [.int i, .int j] (.v (.int (min i j))) := fun F H L S vs s h Q q => by
  obtain ⟨v, w, rfl, a, b⟩ := dpa2 h
  cases a; cases b
  refine ⟨i, j, rfl, q _ F H (.refl _ _ _) s ?_⟩
  have : (if j < i then j else i) = min i j := by
    rw [Int.min_def]
    split <;> split <;> omega
  rw [this]
  exact Dp.int _
theorem fn_int {i : Int} : Fn K (fun xs H Q => (∃ i, xs = [.int i] ∧ Q (.int i) H) ∨ ∃ k, xs = [.bl k] ∧ Q (.int (if k then 1 else 0)) H) [.int i] (.v (.int i)) := fun F H L S vs s h Q q => by
  obtain ⟨v, rfl, a⟩ := dpa1 h
  cases a
  exact .inl ⟨i, rfl, q _ F H (.refl _ _ _) s (.int _)⟩
theorem fn_ord {x : Str} (hx : x.length = 1) : Fn K (fun xs H Q => ∃ x, xs = [.str x] ∧ x.length = 1 ∧ Q (.int (x.cps.getD 0 0 : Nat)) H) [.str x] (.v (.int (x.cps.getD 0 0 : Nat))) := fun F H L S vs s h Q q => by
  obtain ⟨v, rfl, a⟩ := dpa1 h
  cases a
  exact ⟨x, rfl, hx, q _ F H (.refl _ _ _) s (.int _)⟩
/-- len, list, tuple of what is read -/
theorem ev_len (h : Ev K ρ S te r S1) (hn : notNl r = true) (hq : RdSq S1 r ds) : Ev K ρ S (tCB (fun xs H Q => ∃ x n, xs = [x] ∧ LenV K x H n ∧ Q (.int n) H) (tCons te tNil)) (.v (.int (ds.length : Int))) S1 := fun σ F H L E s Q q =>
  h σ F H L E s _ fun x F1 H1 st1 s1 r1 => by
    obtain ⟨a, vs, rfl, hs, hd⟩ := rd_sq (H0 := H) s1 (r1.pers (Same.refl _) hn) hq
    refine ⟨_, ds.length, rfl, ?_, q _ F1 H1 st1 s1 (.int _)⟩
    rcases hs with hs | hs
    · exact .inl ⟨vs, hs, (dpa_len hd).symm⟩
    · exact .inr ⟨vs, hs, (dpa_len hd).symm⟩
theorem ev_lenS {z : Str} (h : Ev K ρ S te (.v (.str z)) S1) (hz : z.length ≤ sizeLine) : Ev K ρ S (tCB (fun xs H Q => ∃ x n, xs = [x] ∧ LenV K x H n ∧ Q (.int n) H) (tCons te tNil)) (.v (.int (z.length : Int))) S1 := fun σ F H L E s Q q =>
  h σ F H L E s _ fun x F1 H1 st1 s1 r1 => by
    cases r1
    exact ⟨_, z.length, rfl, ⟨hz, rfl⟩, q _ F1 H1 st1 s1 (.int _)⟩
theorem ev_list (h : Ev K ρ S te r S1) (hn : notNl r = true) (hq : RdSq S1 r ds) : Ev K ρ S (tCB (fun xs H Q => ∃ p ys, xs = [.ref p] ∧ (SqL K H p ys ∨ SqT K H p ys) ∧ ∀ l, H l = none → Q (.ref l) (upd H l (.lst ys))) (tCons te tNil)) (.nl ds) S1 := fun σ F H L E s Q q =>
  h σ F H L E s _ fun x F1 H1 st1 s1 r1 => by
    obtain ⟨a, vs, rfl, hs, hd⟩ := rd_sq (H0 := H) s1 (r1.pers (Same.refl _) hn) hq
    refine ⟨a, vs, rfl, hs, fun l hl => ?_⟩
    obtain ⟨a, b, c⟩ := new_lst (L := L) s1 hd hl
    exact q _ _ _ (st1.trans a) b (c.back st1)
theorem ev_tuple (h : Ev K ρ S te r S1) (hn : notNl r = true) (hq : RdSq S1 r ds) : Ev K ρ S (tCB (fun xs H Q => ∃ p ys, xs = [.ref p] ∧ ((SqL K H p ys ∧ ∀ l, H l = none → Q (.ref l) (upd H l (.tup ys))) ∨ (SqT K H p ys ∧ Q (.ref p) H))) (tCons te tNil)) (.v (.tuple ds)) S1 := fun σ F H L E s Q q =>
  h σ F H L E s _ fun x F1 H1 st1 s1 r1 => by
    rcases hq with rfl | rfl | ⟨n, rfl, e⟩
    · obtain ⟨a, vs, rfl, hs, hd⟩ := rd_sq (H0 := H) s1 (r1.pers (Same.refl _) hn) (.inl rfl)
      have r1' : Dp K F1 (.ref a) (.list ds) := r1
      cases r1' with
      | lst h1 h2 =>
        refine ⟨a, _, rfl, .inl ⟨s1.sub.seq h1, fun l hl => ?_⟩⟩
        obtain ⟨x, y, z⟩ := new_tup (L := L) s1 h2 hl
        exact q _ _ _ (st1.trans x) y z
    · have r1' : Dp K F1 x (.tuple ds) := r1
      cases r1' with
      | tup h1 h2 => exact ⟨_, _, rfl, .inr ⟨sqt_mono s1.sub h1, q _ F1 H1 st1 s1 (.tup h1 h2)⟩⟩
    · obtain ⟨a, rfl, e1⟩ := r1
      obtain ⟨_, vs, ds', e2, e3, e4⟩ := s1.st n a e1
      rw [e] at e2
      cases e2
      refine ⟨a, vs, rfl, .inl ⟨.inl (.inl e3), fun l hl => ?_⟩⟩
      obtain ⟨x, y, z⟩ := new_tup (L := L) s1 e4 hl
      exact q _ _ _ (st1.trans x) y z
/-- truth of a list -/
theorem et_truL (h : Ev K ρ S te r S1) (hn : notNl r = true) (hq : RdSq S1 r ds) : EvT K ρ S (fun σ H Q => te σ H fun x H' => ∃ k, TruV K x H' k ∧ Q k H') (!ds.isEmpty) S1 := fun σ F H L E s Q q =>
  h σ F H L E s _ fun x F1 H1 st1 s1 r1 => by
    obtain ⟨a, vs, rfl, hs, hd⟩ := rd_sq (H0 := H) s1 (r1.pers (Same.refl _) hn) hq
    refine ⟨_, ?_, q F1 H1 st1 s1⟩
    have hl := dpa_len hd
    have he : vs.isEmpty = ds.isEmpty := by
      cases vs <;> cases ds <;> simp_all
    rcases hs with hs | hs
    · exact .inl ⟨vs, hs, by rw [he]⟩
    · exact .inr (.inl ⟨vs, hs, by rw [he]⟩)
theorem et_truB {b : Bool} (h : Ev K ρ S te (.v (.bool b)) S1) : EvT K ρ S (fun σ H Q => te σ H fun x H' => ∃ k, TruV K x H' k ∧ Q k H') b S1 := fun σ F H L E s Q q =>
  h σ F H L E s _ fun x F1 H1 st1 s1 r1 => by
    cases r1
    exact ⟨b, rfl, q F1 H1 st1 s1⟩
/-- isinstance -/
def tyD : D → String
  | .none => "NoneType" | .bool _ => "bool" | .int _ => "int" | .str _ => "str" | .list _ => "list" | .tuple _ => "tuple" | .dict _ => "dict"
end
end DL
end

section
set_option Elab.async false
set_option linter.all false
set_option maxRecDepth 100000
set_option maxHeartbeats 4000000
namespace DL
open PySem PySem.Spec PyProof.Rows L2

section
variable {K : PySem.W.Frag} {ρ : Rho} {S S1 S2 S3 : Sto} {ta tb tc te : TE} {t u : TT} {tr : TA} {d e f : D} {r : Rs} {ds es : List D}
theorem ty_dp {F : Hp} {v : V} (h : Dp K F v d) : TyX K F v (.type (tyD d)) := by
  cases h with
  | non => exact .base .non
  | bl b => exact .base (.bl b)
  | int i => exact .base (.int i)
  | str x => exact .base (.str x)
  | lst h1 h2 =>
    rcases h1 with (h1 | ⟨o, h1⟩) | ⟨o, its, n, h1, h3, _⟩
    · exact .base (.lst h1)
    · exact .base (.frz h1)
    · exact .kList h1 h3
  | tup h1 h2 =>
    rcases h1 with (h1 | ⟨o, h1⟩) | ⟨o, its, n, h1, h3, _⟩
    · exact .base (.tup h1)
    · exact .fTuple h1
    · exact .kTuple h1 h3
theorem tyx_mono {F H : Hp} {v : V} (h : Dp K F v d) (sm : Same F H) : TyX K H v (.type (tyD d)) := ty_dp (dp_mono sm _ _ h)
theorem ev_isi {T : String} {b : Bool} (h : Ev K ρ S te (.v d) S1) (hb : kitB (tyD d) T = some b) : Ev K ρ S (tCB (rIsi K) (tCons te (tCons (tC (.ty T)) tNil))) (.v (.bool b)) S1 := fun σ F H L E s Q q =>
  h σ F H L E s _ fun x F1 H1 st1 s1 r1 => ⟨x, _, _, _, b, rfl, .ty T, tyx_mono r1 s1.sub, kit_ty hb, q _ F1 H1 st1 s1 (.bl b)⟩

/-! ### arguments of own defs -/
def enOf : Rs → En
  | .v d => .dt d
  | .nl ds => .dt (.list ds)
  | .mu n => .mu n
theorem ea_nil : EvA K ρ S tNil [] S := fun σ F H L E s Q q => q [] F H (.refl _ _ _) s rfl fun i e h => by simp at h
theorem ea_cons1 {es : Rho} {en : En} (hx : ∀ σ F H L, EOk K F L σ ρ → SOk K F H L S → ∀ Q : VK, (∀ v F' H', Stp L F H F' H' → SOk K F' H' L S1 → EnOk K F' L en (some v) → Q v H') → te σ H Q) (hr : EvA K ρ S1 tr es S2) : EvA K ρ S (tCons te tr) (en :: es) S2 := fun σ F H L E s Q q =>
  hx σ F H L E s _ fun v F1 H1 st1 s1 r1 => hr σ F1 H1 L (E.mono0 st1.fx) s1 _ fun vs F2 H2 st2 s2 hl r2 => q _ F2 H2 (st1.trans st2) s2 (by simp [hl]) fun i e h => by
    cases i with
    | zero =>
      have := Option.some.inj h
      subst this
      refine ⟨some v, rfl, ?_⟩
      have := r1.mono (R := []) st2.fx
      rw [List.append_nil] at this
      exact this
    | succ i => exact r2 i e h
theorem ea_cons {es : Rho} (h : Ev K ρ S te (.v d) S1) (hr : EvA K ρ S1 tr es S2) : EvA K ρ S (tCons te tr) (.dt d :: es) S2 := ea_cons1 (fun σ F H L E s Q q => h σ F H L E s Q fun v F1 H1 st s1 r1 => q v F1 H1 st s1 ⟨v, rfl, r1⟩) hr
theorem ea_consN {es : Rho} {ds : List D} (h : Ev K ρ S te (.nl ds) S1) (hr : EvA K ρ S1 tr es S2) : EvA K ρ S (tCons te tr) (.dt (.list ds) :: es) S2 := ea_cons (ev_fr h) hr
theorem ea_consM {es : Rho} {n : Nat} (h : Ev K ρ S te (.mu n) S1) (hr : EvA K ρ S1 tr es S2) : EvA K ρ S (tCons te tr) (.mu n :: es) S2 := ea_cons1 (fun σ F H L E s Q q => h σ F H L E s Q fun v F1 H1 st s1 r1 => q v F1 H1 st s1 (by
  obtain ⟨a, rfl, e⟩ := r1
  exact ⟨a, rfl, e⟩)) hr

/-! ### a def's promise: G tells, of the arguments and the written lists, the result and the lists behind -/
def spA (K : PySem.W.Frag) (n : Nat) (G : Rho → Sto → Rs → Sto → Prop) : Sp := fun vs H Q E => vs.length = n ∧ ∃ F L ρ S r S', EOk K F L (vs.map some) ρ ∧ ρ.length = n ∧ SOk K F H L S ∧ G ρ S r S' ∧ ∀ v F' H', Stp L F H F' H' → SOk K F' H' L S' → RsOk K L F' H H' v r → Q v H'
def isDt : En → Bool
  | .dt _ => true
  | _ => false
def notMu : Rs → Bool
  | .mu _ => false
  | _ => true
theorem eok_dt {F : Hp} {L L' : List Addr} {σ : L2.St} {es : Rho} (h : EOk K F L σ es) (hd : es.all isDt = true) : EOk K F L' σ es := fun i e q => by
  obtain ⟨o, a, b⟩ := h i e q
  have := List.all_eq_true.mp hd e (List.mem_of_getElem? q)
  cases e with
  | dt d => exact ⟨o, a, b⟩
  | un => cases this
  | mu n => cases this
theorem ev_call0 {n : Nat} {G : Rho → Sto → Rs → Sto → Prop} {es : Rho} {E : XK} (h : EvA K ρ S tr es S1) (hd : es.all isDt = true) (hn : es.length = n) (hm : notMu r = true) (g : G es [] r []) : Ev K ρ S (tCall (spA K n G) [] E tr) r S1 := fun σ F H L Eo s Q q =>
  h σ F H L Eo s _ fun vs F1 H1 st1 s1 hl r1 => by
    refine ⟨by simp [hl, hn], F1, [], es, [], r, [], by rw [List.append_nil]; exact eok_dt r1 hd, hn, ⟨s1.sub, rfl, .nil, fun n a e => by simp at e⟩, g, fun v F2 H2 st2 s2 r2 => ?_⟩
    have st3 : Stp L F1 H1 F2 H2 := ⟨st2.fx, fun a o e _ => st2.keep a o e (by simp), st2.live, st2.nof⟩
    refine q v F2 H2 (st1.trans st3) ⟨s2.sub, s1.len, s1.nd, fun n a e => ?_⟩ ?_
    · obtain ⟨f0, ws, xs, e1, e2, e3⟩ := s1.st n a e
      exact ⟨st2.nof a (by rw [e2]; exact nofun) f0, ws, xs, e1, st2.keep _ _ e2 (by simp), dpa_mono st2.fx _ _ e3⟩
    · cases r with
      | v d => exact r2
      | nl ds =>
        obtain ⟨a, vs, e, h0, h1, h2, h3⟩ := r2
        exact ⟨a, vs, e, st1.fresh h0, h1, h2, h3⟩
      | mu n => cases hm
def reix : En → En
  | .mu _ => .mu 0
  | e => e
def muIs (n : Nat) : En → Bool
  | .mu m => m == n
  | .dt _ => true
  | .un => false
theorem ev_call1 {n : Nat} {k : Nat} {G : Rho → Sto → Rs → Sto → Prop} {es : Rho} {E : XK} {ds ds' : List D} (h : EvA K ρ S tr es S1) (hd : es.all (muIs k) = true) (hn : es.length = n) (hk : S1[k]? = some ds) (hm : notMu r = true) (g : G (es.map reix) [ds] r [ds']) :
    Ev K ρ S (tCall (spA K n G) [] E tr) r (S1.set k ds') := fun σ F H L Eo s Q q =>
  h σ F H L Eo s _ fun vs F1 H1 st1 s1 hl r1 => by
    have hkl : k < L.length := by
      rw [s1.len]
      exact (List.getElem?_eq_some_iff.mp hk).1
    obtain ⟨a, ha⟩ : ∃ a, L[k]? = some a := ⟨_, List.getElem?_eq_getElem hkl⟩
    obtain ⟨fa, wsa, dsa, ea1, ea2, ea3⟩ := s1.st k a ha
    rw [hk] at ea1
    cases ea1
    have haL : a ∈ L := List.mem_of_getElem? ha
    refine ⟨by simp [hl, hn], F1, [a], es.map reix, [ds], r, [ds'], ?_, by simp [hn], ⟨s1.sub, rfl, by simp, fun n b e => ?_⟩, g, fun v F2 H2 st2 s2 r2 => ?_⟩
    · rw [List.append_nil]
      intro i e q
      rw [List.getElem?_map] at q
      cases qe : es[i]? with
      | none => rw [qe] at q; cases q
      | some e0 =>
        rw [qe] at q
        have q' := Option.some.inj q
        obtain ⟨o, h1, h2⟩ := r1 i e0 qe
        have hmu := List.all_eq_true.mp hd e0 (List.mem_of_getElem? qe)
        refine ⟨o, h1, ?_⟩
        subst q'
        cases e0 with
        | un => cases hmu
        | dt d => exact h2
        | mu m =>
          have : m = k := by simpa [muIs] using hmu
          subst this
          obtain ⟨b, hb1, hb2⟩ := h2
          rw [ha] at hb2
          cases hb2
          exact ⟨a, hb1, rfl⟩
    · cases n with
      | zero =>
        cases e
        exact ⟨fa, wsa, ds, rfl, ea2, ea3⟩
      | succ n => simp at e
    · have st3 : Stp L F1 H1 F2 H2 := ⟨st2.fx, fun b o e nb => st2.keep b o e (by
        intro hb
        have : b = a := by simpa using hb
        exact nb (this ▸ haL)), st2.live, st2.nof⟩
      obtain ⟨fa2, ws2, xs2, eb1, eb2, eb3⟩ := s2.st 0 a rfl
      cases eb1
      refine q v F2 H2 (st1.trans st3) ⟨s2.sub, by simp [s1.len], s1.nd, fun n b e => ?_⟩ ?_
      · by_cases hnk : k = n
        · subst hnk
          rw [ha] at e
          cases e
          exact ⟨fa2, ws2, ds', by rw [List.getElem?_set_self (by rw [← s1.len]; exact hkl)], eb2, eb3⟩
        · obtain ⟨f0, ws, xs, e1, e2, e3⟩ := s1.st n b e
          have hba : b ≠ a := fun z => by
            subst z
            have h1 := (List.getElem?_eq_some_iff.mp e)
            have h2 := (List.getElem?_eq_some_iff.mp ha)
            exact hnk ((List.getElem_inj s1.nd).mp (h2.2.trans h1.2.symm))
          refine ⟨st2.nof b (by rw [e2]; exact nofun) f0, ws, xs, by rw [List.getElem?_set_ne hnk]; exact e1, st2.keep _ _ e2 (by simpa using hba), dpa_mono st2.fx _ _ e3⟩
      · cases r with
        | v d => exact r2
        | nl ds =>
          obtain ⟨a, vs, e, h0, h1, h2, h3⟩ := r2
          exact ⟨a, vs, e, st1.fresh h0, h1, h2, h3⟩
        | mu n => cases hm
end

/-! ### statements -/
structure AE where
  nx : Rho → Sto → Prop
  rt : Rs → Sto → Prop
  bk : Rho → Sto → Prop := fun _ _ => False
  ct : Rho → Sto → Prop := fun _ _ => False
/-- since the def's entry (L0, F0, H0) -/
structure Bs (n0 : Nat) (L0 : List Addr) (F0 H0 : Hp) (L : List Addr) (F H : Hp) : Prop where
  n : L0.length = n0
  stp : Stp L0 F0 H0 F H
  pre : ∃ R, L = L0 ++ R
  fr : ∀ a ∈ L, a ∈ L0 ∨ H0 a = none
structure Cov (K : PySem.W.Frag) (n0 : Nat) (A : AE) (L0 : List Addr) (F0 H0 : Hp) (DE : Ends) : Prop where
  nx : ∀ σ F H L ρ S, Bs n0 L0 F0 H0 L F H → EOk K F L σ ρ → SOk K F H L S → A.nx ρ S → DE.nx σ H
  bk : ∀ σ F H L ρ S, Bs n0 L0 F0 H0 L F H → EOk K F L σ ρ → SOk K F H L S → A.bk ρ S → DE.bk σ H
  ct : ∀ σ F H L ρ S, Bs n0 L0 F0 H0 L F H → EOk K F L σ ρ → SOk K F H L S → A.ct ρ S → DE.ct σ H
  rt : ∀ v F H L r S, notMu r = true → Bs n0 L0 F0 H0 L F H → SOk K F H L S → RsOk K L0 F H0 H v r → A.rt r S → DE.rt v H
def As (K : PySem.W.Frag) (n0 : Nat) (ts : TS) (A : AE) (ρ : Rho) (S : Sto) : Prop := ∀ L0 F0 H0 σ F H L, Bs n0 L0 F0 H0 L F H → EOk K F L σ ρ → SOk K F H L S → ∀ DE : Ends, Cov K n0 A L0 F0 H0 DE → ts DE σ H
theorem Bs.step {n0 : Nat} {L0 L : List Addr} {F0 H0 F H F' H' : Hp} (b : Bs n0 L0 F0 H0 L F H) (s : Stp L F H F' H') : Bs n0 L0 F0 H0 L F' H' := ⟨b.n, b.stp.trans' s b.fr, b.pre, b.fr⟩
theorem Cov.mono {K : PySem.W.Frag} {n0 : Nat} {A B : AE} {L0 : List Addr} {F0 H0 : Hp} {DE : Ends} (c : Cov K n0 B L0 F0 H0 DE) (h1 : ∀ ρ S, A.nx ρ S → B.nx ρ S) (h2 : ∀ r S, A.rt r S → B.rt r S) (h3 : ∀ ρ S, A.bk ρ S → B.bk ρ S) (h4 : ∀ ρ S, A.ct ρ S → B.ct ρ S) : Cov K n0 A L0 F0 H0 DE :=
  ⟨fun σ F H L ρ S a b d x => c.nx σ F H L ρ S a b d (h1 _ _ x), fun σ F H L ρ S a b d x => c.bk σ F H L ρ S a b d (h3 _ _ x), fun σ F H L ρ S a b d x => c.ct σ F H L ρ S a b d (h4 _ _ x), fun v F H L r S m a b d x => c.rt v F H L r S m a b d (h2 _ _ x)⟩
section
variable {K : PySem.W.Frag} {n0 : Nat} {A B : AE} {ρ : Rho} {S S1 S2 S3 : Sto} {ta tb tc te : TE} {t u : TT} {tr : TA} {d e f : D} {r : Rs} {ds es : List D} {ts tu tw : TS} {g : TG}
theorem As.mono (h : As K n0 ts A ρ S) (h1 : ∀ ρ S, A.nx ρ S → B.nx ρ S) (h2 : ∀ r S, A.rt r S → B.rt r S) (h3 : ∀ ρ S, A.bk ρ S → B.bk ρ S) (h4 : ∀ ρ S, A.ct ρ S → B.ct ρ S) : As K n0 ts B ρ S := fun L0 F0 H0 σ F H L b e s DE c =>
  h L0 F0 H0 σ F H L b e s DE (c.mono h1 h2 h3 h4)
theorem as_seq (h : As K n0 ts { A with nx := fun ρ S => As K n0 tu A ρ S } ρ S) : As K n0 (tSeq ts tu) A ρ S := fun L0 F0 H0 σ F H L b e s DE c =>
  h L0 F0 H0 σ F H L b e s { DE with nx := tu DE } ⟨fun σ F H L ρ S b e s x => x L0 F0 H0 σ F H L b e s DE c, c.bk, c.ct, c.rt⟩
theorem as_next (h : A.nx ρ S) : As K n0 tNext A ρ S := fun L0 F0 H0 σ F H L b e s DE c => c.nx σ F H L ρ S b e s h
theorem as_break (h : A.bk ρ S) : As K n0 tBreak A ρ S := fun L0 F0 H0 σ F H L b e s DE c => c.bk σ F H L ρ S b e s h
theorem as_cont (h : A.ct ρ S) : As K n0 tCont A ρ S := fun L0 F0 H0 σ F H L b e s DE c => c.ct σ F H L ρ S b e s h
theorem as_asg {i : Nat} (h : Ev K ρ S te (.v d) S1) (k : A.nx (ρ.set i (.dt d)) S1) : As K n0 (tAsg te (gName i)) A ρ S := fun L0 F0 H0 σ F H L b e s DE c =>
  h σ F H L e s _ fun v F1 H1 st s1 r1 => c.nx _ F1 H1 L _ S1 (b.step st) ((e.mono0 st.fx).set i (e := .dt d) ⟨v, rfl, r1⟩) s1 k
theorem as_asgM {i n : Nat} (h : Ev K ρ S te (.mu n) S1) (k : A.nx (ρ.set i (.mu n)) S1) : As K n0 (tAsg te (gName i)) A ρ S := fun L0 F0 H0 σ F H L b e s DE c =>
  h σ F H L e s _ fun v F1 H1 st s1 r1 => c.nx _ F1 H1 L _ S1 (b.step st) ((e.mono0 st.fx).set i (e := .mu n) (by
    obtain ⟨a, rfl, q⟩ := r1
    exact ⟨a, rfl, q⟩)) s1 k
/-- a new list becomes a written one -/
theorem own_new {L0 L : List Addr} {F0 H0 F H F1 H1 : Hp} {v : V} (b : Bs n0 L0 F0 H0 L F H) (st : Stp L F H F1 H1) (s0 : SOk K F H L S) (s1 : SOk K F1 H1 L S1) (r1 : RsOk K L F1 H H1 v (.nl ds)) : ∃ a, v = .ref a ∧ Bs n0 L0 F0 H0 (L ++ [a]) F1 H1 ∧ SOk K F1 H1 (L ++ [a]) (S1 ++ [ds]) := by
  obtain ⟨a, vs, rfl, h0, hf, hh, hd⟩ := r1
  have ha0 : H0 a = none := b.stp.fresh h0
  have b1 := b.step st
  have haL : a ∉ L := fun m => by
    obtain ⟨n, hn⟩ := List.getElem?_of_mem m
    obtain ⟨_, _, _, _, e2, _⟩ := s0.st n a hn
    rw [h0] at e2
    cases e2
  refine ⟨a, rfl, ⟨b1.n, b1.stp, ?_, fun x hx => ?_⟩, ⟨s1.sub, by simp [s1.len], ?_, fun n x e => ?_⟩⟩
  · obtain ⟨R, rfl⟩ := b.pre
    exact ⟨R ++ [a], by rw [List.append_assoc]⟩
  · rcases List.mem_append.mp hx with hx | hx
    · exact b.fr x hx
    · have : x = a := by simpa using hx
      subst this
      exact .inr ha0
  · rw [List.nodup_append]
    exact ⟨s1.nd, by simp, fun x hx y hy => by
      have : y = a := by simpa using hy
      subst this
      exact fun z => haL (z ▸ hx)⟩
  · rw [List.getElem?_append] at e
    split at e
    · rename_i hl
      obtain ⟨f0, ws, xs, e1, e2, e3⟩ := s1.st n x e
      refine ⟨f0, ws, xs, ?_, e2, e3⟩
      rw [List.getElem?_append_left (by rw [← s1.len]; exact hl)]
      exact e1
    · rename_i hl
      have hn : n - L.length = 0 := by
        have := (List.getElem?_eq_some_iff.mp e).1
        simp at this
        omega
      rw [hn] at e
      cases e
      refine ⟨hf, vs, ds, ?_, hh, hd⟩
      rw [List.getElem?_append_right (by rw [← s1.len]; omega), ← s1.len, hn]
      rfl
theorem as_asgN {i : Nat} (h : Ev K ρ S te (.nl ds) S1) (k : A.nx (ρ.set i (.mu S1.length)) (S1 ++ [ds])) : As K n0 (tAsg te (gName i)) A ρ S := fun L0 F0 H0 σ F H L b e s DE c =>
  h σ F H L e s _ fun v F1 H1 st s1 r1 => by
    obtain ⟨a, rfl, b2, s2⟩ := own_new b st s s1 r1
    refine c.nx _ F1 H1 (L ++ [a]) _ _ b2 ((e.mono (R := [a]) st.fx).set i (e := .mu S1.length) ⟨a, rfl, ?_⟩) s2 k
    rw [← s1.len, List.getElem?_append_right (Nat.le_refl _), Nat.sub_self]
    rfl
theorem as_if {b : Bool} (h : EvT K ρ S t b S1) (h1 : b = true → As K n0 tu A ρ S1) (h2 : b = false → As K n0 tw A ρ S1) : As K n0 (tIfS t tu tw) A ρ S := fun L0 F0 H0 σ F H L bs e s DE c =>
  h σ F H L e s _ fun F1 H1 st s1 => by
    cases b with
    | true =>
      show tu DE σ H1
      exact h1 rfl L0 F0 H0 σ F1 H1 L (bs.step st) (e.mono0 st.fx) s1 DE c
    | false =>
      show tw DE σ H1
      exact h2 rfl L0 F0 H0 σ F1 H1 L (bs.step st) (e.mono0 st.fx) s1 DE c
theorem as_ret (h : Ev K ρ S te r S1) (hm : notMu r = true) (k : A.rt r S1) : As K n0 (tRet te) A ρ S := fun L0 F0 H0 σ F H L b e s DE c =>
  h σ F H L e s _ fun v F1 H1 st s1 r1 => by
    refine c.rt v F1 H1 L r S1 hm (b.step st) s1 ?_ k
    cases r with
    | v d => exact r1
    | nl ds =>
      obtain ⟨a, vs, e, h0, h1, h2, h3⟩ := r1
      exact ⟨a, vs, e, b.stp.fresh h0, h1, h2, h3⟩
    | mu n => cases hm
/-- return of a list of one's own -/
theorem as_retM {n : Nat} (h : Ev K ρ S te (.mu n) S1) (hn : n0 ≤ n) (hd : S1[n]? = some ds) (k : A.rt (.nl ds) S1) : As K n0 (tRet te) A ρ S := fun L0 F0 H0 σ F H L b e s DE c =>
  h σ F H L e s _ fun v F1 H1 st s1 r1 => by
    obtain ⟨a, rfl, ha⟩ := r1
    obtain ⟨f0, ws, xs, e1, e2, e3⟩ := s1.st n a ha
    rw [hd] at e1
    cases e1
    refine c.rt _ F1 H1 L (.nl ds) S1 rfl (b.step st) s1 ⟨a, ws, rfl, ?_, f0, e2, e3⟩ k
    rcases b.fr a (List.mem_of_getElem? ha) with q | q
    · exfalso
      obtain ⟨R, rfl⟩ := b.pre
      obtain ⟨m, hm⟩ := List.getElem?_of_mem q
      have h1 := (List.getElem?_eq_some_iff.mp hm)
      obtain ⟨hl, _⟩ := h1
      have hm' : (L0 ++ R)[m]? = some a := by rw [List.getElem?_append_left hl]; exact hm
      have h3 := List.getElem?_eq_some_iff.mp hm'
      have h4 := List.getElem?_eq_some_iff.mp ha
      have : m = n := (List.getElem_inj s1.nd).mp (h3.2.trans h4.2.symm)
      have := b.n
      omega
    · exact q
theorem as_retN (k : A.rt (.v .none) S) : As K n0 tRetN A ρ S := fun L0 F0 H0 σ F H L b e s DE c => c.rt _ F H L (.v .none) S rfl b s (show Dp K F .non .none from .non) k
theorem as_drop (h : Ev K ρ S te r S1) (k : A.nx ρ S1) : As K n0 (tDrop te) A ρ S := fun L0 F0 H0 σ F H L b e s DE c =>
  h σ F H L e s _ fun v F1 H1 st s1 r1 => c.nx _ F1 H1 L _ S1 (b.step st) (e.mono0 st.fx) s1 k
/-- a written list is stored to -/
theorem put_lst {L0 L : List Addr} {F0 H0 F H : Hp} {n : Nat} {a : Addr} {vs : List V} (b : Bs n0 L0 F0 H0 L F H) (s : SOk K F H L S) (ha : L[n]? = some a) (hd : DpAll K F vs ds) : Bs n0 L0 F0 H0 L F (upd H a (.lst vs)) ∧ SOk K F (upd H a (.lst vs)) L (S.set n ds) := by
  obtain ⟨f0, ws, xs, e1, e2, e3⟩ := s.st n a ha
  have hl : n < S.length := (List.getElem?_eq_some_iff.mp e1).1
  have st : Stp L F H F (upd H a (.lst vs)) := ⟨Same.refl _, fun x o e nx => by
    rw [upd_ne (fun (z : x = a) => nx (by rw [z]; exact List.mem_of_getElem? ha))]
    exact e, fun x hx => by
      by_cases q : x = a
      · rw [q, upd_same]; exact nofun
      · rw [upd_ne q]; exact hx, fun x hx h => h⟩
  refine ⟨b.step st, ⟨fun x o e => ?_, by simp [s.len], s.nd, fun m x e => ?_⟩⟩
  · rw [upd_ne (ne_of_none e f0)]
    exact s.sub _ _ e
  · by_cases hnm : n = m
    · subst hnm
      rw [ha] at e
      cases e
      exact ⟨f0, vs, ds, List.getElem?_set_self hl, upd_same, hd⟩
    · obtain ⟨g0, ws', xs', k1, k2, k3⟩ := s.st m x e
      have hxa : x ≠ a := fun z => by
        subst z
        have h1 := List.getElem?_eq_some_iff.mp e
        have h2 := List.getElem?_eq_some_iff.mp ha
        exact hnm ((List.getElem_inj s.nd).mp (h2.2.trans h1.2.symm))
      exact ⟨g0, ws', xs', by rw [List.getElem?_set_ne hnm]; exact k1, by rw [upd_ne hxa]; exact k2, k3⟩
theorem as_app {n : Nat} (ha : Ev K ρ S ta (.mu n) S1) (h : Ev K ρ S1 te (.v d) S2) (hd : S2[n]? = some ds) (hz : ds.length < 100000) (k : A.nx ρ (S2.set n (ds ++ [d]))) : As K n0 (tDrop (tBM K "list" rAppend ta (tCons te tNil))) A ρ S := fun L0 F0 H0 σ F H L b e s DE c =>
  ha σ F H L e s _ fun v F1 H1 st1 s1 r1 => by
    obtain ⟨a, rfl, ha⟩ := r1
    obtain ⟨_, ws1, xs1, _, e12, _⟩ := s1.st n a ha
    refine ⟨.inl ⟨rfl, ws1, .inl (.inl e12)⟩, h σ F1 H1 L (e.mono0 st1.fx) s1 _ fun w F2 H2 st2 s2 r2 => ?_⟩
    obtain ⟨f0, ws, xs, e1, e2, e3⟩ := s2.st n a ha
    rw [hd] at e1
    cases e1
    obtain ⟨b3, s3⟩ := put_lst (b.step (st1.trans st2)) s2 ha (dpa_app e3 (.cons r2 .nil))
    exact ⟨a, ws, w, rfl, rfl, e2, by rw [dpa_len e3]; exact small5' hz, c.nx _ F2 _ L _ _ b3 (e.mono0 (st1.trans st2).fx) s3 k⟩
theorem as_appN {n : Nat} (ha : Ev K ρ S ta (.mu n) S1) (h : Ev K ρ S1 te (.nl es) S2) (hd : S2[n]? = some ds) (hz : ds.length < 100000) (k : A.nx ρ (S2.set n (ds ++ [.list es]))) : As K n0 (tDrop (tBM K "list" rAppend ta (tCons te tNil))) A ρ S := as_app ha (ev_fr h) hd hz k
theorem ixN_nat {n j : Nat} (hj : j < n) : ixN n (j : Int) = some j := by
  unfold ixN
  rw [if_pos (by omega), if_pos (by omega)]
  simp
theorem as_setI {n : Nat} {i : Int} {j : Nat} (h : Ev K ρ S te (.v d) S1) (ho : Ev K ρ S1 ta (.mu n) S2) (hi : Ev K ρ S2 tb (.v (.int i)) S3) (hd : S3[n]? = some ds) (hj : ixN ds.length i = some j) (k : A.nx ρ (S3.set n (ds.set j d))) : As K n0 (tAsg te (gSub ta tb rSetL)) A ρ S := fun L0 F0 H0 σ F H L b e s DE c =>
  h σ F H L e s _ fun v F1 H1 st1 s1 r1 => ho σ F1 H1 L (e.mono0 st1.fx) s1 _ fun w F2 H2 st2 s2 r2 => by
    obtain ⟨a, rfl, ha⟩ := r2
    refine hi σ F2 H2 L (e.mono0 (st1.trans st2).fx) s2 _ fun y F3 H3 st3 s3 r3 => ?_
    cases r3
    obtain ⟨f0, ws, xs, e1, e2, e3⟩ := s3.st n a ha
    rw [hd] at e1
    cases e1
    obtain ⟨b4, s4⟩ := put_lst (b.step ((st1.trans st2).trans st3)) s3 ha (dpa_set j e3 (dp_mono (st2.trans st3).fx _ _ r1))
    exact ⟨a, ws, i, j, rfl, rfl, e2, by rw [dpa_len e3]; exact hj, c.nx _ F3 _ L _ _ b4 (e.mono0 ((st1.trans st2).trans st3).fx) s4 k⟩
theorem as_aug {i : Nat} {ff : Int → Int → Int} {x y : Int} (hx : ρ[i]? = some (.dt (.int x))) (h : Ev K ρ S te (.v (.int y)) S1) (k : A.nx (ρ.set i (.dt (.int (ff x y)))) S1) : As K n0 (tAug i te (ipI ff)) A ρ S := fun L0 F0 H0 σ F H L b e s DE c => by
  obtain ⟨o, h1, v, rfl, h3⟩ := e i _ hx
  cases h3
  refine ⟨_, h1, h σ F H L e s _ fun w F1 H1 st s1 r1 => ?_⟩
  cases r1
  exact ⟨x, y, rfl, rfl, c.nx _ F1 H1 L _ S1 (b.step st) ((e.mono0 st.fx).set i (e := .dt (.int (ff x y))) ⟨_, rfl, .int _⟩) s1 k⟩
end
end DL
end

section
set_option Elab.async false
set_option linter.all false
set_option maxRecDepth 100000
set_option maxHeartbeats 4000000
namespace DL
open PySem PySem.Spec PyProof.Rows L2

/-! ### what is walked: J gives ds, as long as chk holds of the written lists -/
structure JOk (K : PySem.W.Frag) (F : Hp) (L : List Addr) (J : It) (ds : List D) (chk : Sto → Prop) : Prop where
  go : ∀ F2 H2 R S2 (i : Nat), Same F F2 → SOk K F2 H2 (L ++ R) S2 → chk S2 → i < ds.length → J.go i H2 ∧ ∀ x H', J.yld i H2 x H' → ∃ F3 d, Stp (L ++ R) F2 H2 F3 H' ∧ SOk K F3 H' (L ++ R) S2 ∧ ds[i]? = some d ∧ Dp K F3 x d
  stop : ∀ F2 H2 R S2, Same F F2 → SOk K F2 H2 (L ++ R) S2 → chk S2 → J.stop ds.length H2
def Wk (K : PySem.W.Frag) (ρ : Rho) (S : Sto) (wi : TI) (ds : List D) (chk : Sto → Prop) (S1 : Sto) : Prop := ∀ σ F H L, EOk K F L σ ρ → SOk K F H L S → ∀ R : It → Hp → Prop, (∀ F' H' J, Stp L F H F' H' → SOk K F' H' L S1 → JOk K F' L J ds chk → R J H') → wi σ H R
/-- a list or a tuple -/
def iSeq (K : PySem.W.Frag) (tl : TE) : TI := fun σ H R => tl σ H fun x H1 => ∃ a, x = .ref a ∧ (((∃ xs, SqL K H1 a xs) ∧ R (Itl K a) H1) ∨ ((∃ xs, SqT K H1 a xs) ∧ R (Itt K a) H1))
theorem pi_seq {X : Cx} {tg l : Expr} {tl : TE} (hl : PE X l tl) : PI X tg l (iSeq X.K tl) := by
  refine ⟨fun pins s σ H R I h => ?_⟩
  refine thn (hl.run pins s σ H _ I h) fun v s1 ⟨x, H1, I1, r1, q1⟩ => ?_
  obtain ⟨a, e, q⟩ := q1
  subst e
  cases r1
  rcases q with ⟨⟨xs, hq⟩, q⟩ | ⟨⟨xs, hq⟩, q⟩
  · obtain ⟨its, rv, p, hz⟩ := I1.list hq
    refine wpAny_pyIter_list p.isList ?_
    refine ⟨s1.heap.objs.size, [s1.heap.objs.size], _, _, H1, rfl, I1.kept (t' := s1.toks) fun b o e => Heap.get?_push_of_some _ e, turn_list a _, ⟨_, Heap.get?_push_size _ rfl, rfl, rfl⟩, fun b hb => ?_, q⟩
    have e : b = s1.heap.objs.size := by simpa using hb
    subst e
    exact I1.fpOk (Nat.le_refl _) (I1.hok.fresh (Nat.le_refl _))
  · obtain ⟨its, rv, p, hz⟩ := I1.tuple hq
    refine wpAny_pyIter_tuple (show s1.heap.IsTuple a its.toArray from p) ?_
    refine ⟨s1.heap.objs.size, [s1.heap.objs.size], _, _, H1, rfl, I1.kept (t' := s1.toks) fun b o e => Heap.get?_push_of_some _ e, turn_tuple a _, ⟨_, Heap.get?_push_size _ rfl, rfl, rfl⟩, fun b hb => ?_, q⟩
    have e : b = s1.heap.objs.size := by simpa using hb
    subst e
    exact I1.fpOk (Nat.le_refl _) (I1.hok.fresh (Nat.le_refl _))
section
variable {K : PySem.W.Frag} {n0 : Nat} {A B : AE} {ρ : Rho} {S S1 S2 S3 : Sto} {ta tb tc te : TE} {t u : TT} {tr : TA} {d e f : D} {r : Rs} {ds es : List D} {ts tu tw : TS} {g : TG} {wi : TI} {chk : Sto → Prop}
theorem jok_l {F : Hp} {L : List Addr} {a : Addr} {vs : List V} (h : ∀ F2 H2 R S2, Same F F2 → SOk K F2 H2 (L ++ R) S2 → chk S2 → ∃ vs, SqL K H2 a vs ∧ DpAll K F2 vs ds) : JOk K F L (Itl K a) ds chk where
  go := fun F2 H2 R S2 i sm s c hi => by
    obtain ⟨vs, h1, h2⟩ := h F2 H2 R S2 sm s c
    obtain ⟨v, hv, hd⟩ := dpa_get h2 (List.getElem?_eq_getElem hi)
    exact ⟨⟨vs, v, h1, hv⟩, fun x H' y => by
      obtain ⟨rfl, y⟩ := y
      have := y vs h1
      rw [hv] at this
      cases this
      exact ⟨F2, _, .refl _ _ _, s, List.getElem?_eq_getElem hi, hd⟩⟩
  stop := fun F2 H2 R S2 sm s c => by
    obtain ⟨vs, h1, h2⟩ := h F2 H2 R S2 sm s c
    exact ⟨vs, h1, by rw [dpa_len h2]; exact Nat.le_refl _⟩
theorem jok_t {F : Hp} {L : List Addr} {a : Addr} {vs : List V} (h : ∀ F2 H2 R S2, Same F F2 → SOk K F2 H2 (L ++ R) S2 → chk S2 → ∃ vs, SqT K H2 a vs ∧ DpAll K F2 vs ds) : JOk K F L (Itt K a) ds chk where
  go := fun F2 H2 R S2 i sm s c hi => by
    obtain ⟨vs, h1, h2⟩ := h F2 H2 R S2 sm s c
    obtain ⟨v, hv, hd⟩ := dpa_get h2 (List.getElem?_eq_getElem hi)
    exact ⟨⟨vs, v, h1, hv⟩, fun x H' y => by
      obtain ⟨rfl, y⟩ := y
      have := y vs h1
      rw [hv] at this
      cases this
      exact ⟨F2, _, .refl _ _ _, s, List.getElem?_eq_getElem hi, hd⟩⟩
  stop := fun F2 H2 R S2 sm s c => by
    obtain ⟨vs, h1, h2⟩ := h F2 H2 R S2 sm s c
    exact ⟨vs, h1, by rw [dpa_len h2]; exact Nat.le_refl _⟩
theorem wk_list (h : Ev K ρ S te (.v (.list ds)) S1) : Wk K ρ S (iSeq K te) ds (fun _ => True) S1 := fun σ F H L E s R q => h σ F H L E s _ fun v F1 H1 st s1 r1 => by
  have r1' : Dp K F1 v (.list ds) := r1
  cases r1' with
  | lst h1 h2 =>
    rename_i a xs
    refine ⟨a, rfl, .inl ⟨⟨xs, s1.sub.seq h1⟩, q F1 H1 _ st s1 (jok_l (vs := xs) fun F2 H2 R S2 sm s2 _ => ⟨xs, s2.sub.seq (sm.seq h1), dpa_mono sm _ _ h2⟩)⟩⟩
theorem wk_tup (h : Ev K ρ S te (.v (.tuple ds)) S1) : Wk K ρ S (iSeq K te) ds (fun _ => True) S1 := fun σ F H L E s R q => h σ F H L E s _ fun v F1 H1 st s1 r1 => by
  have r1' : Dp K F1 v (.tuple ds) := r1
  cases r1' with
  | tup h1 h2 =>
    rename_i a xs
    refine ⟨a, rfl, .inr ⟨⟨xs, sqt_mono s1.sub h1⟩, q F1 H1 _ st s1 (jok_t (vs := xs) fun F2 H2 R S2 sm s2 _ => ⟨xs, sqt_mono s2.sub (sqt_mono sm h1), dpa_mono sm _ _ h2⟩)⟩⟩
theorem wk_nl (h : Ev K ρ S te (.nl ds) S1) : Wk K ρ S (iSeq K te) ds (fun _ => True) S1 := wk_list (ev_fr h)
theorem wk_mu {n : Nat} (h : Ev K ρ S te (.mu n) S1) (hd : S1[n]? = some ds) : Wk K ρ S (iSeq K te) ds (fun S' => S'[n]? = some ds) S1 := fun σ F H L E s R q => h σ F H L E s _ fun v F1 H1 st s1 r1 => by
  obtain ⟨a, rfl, ha⟩ := r1
  obtain ⟨f0, ws, xs, e1, e2, e3⟩ := s1.st n a ha
  refine ⟨a, rfl, .inl ⟨⟨ws, .inl (.inl e2)⟩, q F1 H1 _ st s1 (jok_l (vs := ws) fun F2 H2 R S2 sm s2 c => ?_)⟩⟩
  obtain ⟨_, ws', xs', k1, k2, k3⟩ := s2.st n a (by rw [List.getElem?_append_left (List.getElem?_eq_some_iff.mp ha).1]; exact ha)
  rw [c] at k1
  cases k1
  exact ⟨ws', .inl (.inl k2), k3⟩
def rngD (lo : Int) (n : Nat) : List D := (List.range n).map fun (i : Nat) => .int (lo + (i : Int))
theorem rngD_len {lo : Int} {n : Nat} : (rngD lo n).length = n := by simp [rngD]
theorem rngD_get {lo : Int} {n i : Nat} (h : i < n) : (rngD lo n)[i]? = some (.int (lo + (i : Int))) := by
  simp [rngD, h]
theorem jok_r {F : Hp} {L : List Addr} {lo : Int} {n : Nat} : JOk K F L (Itr lo n) (rngD lo n) (fun _ => True) where
  go := fun F2 H2 R S2 i sm s _ hi => by
    rw [rngD_len] at hi
    exact ⟨hi, fun x H' y => by
      obtain ⟨rfl, rfl⟩ := y
      exact ⟨F2, _, .refl _ _ _, s, rngD_get hi, .int _⟩⟩
  stop := fun F2 H2 R S2 sm s _ => by
    rw [rngD_len]
    exact Nat.le_refl n
theorem wk_r1 {n : Int} (h : EvD K ρ S tr [.int n] S1) (hn : -4611686018427387904 ≤ n ∧ n < 4611686018427387904) : Wk K ρ S (iRng1 tr) (rngD 0 n.toNat) (fun _ => True) S1 := fun σ F H L E s R q => h σ F H L E s _ fun vs F1 H1 st s1 r1 => by
  obtain ⟨v, rfl, a⟩ := dpa1 r1
  cases a
  exact ⟨n, rfl, by have := hn.1; omega, by have := hn.2; omega, q F1 H1 _ st s1 jok_r⟩
theorem wk_r2 {lo n : Int} (h : EvD K ρ S tr [.int lo, .int n] S1) (hl : -4611686018427387904 ≤ lo ∧ lo < 4611686018427387904) (hn : -4611686018427387904 ≤ n ∧ n < 4611686018427387904) : Wk K ρ S (iRng2 tr) (rngD lo (n - lo).toNat) (fun _ => True) S1 := fun σ F H L E s R q => h σ F H L E s _ fun vs F1 H1 st s1 r1 => by
  obtain ⟨v, w, rfl, a, b⟩ := dpa2 r1
  cases a; cases b
  exact ⟨lo, n, rfl, ⟨by omega, by omega, by omega, by omega⟩, q F1 H1 _ st s1 jok_r⟩

/-! ### targets -/
def Tg (K : PySem.W.Frag) (g : TG) (d : D) (b : Rho → Rho) : Prop := ∀ v σ F H L ρ (Q : L2.St → Hp → Prop), Same F H → EOk K F L σ ρ → Dp K F v d → (∀ σ', EOk K F L σ' (b ρ) → Q σ' H) → g v σ H Q
def TgS (K : PySem.W.Frag) (g : TGs) (ds : List D) (b : Rho → Rho) : Prop := ∀ vs σ F H L ρ (Q : L2.St → Hp → Prop), Same F H → EOk K F L σ ρ → DpAll K F vs ds → (∀ σ', EOk K F L σ' (b ρ) → Q σ' H) → g vs σ H Q
theorem tg_name {i : Nat} : Tg K (gName i) d (fun ρ => ρ.set i (.dt d)) := fun v σ F H L ρ Q _ E h q => q _ (E.set i (e := .dt d) ⟨v, rfl, h⟩)
theorem tgs_nil : TgS K gNil [] (fun ρ => ρ) := fun vs σ F H L ρ Q _ E h q => by
  cases h
  exact ⟨rfl, q σ E⟩
theorem tgs_cons {gs : TGs} {b c : Rho → Rho} (h1 : Tg K g d b) (h2 : TgS K gs ds c) : TgS K (gCons g gs) (d :: ds) (fun ρ => c (b ρ)) := fun vs σ F H L ρ Q sm E h q => by
  cases h with
  | cons a r => exact ⟨_, _, rfl, h1 _ σ F H L ρ _ sm E a fun σ' E' => h2 _ σ' F H L _ Q sm E' r q⟩
theorem tg_tup {gs : TGs} {n : Nat} {b : Rho → Rho} (h : TgS K gs ds b) (hn : ds.length = n) : Tg K (gTup K n gs) (.tuple ds) b := fun v σ F H L ρ Q sm E hd q => by
  cases hd with
  | tup h1 h2 => exact ⟨_, _, rfl, sqt_mono sm h1, by rw [dpa_len h2]; exact hn, h _ σ F H L ρ Q sm E h2 q⟩
def bN (i : Nat) (d : D) (ρ : Rho) : Rho := ρ.set i (.dt d)
def bT2 (i j : Nat) (d : D) (ρ : Rho) : Rho := match d with
  | .tuple [a, b] => (ρ.set i (.dt a)).set j (.dt b)
  | _ => ρ
def bT3 (i j k : Nat) (d : D) (ρ : Rho) : Rho := match d with
  | .tuple [a, b, c] => ((ρ.set i (.dt a)).set j (.dt b)).set k (.dt c)
  | _ => ρ
def isT2 : D → Bool
  | .tuple [_, _] => true
  | _ => false
theorem tg_bN {i : Nat} : Tg K (gName i) d (bN i d) := tg_name
theorem tg_bT2 {i j : Nat} (h : isT2 d = true) : Tg K (gTup K 2 (gCons (gName i) (gCons (gName j) gNil))) d (bT2 i j d) := by
  unfold isT2 at h
  split at h
  · rename_i a b
    show Tg K _ _ (fun ρ => (ρ.set i (.dt a)).set j (.dt b))
    exact tg_tup (tgs_cons tg_name (tgs_cons tg_name tgs_nil)) rfl
  · cases h
/-- a, b = e -/
theorem as_asgT {b : Rho → Rho} (h : Ev K ρ S te (.v d) S1) (hg : Tg K g d b) (k : A.nx (b ρ) S1) : As K n0 (tAsg te g) A ρ S := fun L0 F0 H0 σ F H L bs e s DE c =>
  h σ F H L e s _ fun v F1 H1 st s1 r1 => hg v σ F1 H1 L ρ _ s1.sub (e.mono0 st.fx) r1 fun σ' E' => c.nx σ' F1 H1 L _ S1 (bs.step st) E' s1 k

/-! ### for -/
def Loop (K : PySem.W.Frag) (n0 : Nat) (tb : TS) (bind : D → Rho → Rho) (A : AE) (chk : Sto → Prop) : List D → Rho → Sto → Prop
  | [], ρ, S => A.nx ρ S
  | d :: ds, ρ, S => As K n0 tb ⟨fun ρ' S' => chk S' ∧ Loop K n0 tb bind A chk ds ρ' S', A.rt, A.nx, fun ρ' S' => chk S' ∧ Loop K n0 tb bind A chk ds ρ' S'⟩ (bind d ρ) S
theorem as_for {bind : D → Rho → Rho} {tb : TS} (hw : Wk K ρ S wi ds chk S1) (hc : chk S1) (hg : ∀ d ∈ ds, Tg K g d (bind d)) (h : Loop K S1.length tb bind A chk ds ρ S1) : As K n0 (tFor wi g tb) A ρ S := by
  intro L0 F0 H0 σ F H L bs e s DE c
  refine hw σ F H L e s _ fun F1 H1 J st s1 hJ => ?_
  have bs1 := bs.step st
  -- what is asked behind the loop, from the loop's own beginning
  have up : ∀ {L' F' H'}, Bs S1.length L F1 H1 L' F' H' → Bs n0 L0 F0 H0 L' F' H' := fun {L' F' H'} b => ⟨bs.n, bs1.stp.trans' b.stp bs1.fr, by
    obtain ⟨R, rfl⟩ := b.pre
    obtain ⟨R0, rfl⟩ := bs.pre
    exact ⟨R0 ++ R, by rw [List.append_assoc]⟩, fun a ha => by
    rcases b.fr a ha with q | q
    · exact bs1.fr a q
    · exact .inr (bs1.stp.fresh q)⟩
  have c1 : Cov K S1.length A L F1 H1 DE := ⟨fun σ F H L ρ S b => c.nx σ F H L ρ S (up b), fun σ F H L ρ S b => c.bk σ F H L ρ S (up b), fun σ F H L ρ S b => c.ct σ F H L ρ S (up b), fun v F H L' r S m b s' r1 => c.rt v F H L' r S m (up b) s' (by
    cases r with
    | v d => exact r1
    | nl ds =>
      obtain ⟨a, vs, e, h0, h1, h2, h3⟩ := r1
      exact ⟨a, vs, e, bs1.stp.fresh h0, h1, h2, h3⟩
    | mu n => cases m)⟩
  have b0 : Bs S1.length L F1 H1 L F1 H1 := ⟨s1.len, .refl _ _ _, ⟨[], by simp⟩, fun a ha => .inl ha⟩
  refine ⟨fun i m σ' H' => m = ds.length - i ∧ i ≤ ds.length ∧ ∃ F' L' ρ' S', Bs S1.length L F1 H1 L' F' H' ∧ EOk K F' L' σ' ρ' ∧ SOk K F' H' L' S' ∧ chk S' ∧ Loop K S1.length tb bind A chk (ds.drop i) ρ' S', ⟨_, rfl, Nat.zero_le _, F1, L, ρ, S1, b0, e.mono0 st.fx, s1, hc, h⟩, ?_⟩
  rintro i m σ' H' ⟨rfl, hi, F', L', ρ', S', b', e', s', c', lp⟩
  obtain ⟨R, rfl⟩ := b'.pre
  by_cases hlt : i < ds.length
  · obtain ⟨go, yl⟩ := hJ.go F' H' R S' i b'.stp.fx s' c' hlt
    rw [List.drop_eq_getElem_cons hlt] at lp
    refine .inr ⟨go, fun σ2 H2 => ∃ F2 L2 ρ2 S2, Bs S1.length L F1 H1 L2 F2 H2 ∧ EOk K F2 L2 σ2 ρ2 ∧ SOk K F2 H2 L2 S2 ∧ chk S2 ∧ Loop K S1.length tb bind A chk (ds.drop (i + 1)) ρ2 S2, fun σ2 H2 n2 => ⟨_, by omega, rfl, hlt, n2⟩, fun x H2 y => ?_⟩
    obtain ⟨F3, d, st3, s3, hd, hx⟩ := yl x H2 y
    rw [List.getElem?_eq_getElem hlt] at hd
    cases hd
    refine hg _ (List.getElem_mem hlt) x σ' F3 H2 (L ++ R) ρ' _ s3.sub (e'.mono0 st3.fx) hx fun σ3 e3 => ?_
    exact lp L F1 H1 σ3 F3 H2 (L ++ R) (b'.step st3) e3 s3 _ ⟨fun σ F H L ρ S b e s x => ⟨F, L, ρ, S, b, e, s, x.1, x.2⟩, fun σ F H L ρ S b e s x => c1.nx σ F H L ρ S b e s x, fun σ F H L ρ S b e s x => ⟨F, L, ρ, S, b, e, s, x.1, x.2⟩, c1.rt⟩
  · have ei : i = ds.length := by omega
    subst ei
    rw [List.drop_length] at lp
    exact .inl ⟨hJ.stop F' H' R S' b'.stp.fx s' c', c1.nx σ' F' H' (L ++ R) ρ' S' b' e' s' lp⟩
/-- the loop by a word of the turn -/
theorem loop_inv {bind : D → Rho → Rho} {tb : TS} (I : Nat → Rho → Sto → Prop) : ∀ (ds : List D) (k : Nat) (ρ : Rho) (S : Sto), (∀ i d ρ S, ds[i]? = some d → I (k + i) ρ S → As K n0 tb ⟨fun ρ' S' => chk S' ∧ I (k + i + 1) ρ' S', A.rt, A.nx, fun ρ' S' => chk S' ∧ I (k + i + 1) ρ' S'⟩ (bind d ρ) S) → (∀ ρ S, I (k + ds.length) ρ S → A.nx ρ S) → I k ρ S → Loop K n0 tb bind A chk ds ρ S
  | [], k, ρ, S, _, hd, h => hd ρ S h
  | d :: ds, k, ρ, S, hs, hd, h => by
    have ih : ∀ ρ S, I (k + 1) ρ S → Loop K n0 tb bind A chk ds ρ S := fun ρ S h' => loop_inv I ds (k + 1) ρ S (fun i d ρ S hi hI => by
      have := hs (i + 1) d ρ S hi (by rw [← Nat.add_assoc, Nat.add_right_comm]; exact hI)
      rw [← Nat.add_assoc, Nat.add_right_comm k i 1] at this
      exact this) (fun ρ S hI => hd ρ S (by
        rw [List.length_cons, ← Nat.add_assoc, Nat.add_right_comm]
        exact hI)) h'
    exact (hs 0 d ρ S rfl h).mono (fun ρ S h => ⟨h.1, ih ρ S h.2⟩) (fun _ _ h => h) (fun _ _ h => h) (fun ρ S h => ⟨h.1, ih ρ S h.2⟩)

/-! ### while -/
theorem as_while {W : Nat → Rho → Sto → Prop} {tb : TS} (m0 : Nat) (h0 : W m0 ρ S) (hs : ∀ m ρ' S', S'.length = S.length → W m ρ' S' → ∃ b S2, EvT K ρ' S' t b S2 ∧ (b = true → As K S.length tb ⟨fun ρ2 S3 => ∃ m', m' < m ∧ S3.length = S.length ∧ W m' ρ2 S3, A.rt, A.nx, fun ρ2 S3 => ∃ m', m' < m ∧ S3.length = S.length ∧ W m' ρ2 S3⟩ ρ' S2) ∧ (b = false → A.nx ρ' S2)) : As K n0 (tWhile t tb) A ρ S := by
  intro L0 F0 H0 σ F H L bs e s DE c
  have up : ∀ {L' F' H'}, Bs S.length L F H L' F' H' → Bs n0 L0 F0 H0 L' F' H' := fun {L' F' H'} b => ⟨bs.n, bs.stp.trans' b.stp bs.fr, by
    obtain ⟨R, rfl⟩ := b.pre
    obtain ⟨R0, rfl⟩ := bs.pre
    exact ⟨R0 ++ R, by rw [List.append_assoc]⟩, fun a ha => by
    rcases b.fr a ha with q | q
    · exact bs.fr a q
    · exact .inr (bs.stp.fresh q)⟩
  have c1 : Cov K S.length A L F H DE := ⟨fun σ F H L ρ S b => c.nx σ F H L ρ S (up b), fun σ F H L ρ S b => c.bk σ F H L ρ S (up b), fun σ F H L ρ S b => c.ct σ F H L ρ S (up b), fun v F H L' r S m b s' r1 => c.rt v F H L' r S m (up b) s' (by
    cases r with
    | v d => exact r1
    | nl ds =>
      obtain ⟨a, vs, e, h0, h1, h2, h3⟩ := r1
      exact ⟨a, vs, e, bs.stp.fresh h0, h1, h2, h3⟩
    | mu n => cases m)⟩
  have b0 : Bs S.length L F H L F H := ⟨s.len, .refl _ _ _, ⟨[], by simp⟩, fun a ha => .inl ha⟩
  refine ⟨fun m σ' H' => ∃ F' L' ρ' S', Bs S.length L F H L' F' H' ∧ EOk K F' L' σ' ρ' ∧ SOk K F' H' L' S' ∧ S'.length = S.length ∧ W m ρ' S', ⟨m0, F, L, ρ, S, b0, e, s, rfl, h0⟩, ?_⟩
  rintro m σ' H' ⟨F', L', ρ', S', b', e', s', hl, w⟩
  obtain ⟨b, S2, ht, h1, h2⟩ := hs m ρ' S' hl w
  refine ht σ' F' H' L' e' s' _ fun F2 H2 st2 s2 => ?_
  cases b with
  | true =>
    rw [if_pos rfl]
    refine ⟨fun σ3 H3 => ∃ m', m' < m ∧ ∃ F' L' ρ' S', Bs S.length L F H L' F' H3 ∧ EOk K F' L' σ3 ρ' ∧ SOk K F' H3 L' S' ∧ S'.length = S.length ∧ W m' ρ' S', fun σ3 H3 h => h, ?_⟩
    exact h1 rfl L F H σ' F2 H2 L' (b'.step st2) (e'.mono0 st2.fx) s2 _ ⟨fun σ F H L ρ S b e s ⟨m', x, y, z⟩ => ⟨m', x, F, L, ρ, S, b, e, s, y, z⟩, fun σ F H L ρ S b e s x => c1.nx σ F H L ρ S b e s x, fun σ F H L ρ S b e s ⟨m', x, y, z⟩ => ⟨m', x, F, L, ρ, S, b, e, s, y, z⟩, c1.rt⟩
  | false =>
    rw [if_neg Bool.false_ne_true]
    exact c1.nx σ' F2 H2 L' ρ' S2 (b'.step st2) (e'.mono0 st2.fx) s2 (h2 rfl)

/-! ### comprehensions -/
/-- what [e for j in ds if t] gives, and the lists behind -/
def Lc (K : PySem.W.Frag) (ρ : Rho) (tt : TT) (te : TE) (bind : D → Rho → Rho) (chk : Sto → Prop) : List D → Sto → List D → Sto → Prop
  | [], S, out, S' => chk S ∧ out = [] ∧ S' = S
  | d :: ds, S, out, S' => chk S ∧ ∃ b S1, EvT K (bind d ρ) S tt b S1 ∧ ((b = true ∧ ∃ e S2 r out', Ev K (bind d ρ) S1 te r S2 ∧ RsLe r (.v e) ∧ Lc K ρ tt te bind chk ds S2 out' S' ∧ out = e :: out') ∨ (b = false ∧ Lc K ρ tt te bind chk ds S1 out S'))
def wipeR (ρ : Rho) : List Nat → Rho
  | [] => ρ
  | v :: vs => (wipeR ρ vs).set v .un
theorem wipe_ok {F : Hp} {L : List Addr} {σ : L2.St} (E : EOk K F L σ ρ) : ∀ vs : List Nat, EOk K F L (wipe σ vs) (wipeR ρ vs)
  | [] => E
  | v :: vs => (wipe_ok E vs).set v (e := .un) trivial
theorem lc_len {tt : TT} {bind : D → Rho → Rho} : ∀ {ds : List D} {S S' : Sto} {out : List D}, Lc K ρ tt te bind chk ds S out S' → out.length ≤ ds.length
  | [], S, S', out, ⟨_, h, _⟩ => by rw [h]; exact Nat.le_refl _
  | d :: ds, S, S', out, ⟨_, b, S1, _, h⟩ => by
    rcases h with ⟨_, e, S2, r, out', _, _, h, rfl⟩ | ⟨_, h⟩
    · have := lc_len h
      simp only [List.length_cons]
      omega
    · have := lc_len h
      simp only [List.length_cons]
      omega
theorem wipe_get (j : Nat) : ∀ (ws : List Nat) (τ : L2.St), (wipe τ ws)[j]? = if j ∈ ws ∧ j < τ.length then some none else τ[j]? := by
  intro ws
  induction ws with
  | nil => intro τ; simp [wipe]
  | cons w ws ih =>
    intro τ
    unfold wipe
    by_cases hw : w = j
    · subst hw
      by_cases hl : w < τ.length
      · rw [List.getElem?_set_self (by rw [wipe_length]; exact hl)]
        simp [hl]
      · rw [List.getElem?_eq_none (by simp [wipe_length]; omega), List.getElem?_eq_none (by omega)]
        simp [hl]
    · rw [List.getElem?_set_ne hw, ih]
      simp [Ne.symm hw]
theorem wipe_wipe (σ : L2.St) (vs : List Nat) : wipe (wipe σ vs) vs = wipe σ vs := by
  apply List.ext_getElem?
  intro i
  rw [wipe_get, wipe_length, wipe_get]
  by_cases h : i ∈ vs ∧ i < σ.length <;> simp [h]
/-- a target that stores only in the slots vs -/
def TgW (g : TG) (vs : List Nat) : Prop := ∀ v σ H (Q Q' : L2.St → Hp → Prop), g v σ H Q → (∀ σ2 H2, Q σ2 H2 → wipe σ2 vs = wipe σ vs → Q' σ2 H2) → g v σ H Q'
def TgsW (g : TGs) (vs : List Nat) : Prop := ∀ v σ H (Q Q' : L2.St → Hp → Prop), g v σ H Q → (∀ σ2 H2, Q σ2 H2 → wipe σ2 vs = wipe σ vs → Q' σ2 H2) → g v σ H Q'
theorem tgw_name {i : Nat} {vs : List Nat} (hi : i ∈ vs) : TgW (gName i) vs := fun v σ H Q Q' q h => h _ _ q (by
  apply List.ext_getElem?
  intro j
  rw [wipe_get, wipe_get, List.length_set]
  by_cases h : j ∈ vs ∧ j < σ.length
  · simp [h]
  · rw [if_neg h, if_neg h]
    by_cases hij : i = j
    · subst hij
      have : ¬ i < σ.length := fun z => h ⟨hi, z⟩
      rw [List.getElem?_eq_none (by simp; omega), List.getElem?_eq_none (by omega)]
    · rw [List.getElem?_set_ne hij])
theorem tgsw_nil {vs : List Nat} : TgsW gNil vs := fun vss σ H Q Q' q h => ⟨q.1, h _ _ q.2 rfl⟩
theorem tgsw_cons {gs : TGs} {vs : List Nat} (h1 : TgW g vs) (h2 : TgsW gs vs) : TgsW (gCons g gs) vs := fun vss σ H Q Q' q h => by
  obtain ⟨v, r, rfl, q⟩ := q
  exact ⟨v, r, rfl, h1 v σ H _ _ q fun σ2 H2 q2 e => h2 r σ2 H2 _ _ q2 fun σ3 H3 q3 e3 => h _ _ q3 (e3.trans e)⟩
theorem tgw_tup {gs : TGs} {vs : List Nat} {n : Nat} (h1 : TgsW gs vs) : TgW (gTup K n gs) vs := fun v σ H Q Q' q h => by
  obtain ⟨a, xs, rfl, hs, hl, q⟩ := q
  exact ⟨a, xs, rfl, hs, hl, h1 xs σ H _ _ q h⟩
theorem ev_lc {tt : TT} {bind : D → Rho → Rho} {vs : List Nat} {out : List D} (hw : Wk K ρ S wi ds chk S1) (hg : ∀ d ∈ ds, Tg K g d (bind d)) (hv : TgW g vs) (hl : ds.length ≤ 100000) (h : Lc K (wipeR ρ vs) tt te bind chk ds S1 out S2) : Ev K ρ S (tLc wi g tt te vs) (.nl out) S2 := by
  intro σ F H L e s Q q
  refine hw σ F H L e s _ fun F1 H1 J st1 s1 hJ Da hDa => ?_
  have hF1 : F1 Da = none := by
    cases z : F1 Da with
    | none => rfl
    | some o => rw [s1.sub _ _ z] at hDa; cases hDa
  have hDL : ∀ {n : Nat} {a : Addr}, L[n]? = some a → a ≠ Da := fun {n a} hn z => by
    obtain ⟨_, _, _, _, e2, _⟩ := s1.st n a hn
    rw [z, hDa] at e2
    cases e2
  have hDL' : Da ∉ L := fun m => by
    obtain ⟨n, hn⟩ := List.getElem?_of_mem m
    exact hDL hn rfl
  -- storing to Da
  have put : ∀ {F' H' : Hp} {S' : Sto} {xs : List V}, Stp L F1 H1 F' H' → SOk K F' H' L S' → F' Da = none → Stp L F1 H1 F' (upd H' Da (.lst xs)) ∧ SOk K F' (upd H' Da (.lst xs)) L S' := fun {F' H' S' xs} st s' hF => by
    refine ⟨⟨st.fx, fun a o ea na => ?_, fun a ha => ?_, st.nof⟩, ⟨fun a o ea => ?_, s'.len, s'.nd, fun n a ea => ?_⟩⟩
    · rw [upd_ne (ne_of_none ea hDa)]
      exact st.keep a o ea na
    · by_cases z : a = Da
      · rw [z, upd_same]; exact nofun
      · rw [upd_ne z]; exact st.live a ha
    · rw [upd_ne (ne_of_none ea hF)]
      exact s'.sub _ _ ea
    · obtain ⟨f0, ws, es, e1, e2, e3⟩ := s'.st n a ea
      rw [upd_ne (hDL ea)]
      exact ⟨f0, ws, es, e1, e2, e3⟩
  obtain ⟨st0, s0⟩ := put (xs := []) (.refl _ _ _) s1 hF1
  refine ⟨fun i m H' => m = ds.length - i ∧ i ≤ ds.length ∧ ∃ F' S' xs acc rest, Stp L F1 H1 F' H' ∧ SOk K F' H' L S' ∧ F' Da = none ∧ H' Da = some (.lst xs) ∧ DpAll K F' xs acc ∧ acc.length ≤ i ∧ acc ++ rest = out ∧ Lc K (wipeR ρ vs) tt te bind chk (ds.drop i) S' rest S2, ⟨_, rfl, Nat.zero_le _, F1, S1, [], [], out, st0, s0, hF1, upd_same, .nil, Nat.le_refl _, rfl, h⟩, ?_⟩
  rintro i m H' ⟨rfl, hi, F', S', xs, acc, rest, st', s', hF', hD', hx, ha, eo, lc⟩
  have s'' : SOk K F' H' (L ++ []) S' := by rw [List.append_nil]; exact s'
  by_cases hlt : i < ds.length
  · rw [List.drop_eq_getElem_cons hlt] at lc
    obtain ⟨ck, b, S3, ht, lc⟩ := lc
    obtain ⟨go, yl⟩ := hJ.go F' H' [] S' i st'.fx s'' ck hlt
    refine .inr ⟨go, fun H' => i + 1 ≤ ds.length ∧ ∃ F' S' xs acc rest, Stp L F1 H1 F' H' ∧ SOk K F' H' L S' ∧ F' Da = none ∧ H' Da = some (.lst xs) ∧ DpAll K F' xs acc ∧ acc.length ≤ i + 1 ∧ acc ++ rest = out ∧ Lc K (wipeR ρ vs) tt te bind chk (ds.drop (i + 1)) S' rest S2, fun H'' n2 => ⟨_, by omega, rfl, n2⟩, fun x H2 y => ?_⟩
    obtain ⟨F3, d, st3, s3, hd, hxd⟩ := yl x H2 y
    rw [List.append_nil] at st3 s3
    rw [List.getElem?_eq_getElem hlt] at hd
    cases hd
    have e3 : EOk K F3 L (wipe σ vs) (wipeR ρ vs) := wipe_ok (e.mono0 ((st1.trans st').trans st3).fx) vs
    refine hv x _ _ _ _ (hg _ (List.getElem_mem hlt) x _ F3 H2 L _ (fun σ2 H2' => H2' = H2 ∧ EOk K F3 L σ2 (bind ds[i] (wipeR ρ vs))) s3.sub e3 hxd fun σ4 e4 => ⟨rfl, e4⟩) fun σ2 H2' ⟨eH, e4⟩ ew => ?_
    subst eH
    rw [wipe_wipe] at ew
    refine ⟨ew, ht σ2 F3 H2' L e4 s3 _ fun F4 H4 st4 s4 => ?_⟩
    have keepD : ∀ {F5 H5}, Stp L F3 H2' F5 H5 → F5 Da = none ∧ H5 Da = some (.lst xs) ∧ DpAll K F5 xs acc := fun {F5 H5} st5 => by
      have h1 : H2' Da = some (.lst xs) := st3.keep _ _ hD' hDL'
      have f1 : F3 Da = none := st3.nof _ (by rw [hD']; exact nofun) hF'
      exact ⟨st5.nof _ (by rw [h1]; exact nofun) f1, st5.keep _ _ h1 hDL', dpa_mono (st3.fx.trans st5.fx) _ _ hx⟩
    have hmem := lc
    rcases lc with ⟨rfl, e, S4, r, out', he, rl, lc, rfl⟩ | ⟨rfl, lc⟩
    · rw [if_pos rfl]
      refine (ev_dt he rl) σ2 F4 H4 L (e4.mono0 st4.fx) s4 _ fun v F5 H5 st5 s5 r5 => ?_
      obtain ⟨k1, k2, k3⟩ := keepD (st4.trans st5)
      obtain ⟨p1, p2⟩ := put (xs := xs ++ [v]) (((st'.trans st3).trans st4).trans st5) s5 k1
      have hlx : xs.length < sizeLine := by rw [dpa_len hx]; exact small5' (by omega)
      refine ⟨xs, k2, hlx, hlt, F5, S4, _, acc ++ [e], out', p1, p2, k1, upd_same, dpa_app k3 (.cons r5 .nil), by simp; omega, by rw [← eo]; simp, lc⟩
    · rw [if_neg Bool.false_ne_true]
      obtain ⟨k1, k2, k3⟩ := keepD st4
      exact ⟨hlt, F4, S3, xs, acc, rest, (st'.trans st3).trans st4, s4, k1, k2, k3, by omega, eo, lc⟩
  · have ei : i = ds.length := by omega
    subst ei
    rw [List.drop_length] at lc
    obtain ⟨ck, rfl, rfl⟩ := lc
    rw [List.append_nil] at eo
    subst eo
    exact .inl ⟨hJ.stop F' H' [] S2 st'.fx s'' ck, q _ F' H' (st1.trans st') s' ⟨Da, xs, rfl, st1.fresh hDa, hF', hD', hx⟩⟩
/-- elements that change no list -/
theorem lc_pure {tt : TT} {bind : D → Rho → Rho} (hc : chk S) (p : D → Bool) (f : D → D) : ∀ {ds : List D}, (∀ d ∈ ds, EvT K (bind d ρ) S tt (p d) S ∧ (p d = true → ∃ r, Ev K (bind d ρ) S te r S ∧ RsLe r (.v (f d)))) → Lc K ρ tt te bind chk ds S ((ds.filter p).map f) S
  | [], _ => ⟨hc, rfl, rfl⟩
  | d :: ds, h => by
    have ih := lc_pure (ds := ds) hc p f fun d hd => h d (List.mem_cons_of_mem _ hd)
    obtain ⟨h1, h2⟩ := h d List.mem_cons_self
    refine ⟨hc, p d, S, h1, ?_⟩
    cases hp : p d with
    | true =>
      obtain ⟨r, h3, h4⟩ := h2 hp
      exact .inl ⟨rfl, f d, S, r, _, h3, h4, ih, by simp [List.filter_cons, hp]⟩
    | false => exact .inr ⟨rfl, by simpa [List.filter_cons, hp] using ih⟩
theorem et_yes : EvT K ρ S tYes true S := fun σ F H L e s Q q => q F H (.refl _ _ _) s
theorem lc_map {bind : D → Rho → Rho} (hc : chk S) (f : D → D) {ds : List D} (h : ∀ d ∈ ds, ∃ r, Ev K (bind d ρ) S te r S ∧ RsLe r (.v (f d))) : Lc K ρ tYes te bind chk ds S (ds.map f) S := by
  have := lc_pure (tt := tYes) (te := te) (bind := bind) (ρ := ρ) (K := K) hc (fun _ => true) f (ds := ds) fun d hd => ⟨et_yes, fun _ => h d hd⟩
  rw [List.filter_eq_self.mpr (by simp)] at this
  exact this

/-! ### views of a state -/
def View (K : PySem.W.Frag) (n0 : Nat) (ρ : Rho) (S : Sto) (ρ' : Rho) (S' : Sto) : Prop := ∀ L0 F0 H0 σ F H L, Bs n0 L0 F0 H0 L F H → EOk K F L σ ρ → SOk K F H L S → ∃ F' L', Bs n0 L0 F0 H0 L' F' H ∧ EOk K F' L' σ ρ' ∧ SOk K F' H L' S'
theorem as_view {ρ' : Rho} {S' : Sto} (v : View K n0 ρ S ρ' S') (h : As K n0 ts A ρ' S') : As K n0 ts A ρ S := fun L0 F0 H0 σ F H L b e s DE c => by
  obtain ⟨F', L', b', e', s'⟩ := v L0 F0 H0 σ F H L b e s
  exact h L0 F0 H0 σ F' H L' b' e' s' DE c
theorem as_post (h : As K n0 ts { A with nx := fun ρ S => ∃ ρ' S', View K n0 ρ S ρ' S' ∧ A.nx ρ' S' } ρ S) : As K n0 ts A ρ S := fun L0 F0 H0 σ F H L b e s DE c =>
  h L0 F0 H0 σ F H L b e s DE ⟨fun σ F H L ρ S b e s ⟨ρ', S', v, x⟩ => by
    obtain ⟨F', L', b', e', s'⟩ := v L0 F0 H0 σ F H L b e s
    exact c.nx σ F' H L' ρ' S' b' e' s' x, c.bk, c.ct, c.rt⟩
theorem View.refl : View K n0 ρ S ρ S := fun L0 F0 H0 σ F H L b e s => ⟨F, L, b, e, s⟩
theorem View.trans {ρ1 ρ2 : Rho} {S1 S2 : Sto} (a : View K n0 ρ S ρ1 S1) (b : View K n0 ρ1 S1 ρ2 S2) : View K n0 ρ S ρ2 S2 := fun L0 F0 H0 σ F H L bs e s => by
  obtain ⟨F', L', b', e', s'⟩ := a L0 F0 H0 σ F H L bs e s
  exact b L0 F0 H0 σ F' H L' b' e' s'
/-- a name forgotten -/
theorem view_un (i : Nat) : View K n0 ρ S (ρ.set i .un) S := fun L0 F0 H0 σ F H L b e s => ⟨F, L, b, by
  intro j en q
  by_cases hij : i = j
  · subst hij
    have hl := (List.getElem?_eq_some_iff.mp q).1
    rw [List.length_set] at hl
    obtain ⟨o, ho, _⟩ := e i _ (List.getElem?_eq_getElem hl)
    rw [List.getElem?_set_self hl] at q
    cases q
    exact ⟨o, ho, trivial⟩
  · rw [List.getElem?_set_ne hij] at q
    exact e j en q, s⟩
/-- the last written list becomes data for ever -/
def frz1 (n : Nat) (ds : List D) : En → En
  | .mu m => if m = n then .dt (.list ds) else .mu m
  | e => e
theorem view_frz (hn : n0 ≤ S.length) : View K n0 ρ (S ++ [ds]) (ρ.map (frz1 S.length ds)) S := fun L0 F0 H0 σ F H L b e s => by
  have hlen := s.len
  rw [List.length_append, List.length_singleton] at hlen
  have hl : S.length < L.length := by omega
  obtain ⟨a, ha⟩ : ∃ a, L[S.length]? = some a := ⟨_, List.getElem?_eq_getElem hl⟩
  obtain ⟨f0, ws, xs, e1, e2, e3⟩ := s.st _ _ ha
  rw [List.getElem?_append_right (Nat.le_refl _), Nat.sub_self] at e1
  cases e1
  have hLd : L = L.dropLast ++ [a] := by
    have hne : L ≠ [] := fun z => by rw [z] at hl; simp at hl
    have : L.getLast hne = a := by
      rw [List.getLast_eq_getElem]
      have := (List.getElem?_eq_some_iff.mp ha).2
      rw [← this]
      congr 1
      omega
    rw [← this]
    exact (List.dropLast_concat_getLast hne).symm
  have sm : Same F (upd F a (.lst ws)) := fun x o ex => by
    rw [upd_ne (ne_of_none ex f0)]
    exact ex
  have hDl : L.dropLast.length = S.length := by simp; omega
  have get : ∀ {n : Nat} {x : Addr}, L.dropLast[n]? = some x → L[n]? = some x ∧ n < S.length ∧ x ≠ a := fun {n x} hx => by
    have hlt : n < L.dropLast.length := (List.getElem?_eq_some_iff.mp hx).1
    have h1 : L[n]? = some x := by
      rw [hLd, List.getElem?_append_left hlt]
      exact hx
    refine ⟨h1, by omega, fun z => ?_⟩
    subst z
    have h2 := (List.getElem?_eq_some_iff.mp h1).2
    have h3 := (List.getElem?_eq_some_iff.mp ha).2
    have := (List.getElem_inj s.nd).mp (h2.trans h3.symm)
    omega
  have hn0 := b.n
  have b' : Bs n0 L0 F0 H0 L.dropLast (upd F a (.lst ws)) H := by
    refine ⟨b.n, ⟨b.stp.fx.trans sm, b.stp.keep, b.stp.live, fun x hx h0 => ?_⟩, ?_, fun x hx => b.fr x (by rw [hLd]; exact List.mem_append_left _ hx)⟩
    · have : x ≠ a := fun z => by
        subst z
        rcases b.fr x (List.mem_of_getElem? ha) with q | q
        · obtain ⟨R, hR⟩ := b.pre
          obtain ⟨m, hm⟩ := List.getElem?_of_mem q
          have hml : m < L0.length := (List.getElem?_eq_some_iff.mp hm).1
          have hm' : L[m]? = some x := by rw [hR, List.getElem?_append_left hml]; exact hm
          have h2 := (List.getElem?_eq_some_iff.mp hm').2
          have h3 := (List.getElem?_eq_some_iff.mp ha).2
          have := (List.getElem_inj s.nd).mp (h2.trans h3.symm)
          omega
        · exact hx q
      rw [upd_ne this]
      exact b.stp.nof x hx h0
    · obtain ⟨R, hR⟩ := b.pre
      refine ⟨R.dropLast, ?_⟩
      rw [hR]
      apply List.dropLast_append_of_ne_nil
      intro z
      subst z
      rw [List.append_nil] at hR
      rw [hR] at hl
      omega
  refine ⟨upd F a (.lst ws), L.dropLast, b', fun i en q => ?_, ⟨fun x o ex => ?_, hDl, ?_, fun n x hx => ?_⟩⟩
  · rw [List.getElem?_map] at q
    cases qe : ρ[i]? with
    | none => rw [qe] at q; cases q
    | some e0 =>
      rw [qe] at q
      have q' : frz1 S.length ds e0 = en := Option.some.inj q
      subst q'
      obtain ⟨o, h1, h2⟩ := e i e0 qe
      refine ⟨o, h1, ?_⟩
      cases e0 with
      | un => trivial
      | dt d =>
        obtain ⟨v, h3, h4⟩ := h2
        exact ⟨v, h3, dp_mono sm _ _ h4⟩
      | mu m =>
        obtain ⟨x, h3, h4⟩ := h2
        show EnOk K (upd F a (.lst ws)) L.dropLast (if m = S.length then .dt (.list ds) else .mu m) o
        by_cases hm : m = S.length
        · rw [if_pos hm]
          rw [hm, ha] at h4
          cases h4
          exact ⟨_, h3, .lst (.inl (.inl upd_same)) (dpa_mono sm _ _ e3)⟩
        · rw [if_neg hm]
          refine ⟨x, h3, ?_⟩
          have hml := (List.getElem?_eq_some_iff.mp h4).1
          rw [hLd, List.getElem?_append_left (by omega)] at h4
          exact h4
  · by_cases z : x = a
    · rw [z, upd_same] at ex
      cases ex
      rw [z]
      exact e2
    · rw [upd_ne z] at ex
      exact s.sub _ _ ex
  · have := s.nd
    rw [hLd, List.nodup_append] at this
    exact this.1
  · obtain ⟨h1, h2, h3⟩ := get hx
    obtain ⟨g0, vs', es', k1, k2, k3⟩ := s.st n x h1
    rw [List.getElem?_append_left h2] at k1
    rw [upd_ne h3]
    exact ⟨g0, vs', es', k1, k2, dpa_mono sm _ _ k3⟩
end

/-! ### the def's rule -/
def ρ0 (args : Rho) (n : Nat) : Rho := args ++ List.replicate n .un
theorem fun_okA {P : Program} {w : World} {K : PySem.W.Frag} {mg : Str → Option Value} {base : Heap} {x qual : Str} {st : Stmt} {f : Addr} {fd : FuncData} {N ps : List Str} {k n m : Nat} {G : Rho → Sto → Rs → Sto → Prop} (F : Fun K x qual st f fd) (S : FnScope N ps (defScope st)) (hn : ps.length = n) (hm : N.length = n + m)
    (hG : ∀ ρ S r S', G ρ S r S' → S'.length = S.length ∧ notMu r = true)
    (hbody : ∀ (cdv : Value) (A : Around) (outer : List Env) (s : Shared) (H : Hp) (E : XK), Room k (A.deeper (envOfC qual (defScope st) s.heap.objs.size f cdv)) →
      ∃ t, PSs (cxOf CX0 P w K mg base N qual (defScope st) f cdv A outer s H E).nox (defBody st) t ∧ ∀ ρ S r S', ρ.length = n → G ρ S r S' → As K S.length t ⟨fun _ S2 => RsLe (.v .none) r ∧ S2.take S.length = S', fun r2 S2 => RsLe r2 r ∧ S2.take S.length = S', fun _ _ => False, fun _ _ => False⟩ (ρ0 ρ m) S) :
    FnOk P w K mg base CX0 (k + 1) f fd ps (spA K n G) := by
  refine F.ok S (fun vs H Q E h => h.1.trans hn.symm) (fun cdv A outer s H vs Q E hr h => ?_)
  obtain ⟨t, ht, ha⟩ := hbody cdv A outer s H E hr
  refine ⟨t, ht, ?_⟩
  obtain ⟨hl, F, L, ρ, S, r, S', e, hρ, so, g, q⟩ := h
  obtain ⟨hS, hr'⟩ := hG ρ S r S' g
  have rest : ∀ {L' F' H'} {v : V} {r2 : Rs} {S2 : Sto}, Bs S.length L F H L' F' H' → SOk K F' H' L' S2 → RsOk K L F' H H' v r2 → RsLe r2 r → S2.take S.length = S' → Q v H' := fun {L' F' H' v r2 S2} b s2 rr rl es => by
    have so' : SOk K F' H' L S' := by
      obtain ⟨R, rfl⟩ := b.pre
      refine ⟨s2.sub, by rw [so.len, hS], (List.nodup_append.mp s2.nd).1, fun n a hn => ?_⟩
      have hnl := (List.getElem?_eq_some_iff.mp hn).1
      obtain ⟨g0, ws, xs, e1, e2, e3⟩ := s2.st n a (by rw [List.getElem?_append_left hnl]; exact hn)
      refine ⟨g0, ws, xs, ?_, e2, e3⟩
      rw [← es, List.getElem?_take, if_pos (by rw [← so.len]; exact hnl)]
      exact e1
    rcases rl with rfl | ⟨ds, rfl, rfl⟩
    · exact q v F' H' b.stp so' rr
    · obtain ⟨a, vs, rfl, h0, hf, hh, hd⟩ := rr
      obtain ⟨x1, x2, x3⟩ := freeze b.stp so so' h0 hf hh hd
      exact q _ _ _ x1 x2 x3
  refine ha ρ S r S' hρ g L F H (L2.start N vs) F H L ⟨so.len, .refl _ _ _, ⟨[], by simp⟩, fun a h => .inl h⟩ ?_ so _ ⟨fun σ F' H' L' ρ' S2 b e s h => rest (r2 := .v .none) b s (show Dp K F' .non .none from .non) h.1 h.2, fun _ _ _ _ _ _ _ _ _ h => h.elim, fun _ _ _ _ _ _ _ _ _ h => h.elim, fun v F' H' L' r2 S2 m b s rr h => rest (r2 := r2) b s rr h.1 h.2⟩
  intro i en hi
  unfold ρ0 at hi
  unfold L2.start
  have hlen : (vs.map some).length = n := by simp [hl]
  rw [List.getElem?_append] at hi ⊢
  rw [hlen]
  rw [hρ] at hi
  split at hi
  · rename_i hlt
    rw [if_pos hlt]
    exact e i en hi
  · rename_i hlt
    rw [if_neg hlt]
    rw [hl, hm, Nat.add_sub_cancel_left]
    rw [List.getElem?_replicate] at hi ⊢
    split at hi
    · rename_i h2
      rw [if_pos h2]
      cases hi
      exact ⟨none, rfl, trivial⟩
    · cases hi
end DL
end

section
set_option Elab.async false
set_option linter.all false
set_option maxRecDepth 100000
set_option maxHeartbeats 4000000
namespace DL
open PySem PySem.Spec PyProof.Rows L2

theorem fn_never {P : Program} {w : World} {K : PySem.W.Frag} {mg : Str → Option Value} {base : Heap} {f : Addr} {fd : FuncData} {ps : List Str} {k n : Nat} {G : Rho → Sto → Rs → Sto → Prop} (h : ∀ ρ S r S', G ρ S r S' → False) : FnOk P w K mg base CX0 k f fd ps (spA K n G) :=
  ⟨fun vs H Q E q => by
    obtain ⟨_, _, _, _, _, _, _, _, _, _, g, _⟩ := q
    exact (h _ _ _ _ g).elim, fun A outer s H args us vs Q E hr he hb hv q => by
    obtain ⟨_, _, _, _, _, _, _, _, _, _, g, _⟩ := q
    exact (h _ _ _ _ g).elim⟩
theorem dpa_ints {K : PySem.W.Frag} {H : Hp} : ∀ ns : List Int, DpAll K H (ns.map V.int) (ns.map PyData.int)
  | [] => .nil
  | n :: ns => .cons (.int n) (dpa_ints ns)
theorem law_script {K : PySem.W.Frag} {G : Rho → Sto → Rs → Sto → Prop} {H : Hp} {a : Addr} {ns : List Int} {E : XK} (hS : SqL K H a (ns.map V.int)) (g : G [.dt (.list (ns.map PyData.int))] [] (.v (.bool true)) []) : spA K 1 G [.ref a] H (fun v _ => v = .bl true) E :=
  ⟨rfl, H, [], _, [], .v (.bool true), [], fun i e h => by
    cases i with
    | zero =>
      cases h
      exact ⟨_, rfl, _, rfl, .lst hS (dpa_ints ns)⟩
    | succ i => simp at h, rfl, ⟨Same.refl _, rfl, .nil, fun n a e => by simp at e⟩, g, fun v F' H' st s' r => by
    have r' : Dp K F' v (.bool true) := r
    cases r'
    rfl⟩
/-! sorted of a list of pairs of ints, wherever the pairs stand -/
def rSortedPS (K : PySem.W.Frag) : List V → Hp → VK → Prop := fun vs H Q => ∃ (a : Addr) (xs : List V) (ps : List (Int × Int)) (R : V → Int × Int → Prop), vs = [V.ref a] ∧ SqL K H a xs ∧ Paired R xs ps ∧ (∀ x p, R x p → ∃ t, x = V.ref t ∧ SqT K H t [.int p.1, .int p.2]) ∧
  ∀ ys qs p, Paired R ys qs → qs.Perm ps → qs.Pairwise (fun x y => x.1 < y.1 ∨ (x.1 = y.1 ∧ x.2 ≤ y.2)) → H p = none → Q (.ref p) (upd H p (.lst ys))
theorem paired_map {α β : Type} {R : α → β → Prop} {k : α → β} : ∀ {xs : List α}, (∀ x ∈ xs, R x (k x)) → Paired R xs (xs.map k)
  | [], _ => .nil
  | x :: xs, h => .cons (h x List.mem_cons_self) (paired_map fun y hy => h y (List.mem_cons_of_mem _ hy))
section
variable {X : Cx}
theorem cr_sortedPS : CallR X (.builtin "sorted") (rSortedPS X.K) := by
  intro pins s σ H vs us Q I r h
  obtain ⟨a, xs, ps, R, rfl, hs, hR, hRt, q⟩ := h
  have hx : Paired (fun x (p : Int × Int) => ∃ t, x = V.ref t ∧ SqT X.K H t [.int p.1, .int p.2]) xs ps := L2.Paired.mapP hR hRt
  obtain ⟨its, rv, hl, hz⟩ := I.list hs
  obtain ⟨u, rfl, ru⟩ := vals1 r
  obtain rfl : u = Value.ref a := ru
  have ex : ∀ x ∈ xs, ∃ t p, x = V.ref t ∧ SqT X.K H t [.int p.1, .int (p : Int × Int).2] := by
    intro x m
    clear rv hl hz hs q hR
    induction hx with
    | nil => cases m
    | cons h1 h2 ih =>
      rcases List.mem_cons.mp m with e | m
      · subst e
        obtain ⟨t, h3, h4⟩ := h1
        exact ⟨t, _, h3, h4⟩
      · exact ih m
  obtain ⟨e1, e2⟩ := refs_back rv fun x m => by
    obtain ⟨t, _, e, _⟩ := ex x m
    exact ⟨t, e⟩
  -- the pair of a value
  let kk : V → Int × Int := fun x => open Classical in if h : ∃ t p, x = V.ref t ∧ SqT X.K H t [.int p.1, .int (p : Int × Int).2] then h.choose_spec.choose else (0, 0)
  have kspec : ∀ x ∈ xs, ∃ t, x = V.ref t ∧ SqT X.K H t [.int (kk x).1, .int (kk x).2] := fun x m => by
    have h := ex x m
    have e : kk x = h.choose_spec.choose := by
      show (open Classical in if h : ∃ t p, x = V.ref t ∧ SqT X.K H t [.int p.1, .int (p : Int × Int).2] then h.choose_spec.choose else (0, 0)) = _
      rw [dif_pos h]
    rw [e]
    exact ⟨h.choose, h.choose_spec.choose_spec⟩
  have kps : ps = xs.map kk := by
    clear rv hl hz hs q e1 e2 hR
    induction hx with
    | nil => rfl
    | @cons x p xs ps h1 h2 ih =>
      rw [List.map_cons, ih (fun y hy => ex y (List.mem_cons_of_mem _ hy)) (fun y hy => kspec y (List.mem_cons_of_mem _ hy))]
      congr 1
      obtain ⟨t, e, h3⟩ := h1
      obtain ⟨t', e', h4⟩ := kspec x List.mem_cons_self
      rw [e] at e'
      cases e'
      have := I.tuple_inj h3 h4
      injection this with a b
      injection b with b c
      injection a with a
      injection b with b
      exact Prod.ext a b
  have kR : ∀ x ∈ xs, R x (kk x) := by
    rw [kps] at hR
    clear rv hl hz hs q e1 e2 hx kps ex kspec
    intro x m
    revert hR
    induction xs with
    | nil => cases m
    | cons y ys ih =>
      intro hR
      cases hR with
      | cons h1 h2 =>
        rcases List.mem_cons.mp m with e | m
        · rw [e]; exact h1
        · exact ih m h2
  refine SrtO.sorted_pairsO (k := fun u => kk (backV u)) hl.isList (by rw [← rv.length]; exact hz) (fun v hv => ?_) fun h' d out h1 h2 kp hd hn => ?_
  · obtain ⟨t, rfl⟩ := e2 v hv
    have hm : V.ref t ∈ xs := by rw [e1]; exact List.mem_map.mpr ⟨_, hv, rfl⟩
    obtain ⟨t', e, ht⟩ := kspec _ hm
    cases e
    obtain ⟨its2, r2, ⟨o, ho, hc, n, hd⟩, _⟩ := I.tuple ht
    obtain ⟨u1, u2, rfl, ri, rj⟩ := vals2 r2
    obtain ⟨t1, rfl⟩ := ri
    obtain ⟨t2, rfl⟩ := rj
    exact ⟨t, o, t1, t2, n, rfl, ho, hc, hd⟩
  · have h3 : ∀ u ∈ out, ∃ a, u = Value.ref a := fun u hu => e2 u (h2.perm.mem_iff.mp hu)
    obtain ⟨n, hn⟩ := hn
    have hperm : (out.map backV).Perm xs := by
      rw [e1]
      exact h2.perm.map backV
    refine ⟨.ref d, upd H d (.lst (out.map backV)), I.laid (t' := s.toks) kp hd ⟨?_, out, n, vals_back h3, hn⟩, rfl, ?_⟩
    · rw [hperm.length_eq]
      exact hz
    · refine q (out.map backV) ((out.map backV).map kk) d (paired_map fun x hx => kR x (hperm.mem_iff.mp hx)) ?_ ?_ (I.hok.fresh hd)
      · rw [kps]
        exact hperm.map kk
      · rw [List.map_map]
        refine List.pairwise_map.mpr (h1.imp fun {v u} hvu => ?_)
        have := SrtO.lexB_no.mp hvu
        show (kk (backV v)).1 < (kk (backV u)).1 ∨ _
        simp only [Function.comp]
        omega
end
def encP (p : Int × Int) : D := .tuple [.int p.1, .int p.2]
def lexP (x y : Int × Int) : Prop := x.1 < y.1 ∨ (x.1 = y.1 ∧ x.2 ≤ y.2)
section
variable {K : PySem.W.Frag} {ρ : Rho} {S S1 S2 S3 : Sto} {ta tb tc te : TE} {t u : TT} {tr : TA} {d e f : D} {r r1 r2 : Rs} {ds es as bs : List D}
theorem dpa_pairs {F : Hp} : ∀ {xs : List V} {ps : List (Int × Int)}, DpAll K F xs (ps.map encP) → Paired (fun x (p : Int × Int) => ∃ t, x = V.ref t ∧ SqT K F t [.int p.1, .int p.2]) xs ps
  | _, [], .nil => .nil
  | _, p :: ps, .cons h1 h2 => .cons (by
      have h1' : Dp K F _ (.tuple [.int p.1, .int p.2]) := h1
      cases h1' with
      | tup k1 k2 =>
        obtain ⟨v, w, rfl, a, b⟩ := dpa2 k2
        cases a; cases b
        exact ⟨_, rfl, k1⟩) (dpa_pairs h2)
theorem pairs_dpa {F : Hp} : ∀ {xs : List V} {ps : List (Int × Int)}, Paired (fun x (p : Int × Int) => ∃ t, x = V.ref t ∧ SqT K F t [.int p.1, .int p.2]) xs ps → DpAll K F xs (ps.map encP)
  | _, _, .nil => .nil
  | _, _, .cons h1 h2 => .cons (by
      obtain ⟨t, rfl, h⟩ := h1
      exact .tup h (.cons (.int _) (.cons (.int _) .nil))) (pairs_dpa h2)
/-- sorted(ps), ps a list of pairs that is data -/
theorem ev_sortedP {ps qs : List (Int × Int)} (h : Ev K ρ S te (.v (.list (ps.map encP))) S1) (hp : qs.Perm ps) (hq : qs.Pairwise lexP) : Ev K ρ S (tCB (rSortedPS K) (tCons te tNil)) (.nl (qs.map encP)) S1 := fun σ F H L E s Q q =>
  h σ F H L E s _ fun v F1 H1 st1 s1 r1 => by
    have r1' : Dp K F1 v (.list (ps.map encP)) := r1
    cases r1' with
    | lst h1 h2 =>
      rename_i a xs
      refine ⟨a, xs, ps, fun x p => ∃ t, x = V.ref t ∧ SqT K F1 t [.int p.1, .int p.2], rfl, s1.sub.seq h1, dpa_pairs h2, fun x p ⟨t, e, k⟩ => ⟨t, e, sqt_mono s1.sub k⟩, fun ys qs' p hy pm pw hn => ?_⟩
      have e : qs' = qs := List.Perm.eq_of_pairwise (le := lexP) (fun x y _ _ a b => by
        unfold lexP at a b
        exact Prod.ext (by omega) (by omega)) pw hq (pm.trans hp.symm)
      subst e
      obtain ⟨x1, x2, x3⟩ := new_lst (L := L) s1 (pairs_dpa hy) hn
      exact q _ _ _ (st1.trans x1) x2 (x3.back st1)
/-! lists put together -/
def LsAt (S : Sto) (r : Rs) (ds : List D) : Prop := r = .nl ds ∨ ∃ n, r = .mu n ∧ S[n]? = some ds
theorem ls_at {L : List Addr} {F0 H0 F1 H1 F2 H2 : Hp} {v : V} (s0 : SOk K F0 H0 L S) (st1 : Stp L F0 H0 F1 H1) (st2 : Stp L F1 H1 F2 H2) (s2 : SOk K F2 H2 L S2) (h : RsOk K L F1 H0 H1 v r) (q : LsAt S2 r ds) : ∃ a vs, v = .ref a ∧ H2 a = some (.lst vs) ∧ DpAll K F2 vs ds := by
  rcases q with rfl | ⟨n, rfl, e⟩
  · obtain ⟨a, vs, rfl, h0, h1, h2, h3⟩ := h
    refine ⟨a, vs, rfl, st2.keep _ _ h2 fun m => ?_, dpa_mono st2.fx _ _ h3⟩
    obtain ⟨n, hn⟩ := List.getElem?_of_mem m
    obtain ⟨_, _, _, _, e2, _⟩ := s0.st n a hn
    rw [h0] at e2
    cases e2
  · obtain ⟨a, rfl, ha⟩ := h
    obtain ⟨_, vs, xs, e1, e2, e3⟩ := s2.st n a ha
    rw [e] at e1
    cases e1
    exact ⟨a, vs, rfl, e2, e3⟩
theorem ev_cat (ha : Ev K ρ S ta r1 S1) (hb : Ev K ρ S1 tb r2 S2) (h1 : LsAt S2 r1 as) (h2 : LsAt S2 r2 bs) (hl : as.length + bs.length ≤ 100000) : Ev K ρ S (tOp rCat ta tb) (.nl (as ++ bs)) S2 := fun σ F H L E s Q q =>
  ha σ F H L E s _ fun x F1 H1 st1 s1 q1 => hb σ F1 H1 L (E.mono0 st1.fx) s1 _ fun y F2 H2 st2 s2 q2 => by
    obtain ⟨a, vs, rfl, e1, e2⟩ := ls_at s st1 st2 s2 q1 h1
    obtain ⟨b, ws, rfl, e3, e4⟩ := ls_at s1 st2 (.refl _ _ _) s2 q2 h2
    refine ⟨a, b, vs, ws, rfl, rfl, e1, e3, by rw [dpa_len e2, dpa_len e4]; exact small5 hl, fun p hp => ?_⟩
    obtain ⟨x1, x2, x3⟩ := new_lst (L := L) s2 (dpa_app e2 e4) hp
    exact q _ _ _ ((st1.trans st2).trans x1) x2 (x3.back (st1.trans st2))
theorem ed_star (h : Ev K ρ S te r S1) (hn : notNl r = true) (hq : RdSq S2 r ds) (hr : EvD K ρ S1 tr es S2) (hm : notMu r = true) : EvD K ρ S (StX.tStar K te tr) (ds ++ es) S2 := fun σ F H L E s Q q =>
  h σ F H L E s _ fun v F1 H1 st1 s1 r1 => by
    have hq1 : RdSq S1 r ds := by
      rcases hq with e | e | ⟨n, e, _⟩
      · exact .inl e
      · exact .inr (.inl e)
      · subst e; cases hm
    obtain ⟨a, vs, rfl, hs, hd⟩ := rd_sq (H0 := H) s1 (r1.pers (Same.refl _) hn) hq1
    exact ⟨a, vs, rfl, hs.symm, hr σ F1 H1 L (E.mono0 st1.fx) s1 _ fun ws F2 H2 st2 s2 r2 => q _ F2 H2 (st1.trans st2) s2 (dpa_app (dpa_mono st2.fx _ _ hd) r2)⟩
theorem o_eqI {i j : Int} : Op2 K rEq (.int i) (.int j) (.bool (decide (i = j))) := fun F H x y _ hx hy Q q => by
  cases hx; cases hy
  refine ⟨rfl, ?_⟩
  have : decide (V.int i = V.int j) = decide (i = j) := by simp
  rw [this]
  exact q _ (.bl _)
theorem o_neI {i j : Int} : Op2 K rNe (.int i) (.int j) (.bool (!decide (i = j))) := fun F H x y _ hx hy Q q => by
  cases hx; cases hy
  refine ⟨rfl, ?_⟩
  have : decide (V.int i = V.int j) = decide (i = j) := by simp
  rw [this]
  exact q _ (.bl _)
theorem o_eqB {i j : Bool} : Op2 K rEq (.bool i) (.bool j) (.bool (decide (i = j))) := fun F H x y _ hx hy Q q => by
  cases hx; cases hy
  refine ⟨rfl, ?_⟩
  have : decide (V.bl i = V.bl j) = decide (i = j) := by simp
  rw [this]
  exact q _ (.bl _)
theorem o_neB {i j : Bool} : Op2 K rNe (.bool i) (.bool j) (.bool (!decide (i = j))) := fun F H x y _ hx hy Q q => by
  cases hx; cases hy
  refine ⟨rfl, ?_⟩
  have : decide (V.bl i = V.bl j) = decide (i = j) := by simp
  rw [this]
  exact q _ (.bl _)
theorem o_eqS {i j : Str} : Op2 K rEq (.str i) (.str j) (.bool (decide (i = j))) := fun F H x y _ hx hy Q q => by
  cases hx; cases hy
  refine ⟨rfl, ?_⟩
  have : decide (V.str i = V.str j) = decide (i = j) := by simp
  rw [this]
  exact q _ (.bl _)
theorem o_neS {i j : Str} : Op2 K rNe (.str i) (.str j) (.bool (!decide (i = j))) := fun F H x y _ hx hy Q q => by
  cases hx; cases hy
  refine ⟨rfl, ?_⟩
  have : decide (V.str i = V.str j) = decide (i = j) := by simp
  rw [this]
  exact q _ (.bl _)
/-- None beside an int or a text -/
theorem o_eqN {j : Int} : Op2 K rEq .none (.int j) (.bool false) := fun F H x y _ hx hy Q q => by
  cases hx; cases hy
  refine ⟨rfl, ?_⟩
  have : decide (V.non = V.int j) = false := by simp
  rw [this]
  exact q _ (.bl _)
end
section
variable {K : PySem.W.Frag} {n0 : Nat} {A B : AE} {ρ : Rho} {S S1 S2 S3 : Sto} {ta tb tc te : TE} {t u : TT} {tr : TA} {d e f : D} {r : Rs} {ds es : List D} {ts tu tw : TS} {g : TG} {wi : TI} {chk : Sto → Prop}
/-- a statement with one end, then the rest -/
theorem as_seqJ {ρ1 : Rho} (h : As K n0 ts { A with nx := fun ρ S => ρ = ρ1 ∧ S = S1 } ρ S) (k : As K n0 tu A ρ1 S1) : As K n0 (tSeq ts tu) A ρ S :=
  as_seq (h.mono (fun _ _ ⟨a, b⟩ => by subst a; subst b; exact k) (fun _ _ h => h) (fun _ _ h => h) (fun _ _ h => h))
/-- a statement whose end is told by a word -/
theorem as_seqW {W : Rho → Sto → Prop} (h : As K n0 ts { A with nx := W } ρ S) (k : ∀ ρ1 S1, W ρ1 S1 → As K n0 tu A ρ1 S1) : As K n0 (tSeq ts tu) A ρ S :=
  as_seq (h.mono (fun _ _ a => k _ _ a) (fun _ _ h => h) (fun _ _ h => h) (fun _ _ h => h))
theorem as_ifT {b : Bool} (h : EvT K ρ S t b S1) (e : b = true) (h1 : As K n0 tu A ρ S1) : As K n0 (tIfS t tu tw) A ρ S := as_if h (fun _ => h1) (fun z => by rw [e] at z; cases z)
theorem as_ifF {b : Bool} (h : EvT K ρ S t b S1) (e : b = false) (h1 : As K n0 tw A ρ S1) : As K n0 (tIfS t tu tw) A ρ S := as_if h (fun z => by rw [e] at z; cases z) (fun _ => h1)
end
section
variable {K : PySem.W.Frag} {ρ : Rho} {S S1 : Sto} {te : TE} {d : D}
def isD_bool : D → Bool
  | .bool _ => true
  | _ => false
theorem ev_isi_bool (h : Ev K ρ S te (.v d) S1) : Ev K ρ S (tCB (rIsi K) (tCons te (tCons (tC (.ty "bool")) tNil))) (.v (.bool (isD_bool d))) S1 := ev_isi h (by
  cases d with
  | none => exact (show kitB "NoneType" "bool" = some false by decide +kernel)
  | bool _ => exact (show kitB "bool" "bool" = some true by decide +kernel)
  | int _ => exact (show kitB "int" "bool" = some false by decide +kernel)
  | str _ => exact (show kitB "str" "bool" = some false by decide +kernel)
  | list _ => exact (show kitB "list" "bool" = some false by decide +kernel)
  | tuple _ => exact (show kitB "tuple" "bool" = some false by decide +kernel)
  | dict _ => exact (show kitB "dict" "bool" = some false by decide +kernel))
def isD_int : D → Bool
  | .int _ => true
  | .bool _ => true
  | _ => false
theorem ev_isi_int (h : Ev K ρ S te (.v d) S1) : Ev K ρ S (tCB (rIsi K) (tCons te (tCons (tC (.ty "int")) tNil))) (.v (.bool (isD_int d))) S1 := ev_isi h (by
  cases d with
  | none => exact (show kitB "NoneType" "int" = some false by decide +kernel)
  | bool _ => exact (show kitB "bool" "int" = some true by decide +kernel)
  | int _ => exact (show kitB "int" "int" = some true by decide +kernel)
  | str _ => exact (show kitB "str" "int" = some false by decide +kernel)
  | list _ => exact (show kitB "list" "int" = some false by decide +kernel)
  | tuple _ => exact (show kitB "tuple" "int" = some false by decide +kernel)
  | dict _ => exact (show kitB "dict" "int" = some false by decide +kernel))
def isD_str : D → Bool
  | .str _ => true
  | _ => false
theorem ev_isi_str (h : Ev K ρ S te (.v d) S1) : Ev K ρ S (tCB (rIsi K) (tCons te (tCons (tC (.ty "str")) tNil))) (.v (.bool (isD_str d))) S1 := ev_isi h (by
  cases d with
  | none => exact (show kitB "NoneType" "str" = some false by decide +kernel)
  | bool _ => exact (show kitB "bool" "str" = some false by decide +kernel)
  | int _ => exact (show kitB "int" "str" = some false by decide +kernel)
  | str _ => exact (show kitB "str" "str" = some true by decide +kernel)
  | list _ => exact (show kitB "list" "str" = some false by decide +kernel)
  | tuple _ => exact (show kitB "tuple" "str" = some false by decide +kernel)
  | dict _ => exact (show kitB "dict" "str" = some false by decide +kernel))
def isD_tuple : D → Bool
  | .tuple _ => true
  | _ => false
theorem ev_isi_tuple (h : Ev K ρ S te (.v d) S1) : Ev K ρ S (tCB (rIsi K) (tCons te (tCons (tC (.ty "tuple")) tNil))) (.v (.bool (isD_tuple d))) S1 := ev_isi h (by
  cases d with
  | none => exact (show kitB "NoneType" "tuple" = some false by decide +kernel)
  | bool _ => exact (show kitB "bool" "tuple" = some false by decide +kernel)
  | int _ => exact (show kitB "int" "tuple" = some false by decide +kernel)
  | str _ => exact (show kitB "str" "tuple" = some false by decide +kernel)
  | list _ => exact (show kitB "list" "tuple" = some false by decide +kernel)
  | tuple _ => exact (show kitB "tuple" "tuple" = some true by decide +kernel)
  | dict _ => exact (show kitB "dict" "tuple" = some false by decide +kernel))
def isD_list : D → Bool
  | .list _ => true
  | _ => false
theorem ev_isi_list (h : Ev K ρ S te (.v d) S1) : Ev K ρ S (tCB (rIsi K) (tCons te (tCons (tC (.ty "list")) tNil))) (.v (.bool (isD_list d))) S1 := ev_isi h (by
  cases d with
  | none => exact (show kitB "NoneType" "list" = some false by decide +kernel)
  | bool _ => exact (show kitB "bool" "list" = some false by decide +kernel)
  | int _ => exact (show kitB "int" "list" = some false by decide +kernel)
  | str _ => exact (show kitB "str" "list" = some false by decide +kernel)
  | list _ => exact (show kitB "list" "list" = some true by decide +kernel)
  | tuple _ => exact (show kitB "tuple" "list" = some false by decide +kernel)
  | dict _ => exact (show kitB "dict" "list" = some false by decide +kernel))
end
section
variable {X : Cx} {K : PySem.W.Frag}
theorem ix_seqK (h : X.K = K) : IxR X (rIx K) := by subst h; exact ix_seq
theorem pt_truthK {a : Expr} {ta : TE} (h : X.K = K) (ha : PE X a ta) (he : ∀ whole, isTrue a X.env whole = (do let v ← whole; standAt a.pos; holding [v] (truthy v))) : PT X a (fun σ H Q => ta σ H fun x H' => ∃ k, TruV K x H' k ∧ Q k H') := by subst h; exact pt_truth ha he
theorem call_lenK (h : X.K = K) : CallR X (.builtin "len") (fun xs H Q => ∃ x n, xs = [x] ∧ LenV K x H n ∧ Q (.int n) H) := by subst h; exact call_len
theorem call_isiK (h : X.K = K) : CallR X (.builtin "isinstance") (rIsi K) := by subst h; exact call_isi
theorem call_list_ofK (h : X.K = K) : CallR X (.type "list") (fun xs H Q => ∃ p ys, xs = [.ref p] ∧ (SqL K H p ys ∨ SqT K H p ys) ∧ ∀ l, H l = none → Q (.ref l) (upd H l (.lst ys))) := by subst h; exact call_list_of
theorem call_tuple_ofK (h : X.K = K) : CallR X (.type "tuple") (fun xs H Q => ∃ p ys, xs = [.ref p] ∧ ((SqL K H p ys ∧ ∀ l, H l = none → Q (.ref l) (upd H l (.tup ys))) ∨ (SqT K H p ys ∧ Q (.ref p) H))) := by subst h; exact call_tuple_of
theorem op_in_seqK (h : X.K = K) : OpR X (compareOp .In) (rIn K false) := by subst h; exact op_in_seq
theorem op_notIn_seqK (h : X.K = K) : OpR X (compareOp .NotIn) (rIn K true) := by subst h; exact op_notIn_seq
theorem cr_sortedPSK (h : X.K = K) : CallR X (.builtin "sorted") (rSortedPS K) := by subst h; exact cr_sortedPS
theorem pi_seqK {tg l : Expr} {tl : TE} (h : X.K = K) (hl : PE X l tl) : PI X tg l (iSeq K tl) := by subst h; exact pi_seq hl
theorem pe_globD {x : Str} {pos : Pos} {v : V} {Pr : Prop} (hg : Gl X x) (h : ∃ u, X.mg x = some u ∧ RelV v u ∧ Pr) (hd : (x == ("__debug__" : Str)) = false := by decide) : PE X (.Name x pos) (tC v) := by
  obtain ⟨u, a, b, _⟩ := h
  exact pe_glob hg a b (hd := hd)
end
end DL
end

section
set_option Elab.async false
set_option linter.all false
set_option maxRecDepth 100000
set_option maxHeartbeats 4000000
namespace DL
open PySem PySem.Spec PyProof.Rows L2

/-! ### methods of lists -/
theorem put_l {K : PySem.W.Frag} {L : List Addr} {F H : Hp} {S : Sto} {ds : List D} {n : Nat} {a : Addr} {vs : List V} (s : SOk K F H L S) (ha : L[n]? = some a) (hd : DpAll K F vs ds) : Stp L F H F (upd H a (.lst vs)) ∧ SOk K F (upd H a (.lst vs)) L (S.set n ds) := by
  obtain ⟨f0, ws, xs, e1, e2, e3⟩ := s.st n a ha
  have hl : n < S.length := (List.getElem?_eq_some_iff.mp e1).1
  refine ⟨⟨Same.refl _, fun x o e nx => by
    rw [upd_ne (fun (z : x = a) => nx (by rw [z]; exact List.mem_of_getElem? ha))]
    exact e, fun x hx => by
      by_cases q : x = a
      · rw [q, upd_same]; exact nofun
      · rw [upd_ne q]; exact hx, fun x hx h => h⟩, ⟨fun x o e => ?_, by simp [s.len], s.nd, fun m x e => ?_⟩⟩
  · rw [upd_ne (ne_of_none e f0)]
    exact s.sub _ _ e
  · by_cases hnm : n = m
    · subst hnm
      rw [ha] at e
      cases e
      exact ⟨f0, vs, ds, List.getElem?_set_self hl, upd_same, hd⟩
    · obtain ⟨g0, ws', xs', k1, k2, k3⟩ := s.st m x e
      have hxa : x ≠ a := fun z => by
        subst z
        have h1 := List.getElem?_eq_some_iff.mp e
        have h2 := List.getElem?_eq_some_iff.mp ha
        exact hnm ((List.getElem_inj s.nd).mp (h2.2.trans h1.2.symm))
      exact ⟨g0, ws', xs', by rw [List.getElem?_set_ne hnm]; exact k1, by rw [upd_ne hxa]; exact k2, k3⟩
theorem ext_tup {l b : Addr} {xs ys : Array Value} {n m : Nat} {dct : Option Addr} {sl : Array (Option Value)} (h0 : ¬(!xs.isEmpty && Builtin.List.listTooLong (xs.size + ys.size)) = true) (h1 : xs.size ≤ sizeLine) (h2 : xs.size + ys.size ≤ sizeLine + 1) :
    Meets (Builtin.«list.extend» ⟨[.ref l, .ref b], []⟩) (fun _ R s =>
      s.heap.get? l = some { cls := .type "list", dict := none, data := .seq xs n, slots := #[] } ∧
      s.heap.get? b = some { cls := .type "tuple", dict := dct, data := .seq ys m, slots := sl } ∧
      R (.ok (.ret Value.none)) { s with heap := s.heap.update l (Obj.mapSeq fun x => x ++ ys), toks := s.toks }) :=
  .of_wp fun prog w A R s h => by
    obtain ⟨hp, g, d, tk, os⟩ := s
    obtain ⟨hl, hb, h⟩ := h
    have f1 := AutoSeq1.idx_int
    have f2 := AutoSeq1.sub_tuple_tuple
    have f3 := AutoSeq1.sub_list_list
    have f4 := AutoSeq1.sub_tuple_list
    have f5 := AutoSeq1.sub_list_tuple
    have hz : (xs ++ ys).size ≤ sizeLine + 1 := by
      rw [Array.size_append]
      exact h2
    wp_walk using (wpAny_updateSeq hl rfl (hz := h1) (_hz' := hz)), AutoSeq1.wpAny_loadPart' hl, AutoSeq1.wpAny_loadPart' hb
    exact ⟨_, rfl, h⟩
def rExtendT (K : PySem.W.Frag) : V → List V → Hp → VK → Prop := fun x vs H Q => ∃ l b xs zs, x = .ref l ∧ vs = [.ref b] ∧ H l = some (.lst xs) ∧ SqT K H b zs ∧ xs.length + zs.length ≤ sizeLine ∧ Q .non (upd H l (.lst (xs ++ zs)))
theorem mt_extendT {X : Cx} {K : PySem.W.Frag} (hX : X.K = K) : MtM X "list.extend" (rExtendT K) := by
  subst hX
  intro pins s σ H x vs v us Q I rx rv h
  obtain ⟨l, b, xs, zs, rfl, rfl, hH, hB, hz, q⟩ := h
  cases rx
  obtain ⟨u, rfl, ru⟩ := rv.one
  cases ru
  obtain ⟨z, its, n, r, hl, e⟩ := I.lstM hH
  obtain ⟨its2, r2, ⟨o2, ho2, hc2, n2, hd2⟩, hz2⟩ := I.tuple hB
  have hl2 := r2.length
  obtain ⟨oc, od, da, sl⟩ := o2
  cases hc2
  cases hd2
  have hsz : its.toArray.size + its2.toArray.size ≤ sizeLine := by rw [List.size_toArray, List.size_toArray]; omega
  have hlong : ¬ (!its.toArray.isEmpty && Builtin.List.listTooLong (its.toArray.size + its2.toArray.size)) = true := by
    rw [notLongL hsz, Bool.and_false]
    exact Bool.false_ne_true
  refine call_meets F.slot_list_extend ⟨_, e, rfl⟩ F.entry_list_extend (F.args_list_extend_2 _ _) (ext_tup (n := n) (m := n2) (dct := od) (sl := sl) hlong (by rw [List.size_toArray]; omega) (by omega)) ⟨e, ho2, ?_⟩
  refine ⟨.non, _, I.lset (its' := its ++ its2) hH e (by simp) (r.append r2) ?_, rfl, q⟩
  rw [List.length_append]
  omega
theorem dpa_rev {K : PySem.W.Frag} {F : Hp} : ∀ {vs : List V} {ds : List D}, DpAll K F vs ds → DpAll K F vs.reverse ds.reverse
  | _, _, .nil => .nil
  | _, _, .cons h1 h2 => by
    rw [List.reverse_cons, List.reverse_cons]
    exact dpa_app (dpa_rev h2) (.cons h1 .nil)
section
variable {K : PySem.W.Frag} {ρ : Rho} {S S1 S2 S3 : Sto} {ta tb tc te : TE} {d e f : D} {r : Rs} {ds es : List D}
theorem ev_pop {n : Nat} (ha : Ev K ρ S ta (.mu n) S1) (hd : S1[n]? = some (ds ++ [d])) : Ev K ρ S (tBM0 K "list" rPop ta) (.v d) (S1.set n ds) := fun σ F H L E s Q q =>
  ha σ F H L E s _ fun v F1 H1 st1 s1 r1 => by
    obtain ⟨a, rfl, ha⟩ := r1
    obtain ⟨f0, ws, xs, e1, e2, e3⟩ := s1.st n a ha
    rw [hd] at e1
    cases e1
    have hl := dpa_len e3
    rw [List.length_append, List.length_singleton] at hl
    obtain ⟨v, hv, hdp⟩ := dpa_get (i := ds.length) (d := d) e3 (by simp)
    have ht : DpAll K F1 ws.dropLast ds := by
      rw [List.dropLast_eq_take, hl]
      have := dpa_take ds.length e3
      rw [List.take_left' rfl] at this
      exact this
    obtain ⟨p1, p2⟩ := put_l s1 ha ht
    exact ⟨.inl ⟨rfl, ws, .inl (.inl e2)⟩, a, ws, v, rfl, rfl, e2, by rw [hl]; exact hv, q v F1 _ (st1.trans p1) p2 hdp⟩
theorem ev_rev {n : Nat} (ha : Ev K ρ S ta (.mu n) S1) (hd : S1[n]? = some ds) : Ev K ρ S (tBM0 K "list" rReverse ta) (.v .none) (S1.set n ds.reverse) := fun σ F H L E s Q q =>
  ha σ F H L E s _ fun v F1 H1 st1 s1 r1 => by
    obtain ⟨a, rfl, ha⟩ := r1
    obtain ⟨f0, ws, xs, e1, e2, e3⟩ := s1.st n a ha
    rw [hd] at e1
    cases e1
    have ht := dpa_rev e3
    obtain ⟨p1, p2⟩ := put_l s1 ha ht
    exact ⟨.inl ⟨rfl, ws, .inl (.inl e2)⟩, a, ws, rfl, rfl, e2, q .non F1 _ (st1.trans p1) p2 .non⟩
theorem ev_extT {n : Nat} (ha : Ev K ρ S ta (.mu n) S1) (hb : Ev K ρ S1 tb (.v (.tuple es)) S2) (hd : S2[n]? = some ds) (hl : ds.length + es.length ≤ 100000) : Ev K ρ S (tBM K "list" (rExtendT K) ta (tCons tb tNil)) (.v .none) (S2.set n (ds ++ es)) := fun σ F H L E s Q q =>
  ha σ F H L E s _ fun v F1 H1 st1 s1 r1 => by
    obtain ⟨a, rfl, ha⟩ := r1
    obtain ⟨_, ws1, xs1, _, e12, _⟩ := s1.st n a ha
    refine ⟨.inl ⟨rfl, ws1, .inl (.inl e12)⟩, hb σ F1 H1 L (E.mono0 st1.fx) s1 _ fun w F2 H2 st2 s2 r2 => ?_⟩
    obtain ⟨f0, ws, xs, e1, e2, e3⟩ := s2.st n a ha
    rw [hd] at e1
    cases e1
    have r2' : Dp K F2 w (.tuple es) := r2
    cases r2' with
    | tup h1 h2 =>
      obtain ⟨p1, p2⟩ := put_l s2 ha (dpa_app e3 h2)
      exact ⟨a, _, ws, _, rfl, rfl, e2, sqt_mono s2.sub h1, by rw [dpa_len e3, dpa_len h2]; exact small5 hl, q .non F2 _ ((st1.trans st2).trans p1) p2 .non⟩
theorem dpa_strs {F : Hp} : ∀ {vs : List V} {xs : List Str}, DpAll K F vs (xs.map PyData.str) → vs = xs.map V.str
  | _, [], .nil => rfl
  | _, x :: xs, .cons h1 h2 => by
    have h1' : Dp K F _ (.str x) := h1
    cases h1'
    rw [dpa_strs h2]
    rfl
theorem dpa_intsB {F : Hp} : ∀ {vs : List V} {xs : List Int}, DpAll K F vs (xs.map PyData.int) → vs = xs.map V.int
  | _, [], .nil => rfl
  | _, x :: xs, .cons h1 h2 => by
    have h1' : Dp K F _ (.int x) := h1
    cases h1'
    rw [dpa_intsB h2]
    rfl
theorem inV_str {x : Str} {xs : List Str} : inV (.str x) (xs.map V.str) = xs.any fun y => y == x := by
  unfold inV
  rw [List.any_map]
  rfl
theorem flat_strs {xs : List Str} : (xs.map V.str).all flatV = true := by simp [flatV]
theorem flat_ints {xs : List Int} : (xs.map V.int).all flatV = true := by simp [flatV]
theorem ev_inS {x : Str} {xs : List Str} (ha : Ev K ρ S ta (.v (.str x)) S1) (hb : Ev K ρ S1 tb (.v (.tuple (xs.map PyData.str))) S2) : Ev K ρ S (tOp (rIn K false) ta tb) (.v (.bool (xs.any fun y => y == x))) S2 :=
  ev_op ha hb fun F H u v sm hu hv Q q => by
    cases hu
    cases hv with
    | tup h1 h2 =>
      rename_i p vs
      have e := dpa_strs h2
      refine ⟨p, vs, rfl, .inr (sqt_mono sm h1), rfl, by rw [e]; exact flat_strs, ?_⟩
      rw [e, inV_str]
      exact q _ (.bl _)
theorem ev_notInS {x : Str} {xs : List Str} (ha : Ev K ρ S ta (.v (.str x)) S1) (hb : Ev K ρ S1 tb (.v (.tuple (xs.map PyData.str))) S2) : Ev K ρ S (tOp (rIn K true) ta tb) (.v (.bool (!xs.any fun y => y == x))) S2 :=
  ev_op ha hb fun F H u v sm hu hv Q q => by
    cases hu
    cases hv with
    | tup h1 h2 =>
      rename_i p vs
      have e := dpa_strs h2
      refine ⟨p, vs, rfl, .inr (sqt_mono sm h1), rfl, by rw [e]; exact flat_strs, ?_⟩
      rw [e, inV_str]
      exact q _ (.bl _)
theorem ev_sortedI {ns ms : List Int} (h : Ev K ρ S te (.v (.list (ns.map PyData.int))) S1) (hp : ms.Perm ns) (hs : ms.Pairwise (· ≤ ·)) : Ev K ρ S (tCB (rSortedI K) (tCons te tNil)) (.nl (ms.map PyData.int)) S1 := fun σ F H L E s Q q =>
  h σ F H L E s _ fun v F1 H1 st1 s1 r1 => by
    have r1' : Dp K F1 v (.list (ns.map PyData.int)) := r1
    cases r1' with
    | lst h1 h2 =>
      rename_i a xs
      have e := dpa_intsB h2
      subst e
      refine ⟨a, ns, rfl, s1.sub.seq h1, fun ns' p pm pw hn => ?_⟩
      have e2 : ns' = ms := List.Perm.eq_of_pairwise (le := (· ≤ ·)) (fun x y _ _ a b => by omega) pw hs (pm.trans hp.symm)
      subst e2
      obtain ⟨x1, x2, x3⟩ := new_lst (L := L) s1 (dpa_ints ns') hn
      exact q _ _ _ (st1.trans x1) x2 (x3.back st1)
theorem ev_listRg1 {n : Int} (h : Ev K ρ S te (.v (.int n)) S1) (hn : 0 ≤ n ∧ n ≤ 100000) : Ev K ρ S (tLstRg (tRg1 te)) (.nl (rngD 0 n.toNat)) S1 := fun σ F H L E s Q q =>
  h σ F H L E s _ fun v F1 H1 st1 s1 r1 => by
    cases r1
    refine ⟨n, rfl, RgOk.of_le (by decide) (by omega) (by decide) hn.1, fun p hp => ?_⟩
    have hd : DpAll K F1 (rgV 0 n) (rngD 0 n.toNat) := by
      have e1 : rgV 0 n = ((List.range n.toNat).map fun (i : Nat) => (0 : Int) + (i : Int)).map V.int := by
        unfold rgV
        rw [List.map_map, Int.sub_zero]
        rfl
      have e2 : rngD 0 n.toNat = ((List.range n.toNat).map fun (i : Nat) => (0 : Int) + (i : Int)).map PyData.int := by
        unfold rngD
        rw [List.map_map]
        rfl
      rw [e1, e2]
      exact dpa_ints _
    obtain ⟨x1, x2, x3⟩ := new_lst (L := L) s1 hd hp
    exact q _ _ _ (st1.trans x1) x2 (x3.back st1)
end
section
variable {X : Cx} {K : PySem.W.Frag} {o e : Expr} {es : List Expr} {to : TE} {t : TA} {name : Str} {apos cpos : Pos} {T id : String} {r : V → List V → Hp → VK → Prop}
theorem pe_bm0E (hX : X.K = K) (pa : PlainAttrs T) (slot : Slot T name id) (hty : typeOf (.builtin id) = pure (.type "method_descriptor")) (hm : MtR X id r) (ho : PE X o to)
    (h1 : attributeBase o name X.env (eval o X.env) = eval o X.env := by rfl) (h2 : (apos.endLine == cpos.line) = true := by rfl) : PE X (.Call (.Attribute o name apos) [] [] cpos) (tBM0 K T r to) := by
  subst hX
  exact pe_bm0 pa slot hty hm ho h1 h2
theorem pe_bmE (hX : X.K = K) (pa : PlainAttrs T) (slot : Slot T name id) (hty : typeOf (.builtin id) = pure (.type "method_descriptor")) (hm : MtR X id r) (ho : PE X o to) (ha : PA X (e :: es) t)
    (h1 : attributeBase o name X.env (eval o X.env) = eval o X.env := by rfl)
    (h2 : ((backTo cpos (starEach (e :: es) X.env)).all (fun x => !x.1) && (backToKw cpos (keywordEach [] X.env)).all (fun x => x.1.isSome)
      && decide ((e :: es).length + ([] : List Keyword).length + (if ([] : List Keyword).isEmpty then 0 else 1) < 30)) = true := by rfl)
    (h3 : (apos.endLine == cpos.line) = true := by rfl) (h4 : starEach (e :: es) X.env = (false, eval e X.env) :: starEach es X.env := by rfl) (h5 : (backTo cpos (starEach es X.env)).any (·.1) = false := by rfl) :
    PE X (.Call (.Attribute o name apos) (e :: es) [] cpos) (tBM K T r to t) := by
  subst hX
  exact pe_bm pa slot hty hm ho ha h1 h2 h3 h4 h5
theorem cr_sortedIK (h : X.K = K) : CallR X (.builtin "sorted") (rSortedI K) := by subst h; exact cr_sortedI
end
section
variable {a b c d e : D} {xs : List D}
theorem atI_0 : atI (a :: xs) 0 = some a := show atI _ ((0 : Nat) : Int) = _ from atI_nat rfl
theorem atI_1 : atI (a :: b :: xs) 1 = some b := show atI _ ((1 : Nat) : Int) = _ from atI_nat rfl
theorem atI_2 : atI (a :: b :: c :: xs) 2 = some c := show atI _ ((2 : Nat) : Int) = _ from atI_nat rfl
theorem atI_3 : atI (a :: b :: c :: d :: xs) 3 = some d := show atI _ ((3 : Nat) : Int) = _ from atI_nat rfl
end
end DL
end

section
set_option linter.all false
namespace Lw
/-! ### sets of codes: lists of pairs -/
abbrev PL := List (Int × Int)
def inP (ps : PL) (c : Int) : Bool := ps.any fun p => decide (p.1 ≤ c) && decide (c < p.2)
structure Can (ps : PL) : Prop where
  pw : ps.Pairwise fun p q => p.2 < q.1
  bd : ∀ p ∈ ps, 0 ≤ p.1 ∧ p.1 < p.2 ∧ p.2 ≤ 128
theorem inP_iff {ps : PL} {c : Int} : inP ps c = true ↔ ∃ p ∈ ps, p.1 ≤ c ∧ c < p.2 := by
  simp [inP]
theorem inP_false {ps : PL} {c : Int} : inP ps c = false ↔ ∀ p ∈ ps, ¬ (p.1 ≤ c ∧ c < p.2) := by
  rw [← Bool.not_eq_true, inP_iff]
  constructor
  · intro h p hp hc; exact h ⟨p, hp, hc⟩
  · rintro h ⟨p, hp, hc⟩; exact h p hp hc
theorem inP_nil {c : Int} : inP [] c = false := rfl
theorem inP_cons {p : Int × Int} {ps : PL} {c : Int} : inP (p :: ps) c = (decide (p.1 ≤ c) && decide (c < p.2) || inP ps c) := rfl
theorem inP_app {ps qs : PL} {c : Int} : inP (ps ++ qs) c = (inP ps c || inP qs c) := by simp [inP]
theorem Can.tail {p : Int × Int} {ps : PL} (h : Can (p :: ps)) : Can ps := ⟨(List.pairwise_cons.mp h.pw).2, fun q hq => h.bd q (List.mem_cons_of_mem _ hq)⟩
theorem Can.first {p : Int × Int} {ps : PL} (h : Can (p :: ps)) : ∀ q ∈ ps, p.2 < q.1 := (List.pairwise_cons.mp h.pw).1
theorem can_eq : ∀ {ps qs : PL}, Can ps → Can qs → (∀ c, inP ps c = inP qs c) → ps = qs
  | [], [], _, _, _ => rfl
  | [], q :: qs, _, hq, h => by
    have hb := hq.bd q List.mem_cons_self
    have := h q.1
    rw [inP_nil] at this
    have h2 := (inP_false.mp this.symm) q List.mem_cons_self
    omega
  | p :: ps, [], hp, _, h => by
    have hb := hp.bd p List.mem_cons_self
    have := h p.1
    rw [inP_nil] at this
    have h2 := (inP_false.mp this) p List.mem_cons_self
    omega
  | p :: ps, q :: qs, hp, hq, h => by
    have bp := hp.bd p List.mem_cons_self
    have bq := hq.bd q List.mem_cons_self
    have fp := hp.first
    have fq := hq.first
    have mp : ∀ c, inP (p :: ps) c = true → p.1 ≤ c := fun c hc => by
      obtain ⟨r, hr, h1, h2⟩ := inP_iff.mp hc
      rcases List.mem_cons.mp hr with e | m
      · rw [← e]; exact h1
      · have := fp r m; omega
    have mq : ∀ c, inP (q :: qs) c = true → q.1 ≤ c := fun c hc => by
      obtain ⟨r, hr, h1, h2⟩ := inP_iff.mp hc
      rcases List.mem_cons.mp hr with e | m
      · rw [← e]; exact h1
      · have := fq r m; omega
    have e1 : p.1 = q.1 := by
      have a := mq p.1 (by rw [← h]; exact inP_iff.mpr ⟨p, List.mem_cons_self, by omega, by omega⟩)
      have b := mp q.1 (by rw [h]; exact inP_iff.mpr ⟨q, List.mem_cons_self, by omega, by omega⟩)
      omega
    have np : inP (p :: ps) p.2 = false := inP_false.mpr fun r hr => by
      rcases List.mem_cons.mp hr with e | m
      · rw [e]; omega
      · have := fp r m; omega
    have nq : inP (q :: qs) q.2 = false := inP_false.mpr fun r hr => by
      rcases List.mem_cons.mp hr with e | m
      · rw [e]; omega
      · have := fq r m; omega
    have e2 : p.2 = q.2 := by
      have a := inP_false.mp (h p.2 ▸ np) q List.mem_cons_self
      have b := inP_false.mp ((h q.2).symm ▸ nq) p List.mem_cons_self
      omega
    have epq : p = q := Prod.ext e1 e2
    subst epq
    rw [can_eq hp.tail hq.tail fun c => by
      have hc := h c
      rw [inP_cons, inP_cons] at hc
      by_cases hcp : c < p.2
      · have a : inP ps c = false := inP_false.mpr fun r hr => by have := fp r hr; omega
        have b : inP qs c = false := inP_false.mpr fun r hr => by have := fq r hr; omega
        rw [a, b]
      · have : decide (c < p.2) = false := by simpa using hcp
        rw [this, Bool.and_false, Bool.false_or, Bool.false_or] at hc
        exact hc]
/-! ranges of bits -/
def bit (bs : List Bool) (c : Int) : Bool := decide (0 ≤ c) && decide (c < 128) && bs.getD c.toNat false
def rgStep (bs : List Bool) (s : PL × Int) (c : Int) : PL × Int :=
  let i := decide (c < 128) && bs.getD c.toNat false
  let st := if i && decide (s.2 < 0) then c else s.2
  if !i && decide (0 ≤ st) then (s.1 ++ [(st, c)], -1) else (s.1, st)
def rgTo (bs : List Bool) : Nat → PL × Int
  | 0 => ([], -1)
  | n + 1 => rgStep bs (rgTo bs n) (n : Int)
def rgOf (bs : List Bool) : PL := (rgTo bs 129).1
structure RgI (bs : List Bool) (n : Nat) (s : PL × Int) : Prop where
  can : Can s.1
  st : (s.2 = -1 ∧ ∀ p ∈ s.1, p.2 < (n : Int)) ∨ (0 ≤ s.2 ∧ s.2 < (n : Int) ∧ (n : Int) ≤ 128 ∧ (∀ p ∈ s.1, p.2 < s.2) ∧ ∀ c, s.2 ≤ c → c < (n : Int) → bit bs c = true)
  mem : ∀ c, inP s.1 c = (decide (c < (n : Int)) && (decide (s.2 < 0) || decide (c < s.2)) && bit bs c)
theorem rgI (bs : List Bool) : ∀ n : Nat, n ≤ 129 → RgI bs n (rgTo bs n)
  | 0, _ => ⟨⟨List.Pairwise.nil, fun p h => by cases h⟩, .inl ⟨rfl, fun p h => by cases h⟩, fun c => by
      show inP [] c = _
      rw [inP_nil]
      by_cases h : c < 0
      · have : bit bs c = false := by simp [bit]; omega
        rw [this]; simp
      · have : decide (c < ((0 : Nat) : Int)) = false := by simpa using h
        rw [this]; simp⟩
  | n + 1, hn => by
    have ih := rgI bs n (by omega)
    show RgI bs (n + 1) (rgStep bs (rgTo bs n) (n : Int))
    generalize rgTo bs n = s at ih
    obtain ⟨ps, st⟩ := s
    have hi : (decide ((n : Int) < 128) && bs.getD (n : Int).toNat false) = bit bs (n : Int) := by
      simp [bit]
    unfold rgStep
    dsimp only
    rw [hi]
    have can := ih.can
    have mem := ih.mem
    dsimp only at can mem
    cases hb : bit bs (n : Int) with
    | true =>
      have hn128 : (n : Int) < 128 := by
        unfold bit at hb
        simp only [Bool.and_eq_true, decide_eq_true_eq] at hb
        omega
      rcases ih.st with ⟨h1, h2⟩ | ⟨h1, h2, h3, h4, h5⟩
      · dsimp only at h1 h2
        subst h1
        simp only [Bool.true_and, Bool.not_true, Bool.false_and]
        refine ⟨can, .inr ⟨?_, ?_, ?_, ?_, ?_⟩, ?_⟩
        · simp
        · simp; omega
        · simp; omega
        · simp only [show decide ((-1 : Int) < 0) = true from rfl, if_true]; exact h2
        · intro c c1 c2
          simp at c1 c2
          have : c = n := by omega
          rw [this]; exact hb
        · intro c
          rw [if_neg (by simp)]
          show inP ps c = _
          rw [mem]
          dsimp only
          simp only [show decide ((-1 : Int) < 0) = true from rfl, if_true, Bool.true_or]
          by_cases hc : c < n
          · have a : decide (c < (n : Int)) = true := by simpa using hc
            have b : decide (c < ((n + 1 : Nat) : Int)) = true := by simp; omega
            rw [a, b]
            simp
          · have a : decide (c < (n : Int)) = false := by simpa using hc
            have d : decide ((n : Int) < 0) = false := by simp
            rw [a, d]
            simp
      · dsimp only at h1 h2 h3 h4 h5
        have hd : decide (st < 0) = false := by simp; omega
        simp only [Bool.true_and, Bool.not_true, Bool.false_and, hd, Bool.false_eq_true, if_false]
        refine ⟨can, .inr ⟨h1, by simp; omega, by simp; omega, h4, fun c c1 c2 => ?_⟩, fun c => ?_⟩
        · by_cases hc : c < n
          · exact h5 c c1 hc
          · simp at c2
            have : c = n := by omega
            rw [this]; exact hb
        · dsimp only
          rw [mem]
          rw [hd]
          by_cases hc : c < st
          · have a : decide (c < (n : Int)) = true := by simp; omega
            have b : decide (c < ((n + 1 : Nat) : Int)) = true := by simp; omega
            rw [a, b]
          · have : decide (c < st) = false := by simpa using hc
            rw [this]
            simp
    | false =>
      rcases ih.st with ⟨h1, h2⟩ | ⟨h1, h2, h3, h4, h5⟩
      · dsimp only at h1 h2
        subst h1
        simp only [Bool.false_and, Bool.false_eq_true, if_false, Bool.not_false, Bool.true_and]
        rw [if_neg (by simp)]
        refine ⟨can, .inl ⟨rfl, fun p hp => by have := h2 p hp; simp; omega⟩, fun c => ?_⟩
        dsimp only
        rw [mem]
        by_cases hc : c < n
        · have a : decide (c < (n : Int)) = true := by simpa using hc
          have b : decide (c < ((n + 1 : Nat) : Int)) = true := by simp; omega
          rw [a, b]
        · by_cases hcn : c = n
          · rw [hcn, hb]; simp
          · have a : decide (c < (n : Int)) = false := by simpa using hc
            have b : decide (c < ((n + 1 : Nat) : Int)) = false := by simp; omega
            rw [a, b]
      · dsimp only at h1 h2 h3 h4 h5
        have hd : decide (0 ≤ st) = true := by simpa using h1
        simp only [Bool.false_and, Bool.false_eq_true, if_false, Bool.not_false, Bool.true_and, hd, if_true]
        refine ⟨⟨?_, ?_⟩, .inl ⟨rfl, ?_⟩, fun c => ?_⟩
        · rw [List.pairwise_append]
          refine ⟨can.pw, by simp, fun p hp q hq => ?_⟩
          have : q = (st, (n : Int)) := by simpa using hq
          subst this
          exact h4 p hp
        · intro p hp
          rcases List.mem_append.mp hp with hp | hp
          · exact can.bd p hp
          · have : p = (st, (n : Int)) := by simpa using hp
            subst this
            exact ⟨h1, h2, h3⟩
        · intro p hp
          rcases List.mem_append.mp hp with hp | hp
          · have := h4 p hp; simp; omega
          · have : p = (st, (n : Int)) := by simpa using hp
            subst this
            simp; omega
        · dsimp only
          rw [inP_app, mem]
          have e : inP [(st, (n : Int))] c = (decide (st ≤ c) && decide (c < (n : Int))) := by simp [inP]
          have hds : decide (st < 0) = false := by simp; omega
          rw [e, hds]
          by_cases c1 : c < st
          · have a : decide (c < (n : Int)) = true := by simp; omega
            have b : decide (c < ((n + 1 : Nat) : Int)) = true := by simp; omega
            have f : decide (st ≤ c) = false := by simp; omega
            have g : decide (c < st) = true := by simpa using c1
            rw [a, b, f, g]; simp
          · by_cases c2 : c < n
            · have a : decide (c < (n : Int)) = true := by simpa using c2
              have b : decide (c < ((n + 1 : Nat) : Int)) = true := by simp; omega
              have f : decide (st ≤ c) = true := by simp; omega
              have g : decide (c < st) = false := by simpa using c1
              rw [a, b, f, g, h5 c (by omega) c2]; simp
            · have a : decide (c < (n : Int)) = false := by simpa using c2
              by_cases hcn : c = n
              · rw [hcn, hb]; simp
              · have b : decide (c < ((n + 1 : Nat) : Int)) = false := by simp; omega
                rw [a, b]; simp
theorem rg_spec (bs : List Bool) : Can (rgOf bs) ∧ ∀ c, inP (rgOf bs) c = bit bs c := by
  have h := rgI bs 129 (Nat.le_refl _)
  refine ⟨h.can, fun c => ?_⟩
  unfold rgOf
  rw [h.mem]
  rcases h.st with ⟨h1, h2⟩ | ⟨h1, h2, h3, h4, h5⟩
  · rw [h1]
    cases hb : bit bs c with
    | false => simp
    | true =>
      unfold bit at hb
      simp only [Bool.and_eq_true, decide_eq_true_eq] at hb
      simp
      omega
  · exfalso
    simp at h3
def codeBits (f : Int → Bool) : List Bool := (List.range 128).map fun (i : Nat) => f (i : Int)
theorem bit_codes (f : Int → Bool) (c : Int) : bit (codeBits f) c = (decide (0 ≤ c) && decide (c < 128) && f c) := by
  unfold bit codeBits
  by_cases h : 0 ≤ c ∧ c < 128
  · obtain ⟨n, rfl⟩ : ∃ n : Nat, c = (n : Int) := ⟨c.toNat, by omega⟩
    have hn : n < 128 := by omega
    simp [List.getD, hn]
  · by_cases h0 : 0 ≤ c
    · have : decide (c < 128) = false := by simp; omega
      rw [this]; simp
    · have : decide (0 ≤ c) = false := by simpa using h0
      rw [this]; simp
/-- the one form of the codes that f has -/
def setOf (f : Int → Bool) : PL := rgOf (codeBits f)
theorem set_can (f : Int → Bool) : Can (setOf f) := (rg_spec _).1
theorem set_mem (f : Int → Bool) (c : Int) : inP (setOf f) c = (decide (0 ≤ c) && decide (c < 128) && f c) := ((rg_spec _).2 c).trans (bit_codes f c)
theorem can_out {ps : PL} (h : Can ps) {c : Int} (hc : c < 0 ∨ 128 ≤ c) : inP ps c = false := inP_false.mpr fun p hp => by have := h.bd p hp; omega
theorem set_eq {ps : PL} {f : Int → Bool} (h : Can ps) (hm : ∀ c, 0 ≤ c → c < 128 → inP ps c = f c) : ps = setOf f := can_eq h (set_can f) fun c => by
  rw [set_mem]
  by_cases hc : 0 ≤ c ∧ c < 128
  · rw [hm c hc.1 hc.2]
    have a : decide (0 ≤ c) = true := by simpa using hc.1
    have b : decide (c < 128) = true := by simpa using hc.2
    rw [a, b]; simp
  · rw [can_out h (by omega)]
    by_cases h0 : 0 ≤ c
    · have b : decide (c < 128) = false := by simp; omega
      rw [b]; simp
    · have a : decide (0 ≤ c) = false := by simpa using h0
      rw [a]; simp
theorem set_congr {f g : Int → Bool} (h : ∀ c, 0 ≤ c → c < 128 → f c = g c) : setOf f = setOf g := by
  unfold setOf codeBits
  congr 1
  apply List.map_congr_left
  intro i hi
  have := List.mem_range.mp hi
  exact h _ (by omega) (by omega)
/-! make_set -/
def mkStep (acc : PL) (p : Int × Int) : PL :=
  if p.2 ≤ p.1 then acc else
  match acc.getLast? with
  | none => acc ++ [p]
  | some l => if p.1 ≤ l.2 then acc.dropLast ++ [(l.1, max l.2 p.2)] else acc ++ [p]
def lexL (x y : Int × Int) : Prop := x.1 < y.1 ∨ (x.1 = y.1 ∧ x.2 ≤ y.2)
theorem mk_spec : ∀ (qs acc : PL), qs.Pairwise lexL → (∀ p ∈ qs, p.1 < p.2 → 0 ≤ p.1 ∧ p.2 ≤ 128) → Can acc → (∀ a ∈ acc, ∀ q ∈ qs, a.1 ≤ q.1) → Can (qs.foldl mkStep acc) ∧ ∀ c, inP (qs.foldl mkStep acc) c = (inP acc c || inP qs c)
  | [], acc, _, _, hc, _ => ⟨hc, fun c => by simp [inP_nil]⟩
  | q :: qs, acc, hp, hb, hc, ha => by
    obtain ⟨hq, hp'⟩ := List.pairwise_cons.mp hp
    have hb' : ∀ p ∈ qs, p.1 < p.2 → 0 ≤ p.1 ∧ p.2 ≤ 128 := fun p h => hb p (List.mem_cons_of_mem _ h)
    have key : Can (mkStep acc q) ∧ (∀ a ∈ mkStep acc q, ∀ r ∈ qs, a.1 ≤ r.1) ∧ ∀ c, inP (mkStep acc q) c = (inP acc c || (decide (q.1 ≤ c) && decide (c < q.2))) := by
      unfold mkStep
      by_cases he : q.2 ≤ q.1
      · rw [if_pos he]
        refine ⟨hc, fun a h r hr => ha a h r (List.mem_cons_of_mem _ hr), fun c => ?_⟩
        by_cases h1 : q.1 ≤ c
        · have : decide (c < q.2) = false := by simp; omega
          rw [this]; simp
        · have : decide (q.1 ≤ c) = false := by simpa using h1
          rw [this]; simp
      · rw [if_neg he]
        have bq := hb q List.mem_cons_self (by omega)
        have hqr : ∀ r ∈ qs, q.1 ≤ r.1 := fun r hr => by
          rcases hq r hr with h | h <;> omega
        have snoc : (∀ a ∈ acc, a.2 < q.1) → Can (acc ++ [q]) ∧ (∀ a ∈ acc ++ [q], ∀ r ∈ qs, a.1 ≤ r.1) ∧ ∀ c, inP (acc ++ [q]) c = (inP acc c || (decide (q.1 ≤ c) && decide (c < q.2))) := fun hl => by
          refine ⟨⟨?_, ?_⟩, ?_, fun c => ?_⟩
          · rw [List.pairwise_append]
            refine ⟨hc.pw, by simp, fun a h b hb => ?_⟩
            have : b = q := by simpa using hb
            subst this
            exact hl a h
          · intro p hp
            rcases List.mem_append.mp hp with hp | hp
            · exact hc.bd p hp
            · have : p = q := by simpa using hp
              subst this
              exact ⟨bq.1, by omega, bq.2⟩
          · intro a h r hr
            rcases List.mem_append.mp h with h | h
            · exact ha a h r (List.mem_cons_of_mem _ hr)
            · have : a = q := by simpa using h
              subst this
              exact hqr r hr
          · rw [inP_app]; simp [inP]
        cases hl : acc.getLast? with
        | none =>
          have : acc = [] := by simpa using hl
          subst this
          exact snoc fun a h => by cases h
        | some l =>
          obtain ⟨ys, rfl⟩ := List.getLast?_eq_some_iff.mp hl
          dsimp only
          have pw := List.pairwise_append.mp hc.pw
          by_cases hm : q.1 ≤ l.2
          · rw [if_pos hm]
            simp only [List.dropLast_concat]
            have bl := hc.bd l (by simp)
            have hlq : l.1 ≤ q.1 := ha l (by simp) q List.mem_cons_self
            refine ⟨⟨?_, ?_⟩, ?_, fun c => ?_⟩
            · rw [List.pairwise_append]
              refine ⟨pw.1, by simp, fun a h b hb => ?_⟩
              have : b = (l.1, max l.2 q.2) := by simpa using hb
              subst this
              exact pw.2.2 a h l (by simp)
            · intro p hp
              rcases List.mem_append.mp hp with hp | hp
              · exact hc.bd p (List.mem_append_left _ hp)
              · have : p = (l.1, max l.2 q.2) := by simpa using hp
                subst this
                dsimp only
                omega
            · intro a h r hr
              rcases List.mem_append.mp h with h | h
              · exact ha a (List.mem_append_left _ h) r (List.mem_cons_of_mem _ hr)
              · have : a = (l.1, max l.2 q.2) := by simpa using h
                subst this
                exact ha l (by simp) r (List.mem_cons_of_mem _ hr)
            · rw [inP_app, inP_app, Bool.or_assoc]
              congr 1
              simp only [inP, List.any_cons, List.any_nil, Bool.or_false]
              rw [Bool.eq_iff_iff]
              simp only [Bool.or_eq_true, Bool.and_eq_true, decide_eq_true_eq]
              omega
          · rw [if_neg hm]
            refine snoc fun a h => ?_
            rcases List.mem_append.mp h with h | h
            · have h1 := pw.2.2 a h l (by simp)
              have h2 := hc.bd l (by simp)
              omega
            · have : a = l := by simpa using h
              subst this
              omega
    obtain ⟨k1, k2, k3⟩ := key
    obtain ⟨r1, r2⟩ := mk_spec qs (mkStep acc q) hp' hb' k1 k2
    refine ⟨r1, fun c => ?_⟩
    show inP (qs.foldl mkStep (mkStep acc q)) c = _
    rw [r2, k3, inP_cons, Bool.or_assoc]
theorem mk_set {ps qs : PL} (hp : qs.Perm ps) (hs : qs.Pairwise lexL) (hb : ∀ p ∈ ps, p.1 < p.2 → 0 ≤ p.1 ∧ p.2 ≤ 128) : qs.foldl mkStep [] = setOf (inP ps) := by
  obtain ⟨h1, h2⟩ := mk_spec qs [] hs (fun p h => hb p (hp.mem_iff.mp h)) ⟨List.Pairwise.nil, fun p h => by cases h⟩ (fun a h => by cases h)
  refine set_eq h1 fun c _ _ => ?_
  rw [h2, inP_nil, Bool.false_or]
  rw [Bool.eq_iff_iff, inP_iff, inP_iff]
  constructor
  · rintro ⟨p, h, r⟩; exact ⟨p, hp.mem_iff.mp h, r⟩
  · rintro ⟨p, h, r⟩; exact ⟨p, hp.mem_iff.mpr h, r⟩
/-! sorted -/
def lexB (x y : Int × Int) : Bool := decide (x.1 < y.1) || (decide (x.1 = y.1) && decide (x.2 ≤ y.2))
def sortP (ps : PL) : PL := ps.mergeSort lexB
theorem sort_perm (ps : PL) : (sortP ps).Perm ps := List.mergeSort_perm _ _
theorem sort_lex (ps : PL) : (sortP ps).Pairwise lexL := by
  have := List.pairwise_mergeSort (le := lexB) (fun a b c => by
    unfold lexB
    simp only [Bool.or_eq_true, Bool.and_eq_true, decide_eq_true_eq]
    omega) (fun a b => by
    unfold lexB
    simp only [Bool.or_eq_true, Bool.and_eq_true, decide_eq_true_eq]
    omega) ps
  exact this.imp fun h => by
    unfold lexB at h
    simp only [Bool.or_eq_true, Bool.and_eq_true, decide_eq_true_eq] at h
    exact h
theorem can_len {ps : PL} (h : Can ps) : ps.length ≤ 128 := by
  have : ∀ (ps : PL) (lo : Int), Can ps → 0 ≤ lo → lo ≤ 128 → (∀ p ∈ ps, lo ≤ p.1) → (ps.length : Int) ≤ 128 - lo := by
    intro ps
    induction ps with
    | nil => intro lo _ _ _ _; simp; omega
    | cons p ps ih =>
      intro lo h h0 h1 h2
      have b := h.bd p List.mem_cons_self
      have := h2 p List.mem_cons_self
      have := ih p.2 h.tail (by omega) (by omega) fun q hq => by have := h.first q hq; omega
      simp only [List.length_cons]
      omega
  have := this ps 0 h (by omega) (by omega) fun p hp => (h.bd p hp).1
  omega
end Lw
end

section
set_option Elab.async false
set_option linter.all false
set_option maxRecDepth 100000
set_option maxHeartbeats 4000000
namespace L2
open PySem PySem.Spec PyProof.Rows
theorem tuple_mul1 (l : Addr) (items : Array Value) (n : Nat) (dd : Option Addr) (sl : Array (Option Value)) (u : Tok) :
    Meets (Builtin.«tuple.__mul__» ⟨[.ref l, .int 1 u], []⟩) (fun _ R s => s.heap.get? l = some { cls := .type "tuple", dict := dd, data := .seq items n, slots := sl } ∧
      R (.ok (.ret (Value.ref l))) s) :=
  .of_wp fun prog w A R s h => by
    obtain ⟨hp, g, d, tk, os⟩ := s
    obtain ⟨hl, h⟩ := h
    have f1 := AutoSeq1.idx_int
    have c0 : (decide ((1 : Int) < -(2 ^ 63)) || decide ((1 : Int) ≥ 2 ^ 63)) = false := by decide
    have c1 : (items.isEmpty || (1 : Int) == 1) = true := by simp
    wp_walk using wpAny_loadPart' hl
    repeat (first
      | (refine wpAny_ite_false (decide_eq_false (by rw [c0]; exact Bool.false_ne_true)) ?_; wp_walk using wpAny_loadPart' hl)
      | (refine wpAny_ite_true (decide_eq_true (by rw [c1])) ?_; wp_walk using wpAny_loadPart' hl))
    exact ⟨_, rfl, h⟩
theorem tuple_mul0 (l : Addr) (items : Array Value) (n : Nat) (dd : Option Addr) (sl : Array (Option Value)) (u : Tok) (c : items.isEmpty = false) :
    Meets (Builtin.«tuple.__mul__» ⟨[.ref l, .int 0 u], []⟩) (fun _ R s => s.heap.get? l = some { cls := .type "tuple", dict := dd, data := .seq items n, slots := sl } ∧
      R (.ok (.ret (Value.ref s.heap.objs.size))) { s with heap := s.heap.push { cls := Value.type "tuple", data := Data.seq #[] }, toks := s.toks }) :=
  .of_wp fun prog w A R s h => by
    obtain ⟨hp, g, d, tk, os⟩ := s
    obtain ⟨hl, h⟩ := h
    have f1 := AutoSeq1.idx_int
    have c0 : (decide ((0 : Int) < -(2 ^ 63)) || decide ((0 : Int) ≥ 2 ^ 63)) = false := by decide
    have c1 : (items.isEmpty || (0 : Int) == 1) = false := by simp [c]
    have c2 : (decide ((0 : Int) ≤ 0) || items.isEmpty) = true := by simp
    wp_walk using wpAny_loadPart' hl
    repeat (first
      | (refine wpAny_ite_false (decide_eq_false (by rw [c0]; exact Bool.false_ne_true)) ?_; wp_walk using wpAny_loadPart' hl)
      | (refine wpAny_ite_false (decide_eq_false (by rw [c1]; exact Bool.false_ne_true)) ?_; wp_walk using wpAny_loadPart' hl)
      | (refine wpAny_ite_true (decide_eq_true (by rw [c2])) ?_; wp_walk using wpAny_loadPart' hl))
    exact ⟨_, rfl, h⟩
def rRep1 (K : PySem.W.Frag) : R2 := fun x y H Q => ∃ l xs, x = .ref l ∧ y = .int 1 ∧ SqT K H l xs ∧ Q (.ref l) H
def rRep0 (K : PySem.W.Frag) : R2 := fun x y H Q => ∃ l xs, x = .ref l ∧ y = .int 0 ∧ SqT K H l xs ∧ xs ≠ [] ∧ ∀ p, H p = none → Q (.ref p) (upd H p (.tup []))
section
variable {X : Cx}
theorem op_rep1 : OpR X (binaryOp .Mult) (rRep1 X.K) := by
  intro pins s σ H x y v u Q I rx ry h
  obtain ⟨l, xs, rfl, rfl, hT, q⟩ := h
  cases rx
  obtain ⟨t, rfl⟩ := ry
  obtain ⟨its, r, ⟨⟨cls, dd, data, sl⟩, ho, hc, n, hd⟩, hs⟩ := I.tuple hT
  simp only at hc hd
  subst hc hd
  refine wpAny_binaryOp_repeat_ref (T := "tuple") (U := "int") (by decide) ⟨_, ho, rfl⟩ (fun s' => typeIs_int s' 1 t) noFill_tuple_mul F.fills_int_mul F.slot_int_rmul repeat_tuple F.slot_int_index.lookup
    (call_meets F.slot_int_rmul (typeIs_int s 1 t) F.entry_int_rmul (F.args_int_rmul_2 _ _) (int_rmul_tuple 1 t l its.toArray n dd sl)
      ⟨ho, rfl, ⟨_, ho, rfl⟩, call_meets F.slot_tuple_mul ⟨_, ho, rfl⟩ F.entry_tuple_mul (F.args_tuple_mul_2 _ _) (tuple_mul1 l its.toArray n dd sl t) ⟨ho, ?_⟩⟩)
  exact ⟨.ref l, _, I, rfl, q⟩
theorem op_rep0 : OpR X (binaryOp .Mult) (rRep0 X.K) := by
  intro pins s σ H x y v u Q I rx ry h
  obtain ⟨l, xs, rfl, rfl, hT, hne, q⟩ := h
  cases rx
  obtain ⟨t, rfl⟩ := ry
  obtain ⟨its, r, ⟨⟨cls, dd, data, sl⟩, ho, hc, n, hd⟩, hs⟩ := I.tuple hT
  simp only at hc hd
  subst hc hd
  have hle : its.length = xs.length := r.length.symm
  have hn : its ≠ [] := fun e => hne (by
    rw [e] at hle
    exact List.eq_nil_of_length_eq_zero hle.symm)
  have hi : its.toArray.isEmpty = false := by
    cases its with
    | nil => exact absurd rfl hn
    | cons a b => rfl
  refine wpAny_binaryOp_repeat_ref (T := "tuple") (U := "int") (by decide) ⟨_, ho, rfl⟩ (fun s' => typeIs_int s' 0 t) noFill_tuple_mul F.fills_int_mul F.slot_int_rmul repeat_tuple F.slot_int_index.lookup
    (call_meets F.slot_int_rmul (typeIs_int s 0 t) F.entry_int_rmul (F.args_int_rmul_2 _ _) (int_rmul_tuple 0 t l its.toArray n dd sl)
      ⟨ho, rfl, ⟨_, ho, rfl⟩, call_meets F.slot_tuple_mul ⟨_, ho, rfl⟩ F.entry_tuple_mul (F.args_tuple_mul_2 _ _) (tuple_mul0 l its.toArray n dd sl t hi) ⟨ho, ?_⟩⟩)
  refine ⟨.ref s.heap.objs.size, _, I.laid (t' := s.toks) (o := .tup []) (fun b ob q => Heap.get?_push_of_some _ q) (Nat.le_refl _) ?_, rfl, q _ (I.hok.fresh (Nat.le_refl _))⟩
  exact ⟨by simp, [], .nil, IsTup.new _ _⟩
end
/-- a tuple times a number up to 1000 -/
def rMulT (K : PySem.W.Frag) : R2 := fun x y H Q => rRep1 K x y H Q ∨ rRep0 K x y H Q ∨ rRepT K x y H Q
theorem op_mulT {X : Cx} : OpR X (binaryOp .Mult) (rMulT X.K) := OpR.or op_rep1 (OpR.or op_rep0 op_repT)
end L2
end

section
set_option Elab.async false
set_option linter.all false
set_option maxRecDepth 100000
set_option maxHeartbeats 4000000
namespace VM
open PySem PySem.Spec PyProof.Rows L2 DL

/-! ## what a program works on: data, and cells that may be written -/
inductive Cell where
  | lst (ds : List D)
  | lse (es : List En)
  | dct (t : Bool) (kvs : List (D × D))
  | obj (c : Nat) (fs : List (Str × En))
  | gone
abbrev Stv := List Cell
inductive Rv where
  | v (d : D)
  | mu (n : Nat)
  | nw (c : Cell)
inductive Out (α : Type) where
  | ok (a : α) (S : Stv)
  | ex (c : Nat) (fs : List (Str × D)) (S : Stv)
  | bad
def Out.bind {α β : Type} : Out α → (α → Stv → Out β) → Out β
  | .ok a S, f => f a S
  | .ex c fs S, _ => .ex c fs S
  | .bad, _ => .bad
@[simp] theorem Out.bind_ok {α β : Type} (a : α) (S : Stv) (f : α → Stv → Out β) : (Out.ok a S).bind f = f a S := rfl
theorem Out.bind_assoc {α β γ : Type} (o : Out α) (f : α → Stv → Out β) (g : β → Stv → Out γ) : (o.bind f).bind g = o.bind fun a S => (f a S).bind g := by cases o <;> rfl
@[simp] theorem Out.bind_bad {α β : Type} (f : α → Stv → Out β) : (Out.bad : Out α).bind f = .bad := rfl
@[simp] theorem Out.bind_ex {α β : Type} (c : Nat) (fs : List (Str × D)) (S : Stv) (f : α → Stv → Out β) : (Out.ex c fs S : Out α).bind f = .ex c fs S := rfl

/-! ## cells and the heap -/
def EnA (K : PySem.W.Frag) (F : Hp) (L : List Addr) (vs : List V) (es : List En) : Prop := vs.length = es.length ∧ EOk K F L (vs.map some) es
def keyK : D → Option Key
  | .int i => some (.inl i)
  | .str s => some (.inr s)
  | _ => none
def keyKs : List D → Option (List Key)
  | [] => some []
  | d :: ds => match keyK d, keyKs ds with
    | some k, some ks => some (k :: ks)
    | _, _ => none
def keyT : D → Option (List Key)
  | .tuple ds => keyKs ds
  | _ => none
def CellOk (K : PySem.W.Frag) (cl : Nat → Addr) (F : Hp) (L : List Addr) (o : HO) : Cell → Prop
  | .lst ds => ∃ vs, o = .lst vs ∧ DpAll K F vs ds
  | .lse es => ∃ vs, o = .lst vs ∧ EnA K F L vs es
  | .dct false kvs => ∃ hk, o = .dK hk ∧ Paired (fun (p : Key × V) (q : D × D) => keyK q.1 = some p.1 ∧ Dp K F p.2 q.2) hk kvs
  | .dct true kvs => ∃ hk, o = .dT hk ∧ Paired (fun (p : List Key × V) (q : D × D) => keyT q.1 = some p.1 ∧ Dp K F p.2 q.2) hk kvs
  | .obj c fs => ∃ dx vs, o = .ins (cl c) dx vs ∧ vs.map (·.1) = fs.map (·.1) ∧ EnA K F L (vs.map (·.2)) (fs.map (·.2))
  | .gone => False
theorem EnA.mono {K : PySem.W.Frag} {F F' : Hp} {L : List Addr} (h : Same F F') {R : List Addr} {vs : List V} {es : List En} (e : EnA K F L vs es) : EnA K F' (L ++ R) vs es := ⟨e.1, EOk.mono h e.2⟩
theorem prd_imp {α β : Type} {P Q : α → β → Prop} (h : ∀ a b, P a b → Q a b) : ∀ {xs : List α} {ys : List β}, Paired P xs ys → Paired Q xs ys
  | _, _, .nil => .nil
  | _, _, .cons a b => .cons (h _ _ a) (prd_imp h b)
theorem CellOk.mono {K : PySem.W.Frag} {cl : Nat → Addr} {F F' : Hp} {L : List Addr} (h : Same F F') {R : List Addr} {o : HO} : ∀ {c : Cell}, CellOk K cl F L o c → CellOk K cl F' (L ++ R) o c
  | .lst ds, ⟨vs, e, q⟩ => ⟨vs, e, dpa_mono h _ _ q⟩
  | .lse es, ⟨vs, e, q⟩ => ⟨vs, e, q.mono h⟩
  | .dct false kvs, ⟨hk, e, q⟩ => ⟨hk, e, prd_imp (fun _ _ z => ⟨z.1, dp_mono h _ _ z.2⟩) q⟩
  | .dct true kvs, ⟨hk, e, q⟩ => ⟨hk, e, prd_imp (fun _ _ z => ⟨z.1, dp_mono h _ _ z.2⟩) q⟩
  | .obj c fs, ⟨dx, vs, e, n, q⟩ => ⟨dx, vs, e, n, q.mono h⟩
  | .gone, h => h.elim

structure SV (K : PySem.W.Frag) (cl : Nat → Addr) (F H : Hp) (L : List Addr) (S : Stv) : Prop where
  sub : Same F H
  len : L.length = S.length
  nd : L.Nodup
  st : ∀ (n : Nat) (a : Addr), L[n]? = some a → H a ≠ none ∧ ∀ c, S[n]? = some c → c ≠ .gone → F a = none ∧ ∃ o, H a = some o ∧ CellOk K cl F L o c
theorem SV.nil {K : PySem.W.Frag} {cl : Nat → Addr} {F H : Hp} (h : Same F H) : SV K cl F H [] [] := ⟨h, rfl, .nil, fun n a e => by simp at e⟩
theorem SV.at {K : PySem.W.Frag} {cl : Nat → Addr} {F H : Hp} {L : List Addr} {S : Stv} {n : Nat} {c : Cell} (s : SV K cl F H L S) (h : S[n]? = some c) (hc : c ≠ .gone) : ∃ a o, L[n]? = some a ∧ F a = none ∧ H a = some o ∧ CellOk K cl F L o c := by
  have hl : n < L.length := by rw [s.len]; exact (List.getElem?_eq_some_iff.mp h).1
  have e : L[n]? = some L[n] := List.getElem?_eq_getElem hl
  obtain ⟨_, q⟩ := s.st n _ e
  obtain ⟨f, o, h1, h2⟩ := q c h hc
  exact ⟨_, o, e, f, h1, h2⟩
theorem SV.memH {K : PySem.W.Frag} {cl : Nat → Addr} {F H : Hp} {L : List Addr} {S : Stv} {a : Addr} (s : SV K cl F H L S) (h : a ∈ L) : H a ≠ none := by
  obtain ⟨n, e⟩ := List.getElem?_of_mem h
  exact (s.st n a e).1

/-- a step: the written addresses L become L', new ones behind -/
structure Nx (L : List Addr) (F H : Hp) (L' : List Addr) (F' H' : Hp) : Prop where
  stp : Stp L F H F' H'
  ex : ∃ R, L' = L ++ R ∧ ∀ a ∈ R, H a = none
theorem Nx.refl (L : List Addr) (F H : Hp) : Nx L F H L F H := ⟨.refl _ _ _, [], by simp, fun a h => by cases h⟩
theorem Nx.trans {L L1 L2 : List Addr} {F H F1 H1 F2 H2 : Hp} (a : Nx L F H L1 F1 H1) (b : Nx L1 F1 H1 L2 F2 H2) : Nx L F H L2 F2 H2 := by
  obtain ⟨s1, R1, rfl, f1⟩ := a
  obtain ⟨s2, R2, rfl, f2⟩ := b
  refine ⟨s1.trans' s2 fun x hx => (List.mem_append.mp hx).imp_right (f1 x), R1 ++ R2, by rw [List.append_assoc], fun x hx => ?_⟩
  rcases List.mem_append.mp hx with h | h
  · exact f1 x h
  · exact s1.fresh (f2 x h)
theorem Nx.fx {L L1 : List Addr} {F H F1 H1 : Hp} (a : Nx L F H L1 F1 H1) : Same F F1 := a.stp.fx
theorem Nx.eok {K : PySem.W.Frag} {L L1 : List Addr} {F H F1 H1 : Hp} {σ : L2.St} {ρ : Rho} (a : Nx L F H L1 F1 H1) (E : EOk K F L σ ρ) : EOk K F1 L1 σ ρ := by
  obtain ⟨s1, R1, rfl, _⟩ := a
  exact E.mono s1.fx
theorem Nx.enok {K : PySem.W.Frag} {L L1 : List Addr} {F H F1 H1 : Hp} {e : En} {o : Option V} (a : Nx L F H L1 F1 H1) (E : EnOk K F L e o) : EnOk K F1 L1 e o := by
  obtain ⟨s1, R1, rfl, _⟩ := a
  exact E.mono s1.fx
theorem Nx.ena {K : PySem.W.Frag} {L L1 : List Addr} {F H F1 H1 : Hp} {vs : List V} {es : List En} (a : Nx L F H L1 F1 H1) (E : EnA K F L vs es) : EnA K F1 L1 vs es := ⟨E.1, a.eok E.2⟩
theorem Nx.cell {K : PySem.W.Frag} {cl : Nat → Addr} {L L1 : List Addr} {F H F1 H1 : Hp} {o : HO} {c : Cell} (a : Nx L F H L1 F1 H1) (E : CellOk K cl F L o c) : CellOk K cl F1 L1 o c := by
  obtain ⟨s1, R1, rfl, _⟩ := a
  exact E.mono s1.fx
theorem Nx.get {L L1 : List Addr} {F H F1 H1 : Hp} {n : Nat} {x : Addr} (a : Nx L F H L1 F1 H1) (e : L[n]? = some x) : L1[n]? = some x := by
  obtain ⟨_, R1, rfl, _⟩ := a
  rw [List.getElem?_append_left (List.getElem?_eq_some_iff.mp e).1]
  exact e

/-- a result: data; a cell by its number; an object that stands nowhere yet -/
def RV (K : PySem.W.Frag) (cl : Nat → Addr) (L' : List Addr) (F' H H' : Hp) (v : V) : Rv → Prop
  | .v d => Dp K F' v d
  | .mu n => ∃ a, v = .ref a ∧ L'[n]? = some a
  | .nw c => ∃ a o, v = .ref a ∧ H a = none ∧ a ∉ L' ∧ F' a = none ∧ H' a = some o ∧ CellOk K cl F' L' o c
/-- the start of the step lies further back -/
theorem RV.back {K : PySem.W.Frag} {cl : Nat → Addr} {L L1 L2 : List Addr} {F H F1 H1 F2 H2 : Hp} {v : V} (n : Nx L F H L1 F1 H1) : ∀ {r : Rv}, RV K cl L2 F2 H1 H2 v r → RV K cl L2 F2 H H2 v r
  | .v d, h => h
  | .mu m, h => h
  | .nw c, ⟨a, o, e, h0, h1, h2, h3, h4⟩ => ⟨a, o, e, n.stp.fresh h0, h1, h2, h3, h4⟩
/-- a result stays behind a further step (an object that stands nowhere must not be written: it is not in L1) -/
theorem RV.fwd {K : PySem.W.Frag} {cl : Nat → Addr} {L1 L2 : List Addr} {F1 H H1 F2 H2 : Hp} {v : V} (n : Nx L1 F1 H1 L2 F2 H2) : ∀ {r : Rv}, RV K cl L1 F1 H H1 v r → RV K cl L2 F2 H H2 v r
  | .v d, h => dp_mono n.fx _ _ h
  | .mu m, ⟨a, e, h⟩ => ⟨a, e, n.get h⟩
  | .nw c, ⟨a, o, e, h0, h1, h2, h3, h4⟩ => by
    have hn : a ∉ L2 := by
      obtain ⟨_, R, rfl, f⟩ := n
      intro hm
      rcases List.mem_append.mp hm with q | q
      · exact h1 q
      · rw [f a q] at h3; cases h3
    exact ⟨a, o, e, h0, hn, n.stp.nof a (by rw [h3]; exact nofun) h2, n.stp.keep a o h3 h1, n.cell h4⟩

/-! ## what a piece of a program does, by what the machine says of it -/
abbrev WXK := Value → Option Addr → L2.St → Hp → Prop
/-- the exception of class c with these fields -/
def XOk (K : PySem.W.Frag) (F H0 H : Hp) (fs : List (Str × D)) (d : Option Addr) : Prop := match fs with
  | [] => d = none
  | _ => ∃ p vs, d = some p ∧ H0 p = none ∧ F p = none ∧ H p = some (.xd vs) ∧ Paired (fun (q : Str × V) (f : Str × D) => q.1 = f.1 ∧ Dp K F q.2 f.2) vs fs
abbrev XCl := Nat → Value
/-- what is wanted of an outcome -/
def Pst {α β : Type} (K : PySem.W.Frag) (cl : Nat → Addr) (xc : XCl) (Rel : List Addr → Hp → Hp → Hp → β → α → Prop) (out : Out α) (L : List Addr) (F H : Hp) (W : WXK) (σ : L2.St) (Q : β → Hp → Prop) : Prop := match out with
  | .ok r S' => ∀ v F' H' L', Nx L F H L' F' H' → SV K cl F' H' L' S' → Rel L' F' H H' v r → Q v H'
  | .ex c fs S' => ∀ d F' H' L', Nx L F H L' F' H' → SV K cl F' H' L' S' → XOk K F' H H' fs d → W (xc c) d σ H'
  | .bad => False
def Evs {α β : Type} (K : PySem.W.Frag) (cl : Nat → Addr) (xc : XCl) (Rel : List Addr → Hp → Hp → Hp → β → α → Prop) (ρ : Rho) (S : Stv) (te : WXK → L2.St → Hp → (β → Hp → Prop) → Prop) (out : Out α) : Prop :=
  ∀ σ F H L, EOk K F L σ ρ → SV K cl F H L S → ∀ (W : WXK) (Q : β → Hp → Prop), Pst K cl xc Rel out L F H W σ Q → te W σ H Q
def Bk {α β : Type} (Rel : List Addr → Hp → Hp → Hp → β → α → Prop) : Prop := ∀ L F H L1 F1 H1 L2 F2 H2 v r, Nx L F H L1 F1 H1 → Rel L2 F2 H1 H2 v r → Rel L2 F2 H H2 v r
theorem XOk.back {K : PySem.W.Frag} {L L1 : List Addr} {F H F1 H1 F2 H2 : Hp} {fs : List (Str × D)} {d : Option Addr} (n : Nx L F H L1 F1 H1) (x : XOk K F2 H1 H2 fs d) : XOk K F2 H H2 fs d := by
  cases fs with
  | nil => exact x
  | cons f fs =>
    obtain ⟨p, vs, e, h0, h⟩ := x
    exact ⟨p, vs, e, n.stp.fresh h0, h⟩

section
variable {α β γ δ : Type} {K : PySem.W.Frag} {cl : Nat → Addr} {xc : XCl} {Ra : List Addr → Hp → Hp → Hp → γ → δ → Prop} {Rb : List Addr → Hp → Hp → Hp → β → α → Prop} {ρ : Rho} {S S1 : Stv} {W : WXK} {σ : L2.St}
theorem Pst.shift {out : Out α} {L L1 : List Addr} {F F1 H H1 : Hp} {Q : β → Hp → Prop} (bk : Bk Rb) (n : Nx L F H L1 F1 H1) (p : Pst K cl xc Rb out L F H W σ Q) : Pst K cl xc Rb out L1 F1 H1 W σ Q := by
  cases out with
  | ok r S' => exact fun v F' H' L' n' s' r' => p v F' H' L' (n.trans n') s' (bk _ _ _ _ _ _ _ _ _ _ _ n r')
  | ex c fs S' => exact fun d F' H' L' n' s' x' => p d F' H' L' (n.trans n') s' (x'.back n)
  | bad => exact p
theorem Evs.at {te : WXK → L2.St → Hp → (β → Hp → Prop) → Prop} {out : Out α} {L L1 : List Addr} {F F1 H H1 : Hp} {Q : β → Hp → Prop} (h : Evs K cl xc Rb ρ S1 te out) (bk : Bk Rb) (E : EOk K F1 L1 σ ρ) (n : Nx L F H L1 F1 H1) (s : SV K cl F1 H1 L1 S1)
    (p : Pst K cl xc Rb out L F H W σ Q) : te W σ H1 Q := h σ F1 H1 L1 E s W Q (p.shift bk n)
theorem bnd {ta : WXK → L2.St → Hp → (γ → Hp → Prop) → Prop} {G : WXK → L2.St → γ → Hp → (β → Hp → Prop) → Prop} {o : Out δ} {f : δ → Stv → Out α} (ha : Evs K cl xc Ra ρ S ta o)
    (hf : ∀ r S1, o = .ok r S1 → ∀ σ F H L F1 H1 L1 v W Q, EOk K F1 L1 σ ρ → Nx L F H L1 F1 H1 → SV K cl F1 H1 L1 S1 → Ra L1 F1 H H1 v r → Pst K cl xc Rb (f r S1) L F H W σ Q → G W σ v H1 Q) :
    Evs K cl xc Rb ρ S (fun W σ H Q => ta W σ H fun x H1 => G W σ x H1 Q) (o.bind f) := fun σ F H L E s W Q p => by
  refine ha σ F H L E s W _ ?_
  cases o with
  | ok r S1 => exact fun v F1 H1 L1 n s1 r1 => hf r S1 rfl σ F H L F1 H1 L1 v W Q (n.eok E) n s1 r1 p
  | ex c fs S' => exact p
  | bad => exact p
end
/-! ### relations of results -/
abbrev EV (K : PySem.W.Frag) (cl : Nat → Addr) (xc : XCl) (ρ : Rho) (S : Stv) (te : WXK → TE) (out : Out Rv) : Prop := Evs K cl xc (RV K cl) ρ S te out
theorem bkV {K : PySem.W.Frag} {cl : Nat → Addr} : Bk (RV K cl) := fun _ _ _ _ _ _ _ _ _ _ _ n r => r.back n
def RB : List Addr → Hp → Hp → Hp → Bool → Bool → Prop := fun _ _ _ _ v b => v = b
theorem bkB : Bk RB := fun _ _ _ _ _ _ _ _ _ _ _ _ r => r
abbrev ET (K : PySem.W.Frag) (cl : Nat → Addr) (xc : XCl) (ρ : Rho) (S : Stv) (te : WXK → TT) (out : Out Bool) : Prop := Evs K cl xc RB ρ S te out
def RO : List Addr → Hp → Hp → Hp → Option Int → Option Int → Prop := fun _ _ _ _ v b => v = b
theorem bkO : Bk RO := fun _ _ _ _ _ _ _ _ _ _ _ _ r => r
def RE (K : PySem.W.Frag) : List Addr → Hp → Hp → Hp → List V → List En → Prop := fun L' F' _ _ vs es => EnA K F' L' vs es
theorem bkE {K : PySem.W.Frag} : Bk (RE K) := fun _ _ _ _ _ _ _ _ _ _ _ _ r => r
inductive RL (K : PySem.W.Frag) (cl : Nat → Addr) (L' : List Addr) (F' H H' : Hp) : List V → List Rv → Prop where
  | nil : RL K cl L' F' H H' [] []
  | cons {v : V} {r : Rv} {vs : List V} {rs : List Rv} : RV K cl L' F' H H' v r → RL K cl L' F' H H' vs rs → RL K cl L' F' H H' (v :: vs) (r :: rs)
theorem RL.back {K : PySem.W.Frag} {cl : Nat → Addr} {L L1 L2 : List Addr} {F H F1 H1 F2 H2 : Hp} {vs : List V} {rs : List Rv} (n : Nx L F H L1 F1 H1) (h : RL K cl L2 F2 H1 H2 vs rs) : RL K cl L2 F2 H H2 vs rs := by
  induction h with
  | nil => exact .nil
  | cons a _ ih => exact .cons (a.back n) ih
theorem bkL {K : PySem.W.Frag} {cl : Nat → Addr} : Bk (RL K cl) := fun _ _ _ _ _ _ _ _ _ _ _ n r => r.back n

/-! ## freezing and owning -/
/-- a new list becomes data -/
@[simp] def rvD : Rv → Option D
  | .v d => some d
  | .nw (.lst ds) => some (.list ds)
  | _ => none
theorem frz_new {K : PySem.W.Frag} {cl : Nat → Addr} {L L1 : List Addr} {F H F1 H1 : Hp} {S1 : Stv} {a : Addr} {o : HO} {ds : List D} (n : Nx L F H L1 F1 H1) (s : SV K cl F1 H1 L1 S1) (h0 : H a = none) (hL : a ∉ L1) (hf : F1 a = none) (hh : H1 a = some o) (hc : CellOk K cl F1 L1 o (.lst ds)) :
    ∃ F2, Nx L F H L1 F2 H1 ∧ SV K cl F2 H1 L1 S1 ∧ Dp K F2 (.ref a) (.list ds) ∧ Same F1 F2 := by
  obtain ⟨vs, rfl, hd⟩ := hc
  have sm : Same F1 (upd F1 a (.lst vs)) := fun b o e => by
    rw [upd_ne (ne_of_none e hf)]
    exact e
  have hnL : a ∉ L := by
    obtain ⟨_, R, rfl, _⟩ := n
    exact fun m => hL (List.mem_append_left _ m)
  refine ⟨upd F1 a (.lst vs), ⟨⟨n.fx.trans sm, n.stp.keep, n.stp.live, fun b hb hn => ?_⟩, n.ex⟩, ⟨fun b o e => ?_, s.len, s.nd, fun m b e => ?_⟩, .lst (.inl (.inl upd_same)) (dpa_mono sm _ _ hd), sm⟩
  · have : b ≠ a := fun q => hb (by rw [q]; exact h0)
    rw [upd_ne this]
    exact n.stp.nof b hb hn
  · by_cases q : b = a
    · subst q
      rw [upd_same] at e
      cases e
      exact hh
    · rw [upd_ne q] at e
      exact s.sub _ _ e
  · obtain ⟨x, y⟩ := s.st m b e
    have hba : b ≠ a := fun q => hL (q ▸ List.mem_of_getElem? e)
    refine ⟨x, fun c e1 e2 => ?_⟩
    obtain ⟨f, o, h1, h2⟩ := y c e1 e2
    refine ⟨by rw [upd_ne hba]; exact f, o, h1, ?_⟩
    have := h2.mono (R := []) sm
    rw [List.append_nil] at this
    exact this
theorem rv_frz {K : PySem.W.Frag} {cl : Nat → Addr} {L L1 : List Addr} {F H F1 H1 : Hp} {S1 : Stv} {v : V} {r : Rv} {d : D} (n : Nx L F H L1 F1 H1) (s : SV K cl F1 H1 L1 S1) (h : RV K cl L1 F1 H H1 v r) (e : rvD r = some d) :
    ∃ F2, Nx L F H L1 F2 H1 ∧ SV K cl F2 H1 L1 S1 ∧ Dp K F2 v d ∧ Same F1 F2 := by
  cases r with
  | v d' => cases e; exact ⟨F1, n, s, h, Same.refl _⟩
  | mu m => cases e
  | nw c =>
    cases c with
    | lst ds =>
      cases e
      obtain ⟨a, o, rfl, h0, hL, hf, hh, hc⟩ := h
      exact frz_new n s h0 hL hf hh hc
    | lse _ => cases e
    | dct _ _ => cases e
    | obj _ _ => cases e
    | gone => cases e
/-- an object becomes a cell -/
theorem own_new {K : PySem.W.Frag} {cl : Nat → Addr} {L L1 : List Addr} {F H F1 H1 : Hp} {S1 : Stv} {a : Addr} {o : HO} {c : Cell} (n : Nx L F H L1 F1 H1) (s : SV K cl F1 H1 L1 S1) (h0 : H a = none) (hL : a ∉ L1) (hf : F1 a = none) (hh : H1 a = some o) (hc : CellOk K cl F1 L1 o c) :
    Nx L F H (L1 ++ [a]) F1 H1 ∧ SV K cl F1 H1 (L1 ++ [a]) (S1 ++ [c]) ∧ (L1 ++ [a])[S1.length]? = some a := by
  have hlast : (L1 ++ [a])[S1.length]? = some a := by
    rw [← s.len, List.getElem?_append_right (Nat.le_refl _), Nat.sub_self]
    rfl
  refine ⟨⟨n.stp, ?_⟩, ⟨s.sub, by simp [s.len], ?_, fun m b e => ?_⟩, hlast⟩
  · obtain ⟨_, R, rfl, f⟩ := n
    refine ⟨R ++ [a], by rw [List.append_assoc], fun x hx => ?_⟩
    rcases List.mem_append.mp hx with q | q
    · exact f x q
    · have : x = a := by simpa using q
      rw [this]; exact h0
  · rw [List.nodup_append]
    exact ⟨s.nd, by simp, fun x hx y hy => by
      have : y = a := by simpa using hy
      subst this
      exact fun z => hL (z ▸ hx)⟩
  · by_cases hm : m < L1.length
    · rw [List.getElem?_append_left hm] at e
      obtain ⟨x, y⟩ := s.st m b e
      refine ⟨x, fun c' e1 e2 => ?_⟩
      rw [List.getElem?_append_left (by rw [← s.len]; exact hm)] at e1
      obtain ⟨f, o', h1, h2⟩ := y c' e1 e2
      exact ⟨f, o', h1, h2.mono (Same.refl _)⟩
    · have hm2 : m = S1.length := by
        have := (List.getElem?_eq_some_iff.mp e).1
        simp at this
        rw [← s.len]; omega
      subst hm2
      rw [hlast] at e
      cases e
      refine ⟨by rw [hh]; exact nofun, fun c' e1 e2 => ?_⟩
      rw [List.getElem?_append_right (Nat.le_refl _), Nat.sub_self] at e1
      cases e1
      exact ⟨hf, o, hh, hc.mono (Same.refl _)⟩
/-- a result as a slot's content -/
@[simp] def rvE : Rv → Stv → En × Stv
  | .v d, S => (.dt d, S)
  | .mu n, S => (.mu n, S)
  | .nw (.lst ds), S => (.dt (.list ds), S)
  | .nw c, S => (.mu S.length, S ++ [c])
theorem rv_en {K : PySem.W.Frag} {cl : Nat → Addr} {L L1 : List Addr} {F H F1 H1 : Hp} {S1 : Stv} {v : V} {r : Rv} (n : Nx L F H L1 F1 H1) (s : SV K cl F1 H1 L1 S1) (h : RV K cl L1 F1 H H1 v r) :
    ∃ L2 F2, Nx L F H L2 F2 H1 ∧ SV K cl F2 H1 L2 (rvE r S1).2 ∧ EnOk K F2 L2 (rvE r S1).1 (some v) := by
  cases r with
  | v d' => exact ⟨L1, F1, n, s, v, rfl, h⟩
  | mu m =>
    obtain ⟨a, rfl, h⟩ := h
    exact ⟨L1, F1, n, s, a, rfl, h⟩
  | nw c =>
    obtain ⟨a, o, rfl, h0, hL, hf, hh, hc⟩ := h
    have own : ∃ L2 F2, Nx L F H L2 F2 H1 ∧ SV K cl F2 H1 L2 (S1 ++ [c]) ∧ EnOk K F2 L2 (.mu S1.length) (some (V.ref a)) := by
      obtain ⟨x, y, z⟩ := own_new n s h0 hL hf hh hc
      exact ⟨_, F1, x, y, a, rfl, z⟩
    cases c with
    | lst ds =>
      obtain ⟨F2, x, y, z, _⟩ := frz_new n s h0 hL hf hh hc
      exact ⟨L1, F2, x, y, _, rfl, z⟩
    | lse _ => exact own
    | dct _ _ => exact own
    | obj _ _ => exact own
    | gone => exact hc.elim
/-- always a cell of one's own -/
def rvO : Rv → Stv → Out (En)
  | .nw c, S => .ok (.mu S.length) (S ++ [c])
  | _, _ => .bad
end VM
end

section
set_option Elab.async false
set_option linter.all false
set_option maxRecDepth 100000
set_option maxHeartbeats 4000000
namespace VM
open PySem PySem.Spec PyProof.Rows L2 DL

/-! ## the text as a term -/
inductive Bop where | add | sub | mul | mod | fdiv | pow
inductive Cop where | eq | ne | lt | le | gt | ge | isin | notin | isn | notn
inductive Bif where | len | max | min | ord | abs | int | bool | list | tuple | sum | str | sorted | any | all
inductive Bmt where | append | pop | extend | reverse | index | join | items | get
inductive Tgt where
  | nm (i : Nat)
  | tp (is : List Nat)
mutual
inductive Ex where
  | var (i : Nat)
  | con (v : D)
  | glb (k : Nat) (d : D)
  | bin (o : Bop) (a b : Ex)
  | neg (a : Ex)
  | not (a : Ex)
  | and (a b : Ex)
  | or (a b : Ex)
  | ife (c : Tx) (a b : Ex)
  | cmp (o : Cop) (a b : Ex)
  | chn (o o' : Cop) (a b c : Ex)
  | tup (es : Exs)
  | lst (es : Exs)
  | dnw (t : Bool)
  | idx (a i : Ex)
  | slc (a : Ex) (lo hi : Exo)
  | call (f : Nat) (es : Exs)
  | mth (c f : Nat) (m : Str) (o : Ex) (es : Exs)
  | mak (c f : Nat) (es : Exs)
  | fld (m : Str) (o : Ex)
  | isi (T : String) (a : Ex)
  | bi (b : Bif) (es : Exs)
  | bm (b : Bmt) (o : Ex) (es : Exs)
  | lc (ws : List Nat) (g : Tgt) (it : Itr) (c : Txo) (e : Ex)
  | lrg (a : Exo) (b : Ex) (t : Bool)
  | own (e : Ex)
  | bad
  | its (e : Ex)
  | ddc (kvs : List (Str × Str))
  | dgt (o k x : Ex)
inductive Exs where
  | nil
  | cons (e : Ex) (es : Exs)
  | star (e : Ex) (es : Exs)
inductive Exo where
  | none
  | some (e : Ex)
inductive Itr where
  | sq (e : Ex)
  | rg1 (a : Ex)
  | rg2 (a b : Ex)
  | enu (e : Ex)
  | rev (e : Ex)
inductive Tx where
  | val (e : Ex)
  | not (t : Tx)
  | and (t u : Tx)
  | or (t u : Tx)
  | cmp (o : Cop) (a b : Ex)
  | chn (o o' : Cop) (a b c : Ex)
inductive Txo where
  | none
  | some (t : Tx)
end
inductive St where
  | nop
  | seq (a b : St)
  | asg (g : Tgt) (e : Ex)
  | aug (i : Nat) (o : Bop) (e : Ex)
  | ite (c : Tx) (a b : St)
  | for_ (g : Tgt) (it : Itr) (b : St) (ks : List Nat)
  | whl (c : Tx) (b : St) (ks : List Nat)
  | ret (e : Ex)
  | retn
  | brk
  | cnt
  | exp (e : Ex)
  | seti (o i e : Ex)
  | setf (m : Str) (o e : Ex)
  | sett (o : Ex) (es : Exs) (e : Ex)
  | augf (m : Str) (o : Ex) (b : Bop) (e : Ex)
  | bad

/-! ## what it computes -/
abbrev big : Nat := 16000000
@[simp] def truR (S : Stv) : Rv → Option Bool
  | .v .none => some false
  | .v (.bool b) => some b
  | .v (.int i) => some (i != 0)
  | .v (.str s) => if s.length ≤ sizeLine then some ((s.length : Int) != 0) else none
  | .v (.list ds) => some (!ds.isEmpty)
  | .v (.tuple ds) => some (!ds.isEmpty)
  | .v (.dict _) => none
  | .mu n => match S[n]? with
    | some (.lst ds) => some (!ds.isEmpty)
    | some (.lse es) => some (!es.isEmpty)
    | _ => none
  | .nw (.lst ds) => some (!ds.isEmpty)
  | .nw _ => none
@[simp] def truO (r : Rv) (S : Stv) : Out Bool := match truR S r with
  | some b => .ok b S
  | none => .bad
/-- a list that is read -/
@[simp] def lstR (S : Stv) : Rv → Option (List D)
  | .v (.list ds) => some ds
  | .mu n => match S[n]? with
    | some (.lst ds) => some ds
    | _ => none
  | .nw (.lst ds) => some ds
  | _ => none
@[simp] def sqR (S : Stv) : Rv → Option (List D)
  | .v (.tuple ds) => some ds
  | r => lstR S r
@[simp] def enDs : List En → Option (List D)
  | [] => some []
  | .dt d :: es => (enDs es).map (d :: ·)
  | _ :: _ => none
def cutD (xs : List D) (lo hi : Option Int) : List D := (xs.drop (HT.sIx xs.length 0 lo)).take (HT.sIx xs.length xs.length hi - HT.sIx xs.length 0 lo)
@[simp] def okD (d : D) (S : Stv) : Out Rv := .ok (.v d) S
def binR (o : Bop) (x y : Rv) (S : Stv) : Out Rv :=
  match o, x, y with
  | .add, .v (.int i), .v (.int j) => okD (.int (i + j)) S
  | .sub, .v (.int i), .v (.int j) => okD (.int (i - j)) S
  | .mul, .v (.int i), .v (.int j) => if (-(2 ^ 64) < i ∧ i < 2 ^ 64) ∨ (-(2 ^ 64) < j ∧ j < 2 ^ 64) then okD (.int (i * j)) S else .bad
  | .mul, .v (.tuple a), .v (.int k) => if 0 < a.length ∧ 0 ≤ k ∧ k ≤ 1000 ∧ a.length ≤ 1000 then okD (.tuple (List.replicate k.toNat a).flatten) S else .bad
  | .mod, .v (.int i), .v (.int j) => if 0 < j then okD (.int (i % j)) S else .bad
  | .fdiv, .v (.int i), .v (.int j) => if 0 < j ∧ j < 1073741824 then okD (.int (i / j)) S else .bad
  | .pow, .v (.int i), .v (.int j) => if 0 ≤ j ∧ j ≤ 1000000 ∧ i.natAbs < 2 ^ 64 then okD (.int (i ^ j.toNat)) S else .bad
  | .add, .v (.str a), .v (.str b) => if a.length + b.length ≤ sizeLine then okD (.str (a ++ b)) S else .bad
  | .add, .v (.tuple a), .v (.tuple b) => if a.length + b.length ≤ big then okD (.tuple (a ++ b)) S else .bad
  | .add, x, y => match lstR S x, lstR S y with
    | some a, some b => if a.length + b.length ≤ big then .ok (.nw (.lst (a ++ b))) S else .bad
    | _, _ => .bad
  | _, _, _ => .bad
/-- what can be compared: data, or a list's present content -/
@[simp] def datR (S : Stv) : Rv → Option D
  | .v d => some d
  | r => (lstR S r).map .list
@[simp] def eqD : D → D → Option Bool
  | .none, .none => some true
  | .int i, .int j => some (decide (i = j))
  | .str i, .str j => some (decide (i = j))
  | .bool i, .bool j => some (decide (i = j))
  | .none, .int _ => some false
  | .none, .str _ => some false
  | .none, .bool _ => some false
  | .int _, .none => some false
  | .str _, .none => some false
  | .bool _, .none => some false
  | .int _, .str _ => some false
  | .str _, .int _ => some false
  | d, e => if SeqAt.shaped d = true ∧ SeqAt.shaped e = true then some (PyData.eqv d e) else none
@[simp] def isNone : D → Bool
  | .none => true
  | _ => false
def flatD : D → Bool
  | .none => true
  | .int _ => true
  | .str _ => true
  | .bool _ => true
  | _ => false
def eqF : D → D → Bool
  | .none, .none => true
  | .bool a, .bool b => a == b
  | .bool a, .int b => (if a then 1 else 0) == b
  | .int a, .bool b => a == (if b then 1 else 0)
  | .int a, .int b => a == b
  | .str a, .str b => a == b
  | _, _ => false
/-- a key's value in a dict -/
def dgetD (t : Bool) (kvs : List (D × D)) (k : D) : Option (Option D) :=
  match t with
  | false => (keyK k).map fun x => (kvs.find? fun p => decide (keyK p.1 = some x)).map (·.2)
  | true => (keyT k).map fun x => (kvs.find? fun p => decide (keyT p.1 = some x)).map (·.2)
def inR (x y : Rv) (S : Stv) : Option Bool :=
  match x, y with
  | .v d, .mu n => match S[n]? with
    | some (.dct t kvs) => (dgetD t kvs d).map (·.isSome)
    | some (.lst ds) => if SeqAt.shaped d = true ∧ SeqAt.shaped (.list ds) = true then some (ds.any fun z => PyData.eqv z d) else none
    | _ => none
  | .v (.str a), .v (.str b) => some (!(Builtin.Str.occurrences b a 0 b.length 1).isEmpty)
  | .v d, .v (.tuple ds) => if flatD d = true ∧ ds.all flatD = true then some (ds.any fun z => eqF z d) else none
  | .v d, .v (.list ds) => if SeqAt.shaped d = true ∧ SeqAt.shaped (.list ds) = true then some (ds.any fun z => PyData.eqv z d) else none
  | .v d, .nw (.lst ds) => if SeqAt.shaped d = true ∧ SeqAt.shaped (.list ds) = true then some (ds.any fun z => PyData.eqv z d) else none
  | _, _ => none
@[simp] def cmpR (o : Cop) (x y : Rv) (S : Stv) : Option Bool :=
  match o with
  | .eq => match datR S x, datR S y with
    | some d, some e => eqD d e
    | _, _ => none
  | .ne => match datR S x, datR S y with
    | some d, some e => (eqD d e).map (!·)
    | _, _ => none
  | .lt => match x, y with
    | .v (.int i), .v (.int j) => some (decide (i < j))
    | _, _ => none
  | .le => match x, y with
    | .v (.int i), .v (.int j) => some (decide (i ≤ j))
    | _, _ => none
  | .gt => match x, y with
    | .v (.int i), .v (.int j) => some (decide (j < i))
    | _, _ => none
  | .ge => match x, y with
    | .v (.int i), .v (.int j) => some (decide (j ≤ i))
    | _, _ => none
  | .isn => match x, y with
    | .v d, .v .none => some (isNone d)
    | .mu _, .v .none => some false
    | _, _ => none
  | .notn => match x, y with
    | .v d, .v .none => some (!isNone d)
    | .mu _, .v .none => some true
    | _, _ => none
  | .isin => inR x y S
  | .notin => (inR x y S).map (!·)
@[simp] def cmpO (o : Cop) (x y : Rv) (S : Stv) : Out Bool := match cmpR o x y S with
  | some b => .ok b S
  | none => .bad
@[simp] def idxO (x y : Rv) (S : Stv) : Out Rv :=
  match y with
  | .v d => match x with
    | .mu n => match S[n]? with
      | some (.dct t kvs) => match dgetD t kvs d with
        | some (some e) => okD e S
        | _ => .bad
      | some (.lst ds) => match d with
        | .int i => match atI ds i with
          | some e => okD e S
          | none => .bad
        | _ => .bad
      | some (.lse es) => match d with
        | .int i => match atI es i with
          | some (.dt e) => okD e S
          | some (.mu m) => .ok (.mu m) S
          | _ => .bad
        | _ => .bad
      | _ => .bad
    | .v (.str z) => match d with
      | .int i => if z.length ≤ sizeLine then match atI z.cps.toList i with
        | some c => okD (.str ⟨#[c]⟩) S
        | none => .bad
        else .bad
      | _ => .bad
    | x => match d with
      | .int i => match sqR S x with
        | some ds => match atI ds i with
          | some e => okD e S
          | none => .bad
        | none => .bad
      | _ => .bad
  | _ => .bad
@[simp] def slcO (x : Rv) (lo hi : Option Int) (S : Stv) : Out Rv :=
  match x with
  | .v (.str z) => if z.length ≤ sizeLine then okD (.str (cutS z lo hi)) S else .bad
  | .v (.tuple ds) => okD (.tuple (cutD ds lo hi)) S
  | x => match lstR S x with
    | some ds => .ok (.nw (.lst (cutD ds lo hi))) S
    | none => .bad
@[simp] def lenO (x : Rv) (S : Stv) : Out Rv :=
  match x with
  | .v (.str z) => if z.length ≤ sizeLine then okD (.int (z.length : Int)) S else .bad
  | .mu n => match S[n]? with
    | some (.lst ds) => okD (.int (ds.length : Int)) S
    | some (.lse es) => okD (.int (es.length : Int)) S
    | _ => .bad
  | x => match sqR S x with
    | some ds => okD (.int (ds.length : Int)) S
    | none => .bad
def intsD : List D → Option (List Int)
  | [] => some []
  | .int i :: ds => (intsD ds).map (i :: ·)
  | _ :: _ => none
def boolsD : List D → Option (List Bool)
  | [] => some []
  | .bool i :: ds => (boolsD ds).map (i :: ·)
  | _ :: _ => none
def strsD : List D → Option (List Str)
  | [] => some []
  | .str i :: ds => (strsD ds).map (i :: ·)
  | _ :: _ => none
def leI (x y : Int) : Bool := decide (x ≤ y)
def sortI (ns : List Int) : List Int := ns.mergeSort leI
theorem sortI_perm (ns : List Int) : (sortI ns).Perm ns := List.mergeSort_perm _ _
theorem sortI_le (ns : List Int) : (sortI ns).Pairwise (· ≤ ·) := (List.pairwise_mergeSort (le := leI) (fun a b c => by simp only [leI, decide_eq_true_eq]; omega) (fun a b => by simp only [leI, Bool.or_eq_true, decide_eq_true_eq]; omega) ns).imp fun h => by simpa [leI] using h
theorem sortI_eq {ns ms : List Int} (h : ms.Perm ns) (hp : ms.Pairwise (· ≤ ·)) : sortI ns = ms := List.Perm.eq_of_pairwise (le := (· ≤ ·)) (fun x y _ _ a b => by omega) (sortI_le ns) hp ((sortI_perm ns).trans h.symm)
def leP (x y : Int × Int) : Bool := decide (x.1 < y.1 ∨ (x.1 = y.1 ∧ x.2 ≤ y.2))
def sortPr (ps : List (Int × Int)) : List (Int × Int) := ps.mergeSort leP
theorem sortPr_perm (ps : List (Int × Int)) : (sortPr ps).Perm ps := List.mergeSort_perm _ _
theorem sortPr_le (ps : List (Int × Int)) : (sortPr ps).Pairwise lexP := (List.pairwise_mergeSort (le := leP) (fun a b c => by simp only [leP, decide_eq_true_eq]; omega) (fun a b => by simp only [leP, Bool.or_eq_true, decide_eq_true_eq]; omega) ps).imp fun h => by simpa [leP, lexP] using h
def prsD : List D → Option (List (Int × Int))
  | [] => some []
  | .tuple [.int i, .int j] :: ds => (prsD ds).map ((i, j) :: ·)
  | _ :: _ => none
def srtD (ds : List D) : Option (List D) := match intsD ds with
  | some ns => some ((sortI ns).map .int)
  | none => match prsD ds with
    | some ps => some ((sortPr ps).map encP)
    | none => none
def srtO (x : Rv) (S : Stv) : Out Rv := match x with
  | .mu n => match S[n]? with
    | some (.dct false kvs) => match intsD (kvs.map (·.1)) with
      | some ks => if ks.length < 64 then .ok (.nw (.lst ((sortI ks).map .int))) S else .bad
      | none => .bad
    | some (.lst ds) => match srtD ds with
      | some es => .ok (.nw (.lst es)) S
      | none => .bad
    | _ => .bad
  | x => match lstR S x with
    | some ds => match srtD ds with
      | some es => .ok (.nw (.lst es)) S
      | none => .bad
    | none => .bad
@[simp] def biO (b : Bif) (xs : List Rv) (S : Stv) : Out Rv :=
  match b, xs with
  | .len, [x] => lenO x S
  | .sorted, [x] => srtO x S
  | .max, [.v (.int i), .v (.int j)] => okD (.int (Max.max i j)) S
  | .min, [.v (.int i), .v (.int j)] => okD (.int (Min.min i j)) S
  | .ord, [.v (.str z)] => if z.length = 1 then okD (.int (z.cps.getD 0 0 : Nat)) S else .bad
  | .int, [.v (.int i)] => okD (.int i) S
  | .int, [.v (.bool b)] => okD (.int (if b then 1 else 0)) S
  | .list, [x] => match sqR S x with
    | some ds => .ok (.nw (.lst ds)) S
    | none => .bad
  | .bool, [.v (.bool b)] => okD (.bool b) S
  | .bool, [.v (.int i)] => okD (.bool (i != 0)) S
  | .bool, [x] => match lstR S x with
    | some ds => okD (.bool (!ds.isEmpty)) S
    | none => .bad
  | .sum, [x] => match lstR S x with
    | some ds => match intsD ds with
      | some ns => okD (.int ns.sum) S
      | none => .bad
    | none => .bad
  | .any, [x] => match lstR S x with
    | some ds => match boolsD ds with
      | some bs => okD (.bool (bs.any id)) S
      | none => .bad
    | none => .bad
  | .all, [x] => match lstR S x with
    | some ds => match boolsD ds with
      | some bs => okD (.bool (bs.all id)) S
      | none => .bad
    | none => .bad
  | .tuple, [x] => match sqR S x with
    | some ds => okD (.tuple ds) S
    | none => .bad
  | _, _ => .bad
/-- what a method's receiver must be -/
@[simp] def bmT (b : Bmt) (x : Rv) (S : Stv) : Bool := match b, x with
  | .join, .v (.str _) => true
  | .append, .mu n | .pop, .mu n | .extend, .mu n | .reverse, .mu n | .index, .mu n => match S[n]? with
    | some (.lst _) => true
    | some (.lse _) => true
    | _ => false
  | _, _ => false
/-- where a flat item stands first -/
def findD (d : D) : List D → Option Nat
  | [] => none
  | z :: ds => if eqF z d = true then some 0 else (findD d ds).map (· + 1)
/-- a dict that is read by get -/
@[simp] def dctB (x : Rv) (S : Stv) : Bool := match x with
  | .mu n => match S[n]? with
    | some (.dct false _) => true
    | _ => false
  | _ => false
@[simp] def dgtO (y z r : Rv) (S : Stv) : Out Rv :=
  match y, z with
  | .mu n, .v d => match S[n]? with
    | some (.dct false kvs) => match dgetD false kvs d with
      | some (some e) => okD e S
      | some none => match r with
        | .v e => okD e S
        | _ => .bad
      | none => .bad
    | _ => .bad
  | _, _ => .bad
/-- methods of lists, texts, dicts -/
@[simp] def bmO (b : Bmt) (x : Rv) (xs : List Rv) (S : Stv) : Out Rv :=
  match b, x, xs with
  | .append, .mu n, [.v d] => match S[n]? with
    | some (.lst ds) => if ds.length < big then .ok (.v .none) (S.set n (.lst (ds ++ [d]))) else .bad
    | some (.lse es) => if es.length < big then .ok (.v .none) (S.set n (.lse (es ++ [.dt d]))) else .bad
    | _ => .bad
  | .append, .mu n, [.nw (.lst es)] => match S[n]? with
    | some (.lst ds) => if ds.length < big then .ok (.v .none) (S.set n (.lst (ds ++ [.list es]))) else .bad
    | _ => .bad
  | .append, .mu n, [.mu m] => match S[n]? with
    | some (.lst []) => .ok (.v .none) (S.set n (.lse [.mu m]))
    | some (.lse es) => if es.length < big then .ok (.v .none) (S.set n (.lse (es ++ [.mu m]))) else .bad
    | _ => .bad
  | .pop, .mu n, [] => match S[n]? with
    | some (.lst ds) => match ds.getLast? with
      | some d => .ok (.v d) (S.set n (.lst ds.dropLast))
      | none => .bad
    | _ => .bad
  | .extend, .mu n, [y] => match S[n]?, sqR S y with
    | some (.lst ds), some es => if ds.length + es.length ≤ big then .ok (.v .none) (S.set n (.lst (ds ++ es))) else .bad
    | _, _ => .bad
  | .reverse, .mu n, [] => match S[n]? with
    | some (.lst ds) => .ok (.v .none) (S.set n (.lst ds.reverse))
    | _ => .bad
  | .index, .mu n, [.v d] => match S[n]? with
    | some (.lst ds) => if flatD d = true ∧ ds.all flatD = true then match findD d ds with
      | some j => okD (.int (j : Nat)) S
      | none => .bad
      else .bad
    | _ => .bad
  | .join, .v (.str a), [y] => match sqR S y with
    | some ds => match strsD ds with
      | some ys => if (ys.map (·.length)).sum + ys.length * a.length ≤ 16777216 then okD (.str (Txt.join a ys)) S else .bad
      | none => .bad
    | none => .bad
  | _, _, _ => .bad
/-! ### slots -/
@[simp] def bindL : List Nat → List D → Rho → Rho
  | i :: is, d :: ds, ρ => bindL is ds (ρ.set i (.dt d))
  | _, _, ρ => ρ
@[simp] def bindE : Tgt → En → Rho → Option Rho
  | .nm i, e, ρ => some (ρ.set i e)
  | .tp is, .dt (.tuple ds), ρ => if ds.length = is.length then some (bindL is ds ρ) else none
  | _, _, _ => none
@[simp] def tgIn : Tgt → List Nat → Bool
  | .nm i, ws => decide (i ∈ ws)
  | .tp is, ws => is.all fun i => decide (i ∈ ws)
@[simp] def kill (ks : List Nat) (ρ : Rho) : Rho := ks.foldl (fun ρ i => ρ.set i .un) ρ
@[simp] def fitE (n : Nat) : En → Bool
  | .mu m => decide (m < n)
  | _ => true
@[simp] def fitC (n : Nat) : Cell → Bool
  | .lse es => es.all (fitE n)
  | .obj _ fs => fs.all fun p => fitE n p.2
  | _ => true
@[simp] def fitS (n : Nat) (S : Stv) : Bool := S.all (fitC n)
/-- cells behind the n-th that nothing knows -/
@[simp] def trim (n : Nat) (ρ : Rho) (S : Stv) : Stv := if S.length ≤ n then S else if ρ.all (fitE n) && fitS n (S.take n) then S.take n else S
/-! ### statements' outcomes -/
inductive Fl where
  | nx (ρ : Rho) (S : Stv)
  | rt (r : Rv) (S : Stv)
  | bk (ρ : Rho) (S : Stv)
  | ct (ρ : Rho) (S : Stv)
  | ex (c : Nat) (fs : List (Str × D)) (ρ : Rho) (S : Stv)
  | bad
def Fl.seq : Fl → (Rho → Stv → Fl) → Fl
  | .nx ρ S, f => f ρ S
  | x, _ => x
def Out.fl {α : Type} (ρ : Rho) : Out α → (α → Stv → Fl) → Fl
  | .ok a S, f => f a S
  | .ex c fs S, _ => .ex c fs ρ S
  | .bad, _ => .bad
@[simp] theorem Out.fl_ok {α : Type} (ρ : Rho) (a : α) (S : Stv) (f : α → Stv → Fl) : (Out.ok a S).fl ρ f = f a S := rfl
@[simp] theorem Out.fl_bad {α : Type} (ρ : Rho) (f : α → Stv → Fl) : (Out.bad : Out α).fl ρ f = .bad := rfl
@[simp] theorem Out.fl_ex {α : Type} (ρ : Rho) (c : Nat) (fs : List (Str × D)) (S : Stv) (f : α → Stv → Fl) : (Out.ex c fs S : Out α).fl ρ f = .ex c fs ρ S := rfl
/-- what is walked: the items; a cell that must stay -/
abbrev Items := List En × Option (Nat × Cell)
def chk : Option (Nat × Cell) → Stv → Prop
  | none, _ => True
  | some (n, c), S => S[n]? = some c
@[simp] def itemsO (x : Rv) (S : Stv) : Out Items :=
  match x with
  | .v (.list ds) => .ok (ds.map .dt, none) S
  | .v (.tuple ds) => .ok (ds.map .dt, none) S
  | .nw (.lst ds) => .ok (ds.map .dt, none) S
  | .v (.str z) => .ok (z.cps.toList.map fun c => .dt (.str ⟨#[c]⟩), none) S
  | .mu n => match S[n]? with
    | some (.lst ds) => .ok (ds.map .dt, some (n, .lst ds)) S
    | some (.lse es) => .ok (es, some (n, .lse es)) S
    | _ => .bad
  | _ => .bad
open Classical in
noncomputable def loopF (f : En → Rho → Stv → Fl) (ch : Option (Nat × Cell)) (ks : List Nat) (n0 : Nat) : List En → Rho → Stv → Fl
  | [], ρ, S => .nx ρ S
  | e :: es, ρ, S => match f e ρ S with
    | .nx ρ' S' => if chk ch (trim n0 (kill ks ρ') S') then loopF f ch ks n0 es (kill ks ρ') (trim n0 (kill ks ρ') S') else .bad
    | .ct ρ' S' => if chk ch (trim n0 (kill ks ρ') S') then loopF f ch ks n0 es (kill ks ρ') (trim n0 (kill ks ρ') S') else .bad
    | .bk ρ' S' => .nx ρ' S'
    | x => x
def whileN (t : Rho → Stv → Out Bool) (f : Rho → Stv → Fl) (ks : List Nat) (n0 : Nat) : Nat → Rho → Stv → Fl
  | 0, _, _ => .bad
  | n + 1, ρ, S => (t ρ S).fl ρ fun b S1 => if b = true then
      match f ρ S1 with
      | .nx ρ' S' => whileN t f ks n0 n (kill ks ρ') (trim n0 (kill ks ρ') S')
      | .ct ρ' S' => whileN t f ks n0 n (kill ks ρ') (trim n0 (kill ks ρ') S')
      | .bk ρ' S' => .nx ρ' S'
      | x => x
    else .nx ρ S1
open Classical in
noncomputable def whileF (t : Rho → Stv → Out Bool) (f : Rho → Stv → Fl) (ks : List Nat) (n0 : Nat) (ρ : Rho) (S : Stv) : Fl :=
  if h : ∃ n, whileN t f ks n0 n ρ S ≠ .bad then whileN t f ks n0 h.choose ρ S else .bad
open Classical in
noncomputable def lcF (t : Rho → Stv → Out Bool) (f : Rho → Stv → Out Rv) (b : En → Rho → Option Rho) (ch : Option (Nat × Cell)) (n0 : Nat) (ρ : Rho) : List En → List D → Stv → Out (List D)
  | [], acc, S => .ok acc S
  | e :: es, acc, S => match b e ρ with
    | none => .bad
    | some ρ1 => match t ρ1 S with
      | .ok k S1 => if k = true then match f ρ1 S1 with
        | .ok r S2 => match rvD r with
          | some d => if chk ch (trim n0 ρ S2) ∧ acc.length < big then lcF t f b ch n0 ρ es (acc ++ [d]) (trim n0 ρ S2) else .bad
          | none => .bad
        | _ => .bad
        else if chk ch (trim n0 ρ S1) then lcF t f b ch n0 ρ es acc (trim n0 ρ S1) else .bad
      | _ => .bad
def enumD (k : Nat) : List D → List D
  | [] => []
  | d :: ds => .tuple [.int k, d] :: enumD (k + 1) ds
@[simp] def enuO (x : Rv) (S : Stv) : Out Items :=
  match x with
  | .v (.list ds) => .ok ((enumD 0 ds).map .dt, none) S
  | .nw (.lst ds) => .ok ((enumD 0 ds).map .dt, none) S
  | .mu n => match S[n]? with
    | some (.lst ds) => .ok ((enumD 0 ds).map .dt, some (n, .lst ds)) S
    | _ => .bad
  | _ => .bad
@[simp] def revO (x : Rv) (S : Stv) : Out Items :=
  match x with
  | .v (.list ds) => .ok (ds.reverse.map .dt, none) S
  | .v (.tuple ds) => .ok (ds.reverse.map .dt, none) S
  | .nw (.lst ds) => .ok (ds.reverse.map .dt, none) S
  | .mu n => match S[n]? with
    | some (.lst ds) => .ok (ds.reverse.map .dt, some (n, .lst ds)) S
    | _ => .bad
  | _ => .bad
@[simp] def itsO (x : Rv) (S : Stv) : Out Rv :=
  match x with
  | .mu n => match S[n]? with
    | some (.dct false kvs) => .ok (.nw (.lst (kvs.map fun p => .tuple [p.1, p.2]))) S
    | _ => .bad
  | _ => .bad
@[simp] def strO (x : Rv) (S : Stv) : Option (List En) := (sqR S x).map fun ds => ds.map .dt
def intO : Rv → Option Int
  | .v (.int i) => some i
  | _ => none

/-! ### calls -/
abbrev CB1 := Nat → List En → Stv → Out Rv
/-- a def's call; a new instance's __init__ (true) -/
abbrev CB := Bool → CB1
@[simp] def refE : En → List Nat
  | .mu n => [n]
  | _ => []
@[simp] def refC : Cell → List Nat
  | .lse es => es.flatMap refE
  | .obj _ fs => fs.flatMap fun p => refE p.2
  | _ => []
@[simp] def reach : Nat → Stv → List Nat → List Nat → List Nat
  | 0, _, done, _ => done
  | _ + 1, _, done, [] => done
  | f + 1, S, done, k :: todo => if k ∈ done then reach f S done todo else match S[k]? with
    | some c => reach f S (done ++ [k]) (todo ++ refC c)
    | none => reach f S (done ++ [k]) todo
@[simp] def mapE (f : Nat → Nat) : En → En
  | .mu n => .mu (f n)
  | e => e
@[simp] def mapC (f : Nat → Nat) : Cell → Cell
  | .lse es => .lse (es.map (mapE f))
  | .obj c fs => .obj c (fs.map fun p => (p.1, mapE f p.2))
  | c => c
@[simp] def mapR (f : Nat → Nat) : Rv → Rv
  | .mu n => .mu (f n)
  | .nw c => .nw (mapC f c)
  | r => r
@[simp] def inK (ks : List Nat) (e : En) : Bool := (refE e).all fun k => decide (k ∈ ks)
@[simp] def nodupB : List Nat → Bool
  | [] => true
  | k :: ks => !decide (k ∈ ks) && nodupB ks
/-- the cells that a call sees, by their numbers; each knows only such -/
@[simp] def subOk (S : Stv) (ks : List Nat) : Bool := nodupB ks && ks.all fun k => match S[k]? with
  | some c => (refC c).all fun j => decide (j ∈ ks)
  | none => false
@[simp] def subS (S : Stv) (ks : List Nat) : Stv := ks.map fun k => mapC (fun j => ks.idxOf j) (S.getD k .gone)
@[simp] def unK (ks : List Nat) (m j : Nat) : Nat := if j < ks.length then ks.getD j 0 else m + (j - ks.length)
@[simp] def mergeC (ks : List Nat) (m : Nat) (S' : Stv) : Nat → Stv → Stv
  | _, [] => []
  | i, c :: cs => (if i ∈ ks then mapC (unK ks m) (S'.getD (ks.idxOf i) .gone) else c) :: mergeC ks m S' (i + 1) cs
@[simp] def merge (S : Stv) (ks : List Nat) (S' : Stv) : Stv := mergeC ks S.length S' 0 S ++ (S'.drop ks.length).map (mapC (unK ks S.length))
@[simp] def callK (cb : CB1) (f : Nat) (ens : List En) (S : Stv) (ks : List Nat) : Out Rv :=
  if subOk S ks = true ∧ ens.all (inK ks) = true then
    match cb f (ens.map (mapE fun j => ks.idxOf j)) (subS S ks) with
    | .ok r S' => if ks.length ≤ S'.length then .ok (mapR (unK ks S.length) r) (merge S ks S') else .bad
    | .ex c fs S' => if ks.length ≤ S'.length then .ex c fs (merge S ks S') else .bad
    | .bad => .bad
  else .bad
@[simp] def callC (cb : CB1) (f : Nat) (ens : List En) (S : Stv) : Out Rv := callK cb f ens S (reach 100 S [] (ens.flatMap refE))
@[simp] def isC : D → Bool
  | .int _ => true
  | .bool _ => true
  | .str _ => true
  | .none => true
  | _ => false
@[simp] def bmA : Bmt → Exs → Bool
  | .pop, .nil => true
  | .reverse, .nil => true
  | .append, .cons _ .nil => true
  | .extend, .cons _ .nil => true
  | .join, .cons _ .nil => true
  | .index, .cons _ .nil => true
  | _, _ => false
noncomputable section
mutual
def evE (cb : CB) (ρ : Rho) : Stv → Ex → Out Rv
  | S, .var i => match ρ[i]? with
    | some (.dt d) => .ok (.v d) S
    | some (.mu n) => .ok (.mu n) S
    | _ => .bad
  | S, .con d => if isC d = true then okD d S else .bad
  | S, .glb _ d => okD d S
  | S, .bin o a b => (evE cb ρ S a).bind fun x S1 => (evE cb ρ S1 b).bind fun y S2 => binR o x y S2
  | S, .neg a => (evE cb ρ S a).bind fun x S1 => match x with
    | .v (.int i) => okD (.int (-i)) S1
    | _ => .bad
  | S, .not a => (evE cb ρ S a).bind fun x S1 => (truO x S1).bind fun b S2 => okD (.bool (!b)) S2
  | S, .and a b => (evE cb ρ S a).bind fun x S1 => (truO x S1).bind fun k S2 => if k = true then evE cb ρ S2 b else .ok x S2
  | S, .or a b => (evE cb ρ S a).bind fun x S1 => (truO x S1).bind fun k S2 => if k = true then .ok x S2 else evE cb ρ S2 b
  | S, .ife c a b => (evT cb ρ S c).bind fun k S1 => if k = true then evE cb ρ S1 a else evE cb ρ S1 b
  | S, .cmp o a b => (evE cb ρ S a).bind fun x S1 => (evE cb ρ S1 b).bind fun y S2 => (cmpO o x y S2).bind fun k S3 => okD (.bool k) S3
  | S, .chn o o' a b c => (evE cb ρ S a).bind fun x S1 => (evE cb ρ S1 b).bind fun y S2 => (cmpO o x y S2).bind fun k S3 => if k = true then (evE cb ρ S3 c).bind fun z S4 => (cmpO o' y z S4).bind fun k' S5 => okD (.bool k') S5 else okD (.bool false) S3
  | S, .tup es => (evA cb ρ S es).bind fun ds S1 => if ds.length ≤ big then match enDs ds with
    | some ds => okD (.tuple ds) S1
    | none => .bad
    else .bad
  | S, .lst es => (evA cb ρ S es).bind fun ds S1 => if ds.length ≤ big then match enDs ds with
    | some ds => .ok (.nw (.lst ds)) S1
    | none => .ok (.nw (.lse ds)) S1
    else .bad
  | S, .dnw t => .ok (.nw (.dct t [])) S
  | S, .idx a i => (evE cb ρ S a).bind fun x S1 => (evE cb ρ S1 i).bind fun y S2 => idxO x y S2
  | S, .slc a lo hi => (evE cb ρ S a).bind fun x S1 => (evO cb ρ S1 lo).bind fun l S2 => (evO cb ρ S2 hi).bind fun h S3 => slcO x l h S3
  | S, .call f es => (evA cb ρ S es).bind fun ens S1 => callC (cb false) f ens S1
  | S, .mth c f m o es => (evE cb ρ S o).bind fun x S1 => match x with
    | .mu n => match S1[n]? with
      | some (.obj c' fs) => if c' = c ∧ fs.lookup m = none then (evA cb ρ S1 es).bind fun ens S2 => callC (cb false) f (.mu n :: ens) S2 else .bad
      | _ => .bad
    | _ => .bad
  | S, .mak c f es => (evA cb ρ S es).bind fun ens S1 => (callC (cb true) f (.mu S1.length :: ens) (S1 ++ [.obj c []])).bind fun r S2 => match r with
    | .v .none => .ok (.mu S1.length) S2
    | _ => .bad
  | S, .fld m o => (evE cb ρ S o).bind fun x S1 => match x with
    | .mu n => match S1[n]? with
      | some (.obj _ fs) => match fs.lookup m with
        | some (.dt d) => okD d S1
        | some (.mu k) => .ok (.mu k) S1
        | _ => .bad
      | _ => .bad
    | _ => .bad
  | S, .isi T a => (evE cb ρ S a).bind fun x S1 => match x with
    | .v d => match kitB (tyD d) T with
      | some b => okD (.bool b) S1
      | none => .bad
    | .nw (.lst _) => match kitB "list" T with
      | some b => okD (.bool b) S1
      | none => .bad
    | .mu n => match S1[n]? with
      | some (.lst _) => match kitB "list" T with
        | some b => okD (.bool b) S1
        | none => .bad
      | _ => .bad
    | _ => .bad
  | S, .bi b es => (evR cb ρ S es).bind fun xs S1 => biO b xs S1
  | S, .bm b o es => (evE cb ρ S o).bind fun x S1 => if (bmT b x S1 && bmA b es) = true then (evR cb ρ S1 es).bind fun xs S2 => bmO b x xs S2 else .bad
  | S, .lc ws g it c e => (evI cb ρ S it).bind fun is S1 => if is.1.length ≤ big ∧ tgIn g ws = true then (lcF (fun ρ S => evC cb ρ S c) (fun ρ S => evE cb ρ S e) (bindE g) is.2 S1.length (wipeR ρ ws) is.1 [] S1).bind fun ds S2 => .ok (.nw (.lst ds)) S2 else .bad
  | S, .lrg a b t => (evO cb ρ S a).bind fun x S1 => (evE cb ρ S1 b).bind fun y S2 => match x.getD 0, y with
    | i, .v (.int j) => if -1000000 ≤ i ∧ i ≤ 1000000 ∧ -1000000 ≤ j ∧ j ≤ 1000000 then (if t = true then okD (.tuple (rngD i (j - i).toNat)) S2 else .ok (.nw (.lst (rngD i (j - i).toNat))) S2) else .bad
    | _, _ => .bad
  | S, .own e => (evE cb ρ S e).bind fun x S1 => match x with
    | .nw .gone => .bad
    | .nw c => .ok (.mu S1.length) (S1 ++ [c])
    | _ => .bad
  | _, .bad => .bad
  | S, .its e => (evE cb ρ S e).bind fun x S1 => itsO x S1
  | S, .ddc kvs => if 0 < kvs.length ∧ kvs.length ≤ 15 ∧ (kvs.map (·.1)).Nodup then .ok (.nw (.dct false (kvs.map fun p => (.str p.1, .str p.2)))) S else .bad
  | S, .dgt o k x => (evE cb ρ S o).bind fun y S1 => if dctB y S1 = true then (evE cb ρ S1 k).bind fun z S2 => (evE cb ρ S2 x).bind fun r S3 => dgtO y z r S3 else .bad
def evT (cb : CB) (ρ : Rho) : Stv → Tx → Out Bool
  | S, .val e => (evE cb ρ S e).bind fun x S1 => truO x S1
  | S, .not a => (evT cb ρ S a).bind fun b S1 => .ok (!b) S1
  | S, .and a b => (evT cb ρ S a).bind fun k S1 => if k = true then evT cb ρ S1 b else .ok false S1
  | S, .or a b => (evT cb ρ S a).bind fun k S1 => if k = true then .ok true S1 else evT cb ρ S1 b
  | S, .cmp o a b => (evE cb ρ S a).bind fun x S1 => (evE cb ρ S1 b).bind fun y S2 => cmpO o x y S2
  | S, .chn o o' a b c => (evE cb ρ S a).bind fun x S1 => (evE cb ρ S1 b).bind fun y S2 => (cmpO o x y S2).bind fun k S3 => if k = true then (evE cb ρ S3 c).bind fun z S4 => cmpO o' y z S4 else .ok false S3
def evA (cb : CB) (ρ : Rho) : Stv → Exs → Out (List En)
  | S, .nil => .ok [] S
  | S, .cons e es => (evE cb ρ S e).bind fun x S1 => (evA cb ρ (rvE x S1).2 es).bind fun xs S2 => .ok ((rvE x S1).1 :: xs) S2
  | S, .star e es => (evE cb ρ S e).bind fun x S1 => match strO x S1 with
    | some ys => (evA cb ρ S1 es).bind fun xs S2 => .ok (ys ++ xs) S2
    | none => .bad
def evR (cb : CB) (ρ : Rho) : Stv → Exs → Out (List Rv)
  | S, .nil => .ok [] S
  | S, .cons e es => (evE cb ρ S e).bind fun x S1 => (evR cb ρ S1 es).bind fun xs S2 => .ok (x :: xs) S2
  | _, .star _ _ => .bad
def evO (cb : CB) (ρ : Rho) : Stv → Exo → Out (Option Int)
  | S, .none => .ok none S
  | S, .some e => (evE cb ρ S e).bind fun x S1 => match x with
    | .v (.int i) => .ok (some i) S1
    | _ => .bad
def evC (cb : CB) (ρ : Rho) : Stv → Txo → Out Bool
  | S, .none => .ok true S
  | S, .some e => evT cb ρ S e
def evI (cb : CB) (ρ : Rho) : Stv → Itr → Out Items
  | S, .sq e => (evE cb ρ S e).bind fun x S1 => itemsO x S1
  | S, .rg1 a => (evE cb ρ S a).bind fun x S1 => match x with
    | .v (.int i) => if -1000000000 ≤ i ∧ i ≤ 1000000000 then .ok ((rngD 0 i.toNat).map .dt, none) S1 else .bad
    | _ => .bad
  | S, .rg2 a b => (evE cb ρ S a).bind fun x S1 => (evE cb ρ S1 b).bind fun y S2 => match x, y with
    | .v (.int i), .v (.int j) => if -1000000000 ≤ i ∧ i ≤ 1000000000 ∧ -1000000000 ≤ j ∧ j ≤ 1000000000 then .ok ((rngD i (j - i).toNat).map .dt, none) S2 else .bad
    | _, _ => .bad
  | S, .enu e => (evE cb ρ S e).bind fun x S1 => enuO x S1
  | S, .rev e => (evE cb ρ S e).bind fun x S1 => revO x S1
end

/-! ## statements -/
def putD (t : Bool) (kvs : List (D × D)) (k v : D) : Option (List (D × D)) :=
  match t with
  | false => (keyK k).map fun x => if kvs.any (fun p => decide (keyK p.1 = some x)) = true then kvs.map (fun p => if keyK p.1 = some x then (p.1, v) else p) else kvs ++ [(k, v)]
  | true => (keyT k).map fun x => if kvs.any (fun p => decide (keyT p.1 = some x)) = true then kvs.map (fun p => if keyT p.1 = some x then (p.1, v) else p) else kvs ++ [(k, v)]
@[simp] def putFE (m : Str) (e : En) : List (Str × En) → List (Str × En)
  | [] => [(m, e)]
  | p :: ps => if p.1 = m then (p.1, e) :: ps else p :: putFE m e ps
@[simp] def setiO (n : Nat) (d : D) (e : En) (S : Stv) : Option Stv :=
  match S[n]? with
  | some (.lst ds) => match d, e with
    | .int i, .dt v => (ixN ds.length i).map fun j => S.set n (.lst (ds.set j v))
    | _, _ => none
  | some (.lse es) => match d with
    | .int i => (ixN es.length i).map fun j => S.set n (.lse (es.set j e))
    | _ => none
  | some (.dct false kvs) => match e with
    | .dt v => if kvs.length < big then (putD false kvs d v).map fun kvs' => S.set n (.dct false kvs') else none
    | _ => none
  | _ => none
@[simp] def augI (o : Bop) (i j : Int) : Option Int := match o with
  | .add => some (i + j)
  | .sub => some (i - j)
  | _ => none
noncomputable def exec (cb : CB) : St → Rho → Stv → Fl
  | .nop, ρ, S => .nx ρ S
  | .bad, _, _ => .bad
  | .seq a b, ρ, S => (exec cb a ρ S).seq fun ρ1 S1 => exec cb b ρ1 S1
  | .asg g e, ρ, S => (evE cb ρ S e).fl ρ fun x S1 => match bindE g (rvE x S1).1 ρ with
    | some ρ1 => .nx ρ1 (rvE x S1).2
    | none => .bad
  | .aug i o e, ρ, S => match ρ[i]? with
    | some (.dt (.int x)) => (evE cb ρ S e).fl ρ fun y S1 => match y with
      | .v (.int j) => match augI o x j with
        | some z => .nx (ρ.set i (.dt (.int z))) S1
        | none => .bad
      | _ => .bad
    | _ => .bad
  | .ite c a b, ρ, S => (evT cb ρ S c).fl ρ fun k S1 => if k = true then exec cb a ρ S1 else exec cb b ρ S1
  | .for_ g it b ks, ρ, S => (evI cb ρ S it).fl ρ fun is S1 => loopF (fun e ρ S => match bindE g e ρ with
    | some ρ1 => exec cb b ρ1 S
    | none => .bad) is.2 ks S1.length is.1 ρ S1
  | .whl c b ks, ρ, S => whileF (fun ρ S => evT cb ρ S c) (fun ρ S => exec cb b ρ S) ks S.length ρ S
  | .ret e, ρ, S => (evE cb ρ S e).fl ρ fun r S1 => .rt r S1
  | .retn, _, S => .rt (.v .none) S
  | .brk, ρ, S => .bk ρ S
  | .cnt, ρ, S => .ct ρ S
  | .exp e, ρ, S => (evE cb ρ S e).fl ρ fun _ S1 => .nx ρ S1
  | .seti o i e, ρ, S => (evE cb ρ S e).fl ρ fun x S1 => (evE cb ρ (rvE x S1).2 o).fl ρ fun y S2 => (evE cb ρ S2 i).fl ρ fun z S3 => match y, z with
    | .mu n, .v d => match setiO n d (rvE x S1).1 S3 with
      | some S4 => .nx ρ S4
      | none => .bad
    | _, _ => .bad
  | .sett o es e, ρ, S => (evE cb ρ S e).fl ρ fun x S1 => (evE cb ρ (rvE x S1).2 o).fl ρ fun y S2 => (evA cb ρ S2 es).fl ρ fun ks S3 => match y with
    | .mu n => match (rvE x S1).1 with
      | .dt v => match enDs ks with
        | some ds => match S3[n]? with
          | some (.dct true kvs) => if kvs.length < big ∧ ds.length ≤ big then match putD true kvs (.tuple ds) v with
            | some kvs' => .nx ρ (S3.set n (.dct true kvs'))
            | none => .bad
            else .bad
          | _ => .bad
        | none => .bad
      | _ => .bad
    | _ => .bad
  | .setf m o e, ρ, S => (evE cb ρ S e).fl ρ fun x S1 => (evE cb ρ (rvE x S1).2 o).fl ρ fun y S2 => match y with
    | .mu n => match S2[n]? with
      | some (.obj c fs) => if fs.length < 1000 then .nx ρ (S2.set n (.obj c (putFE m (rvE x S1).1 fs))) else .bad
      | _ => .bad
    | _ => .bad
  | .augf m o b e, ρ, S => (evE cb ρ S o).fl ρ fun y S1 => match y with
    | .mu n => match S1[n]? with
      | some (.obj c fs) => match fs.lookup m with
        | some (.dt (.int x)) => (evE cb ρ S1 e).fl ρ fun z S2 => match z with
          | .v (.int j) => match augI b x j, S2[n]? with
            | some w, some (.obj c' fs') => if fs'.length < 1000 ∧ c' = c then .nx ρ (S2.set n (.obj c (putFE m (.dt (.int w)) fs'))) else .bad
            | _, _ => .bad
          | _ => .bad
        | _ => .bad
      | _ => .bad
    | _ => .bad

/-! ## defs -/
structure Fd where
  args : Nat
  more : Nat
  body : St
/-- what a call leaves -/
@[simp] def drop0 (n0 : Nat) (r : Rv) (S : Stv) : Out Rv :=
  match r with
  | .v d => .ok (.v d) (trim n0 [] S)
  | .nw c => if fitC n0 c = true then .ok (.nw c) (trim n0 [] S) else .ok (.nw c) S
  | .mu n => if n < n0 then .ok (.mu n) (trim n0 [] S) else match S[n]? with
    | some .gone => .bad
    | some c => if fitC n0 c = true ∧ fitS n0 (S.take n0) = true then .ok (.nw c) (S.take n0) else .ok (.mu n) S
    | none => .bad
@[simp] def finF (n0 : Nat) : Fl → Out Rv
  | .nx _ S => drop0 n0 (.v .none) S
  | .rt r S => drop0 n0 r S
  | .ex c fs _ S => .ex c fs (trim n0 [] S)
  | _ => .bad
@[simp] noncomputable def runF (cb : CB) (fd : Fd) (es : List En) (S : Stv) : Out Rv :=
  if es.length = fd.args then finF S.length (exec cb fd.body (es ++ List.replicate fd.more .un) S) else .bad
noncomputable def run (tb : Nat → Fd) : Nat → CB1
  | 0 => fun _ _ _ => .bad
  | 1 => fun f es S => runF (fun _ _ _ _ => .bad) (tb f) es S
  | n + 2 => fun f es S => runF (fun b => match b with
    | true => run tb n
    | false => run tb (n + 1)) (tb f) es S
noncomputable def runm (tb : Nat → Fd) : Nat → CB1
  | 0 => fun _ _ _ => .bad
  | n + 1 => run tb n
noncomputable def cbOf (tb : Nat → Fd) (n : Nat) : CB := fun b => match b with
  | true => runm tb n
  | false => run tb n
theorem run_succ (tb : Nat → Fd) (n : Nat) (f : Nat) (es : List En) (S : Stv) : run tb (n + 1) f es S = runF (cbOf tb n) (tb f) es S := by
  cases n with
  | zero =>
    have e : cbOf tb 0 = fun _ _ _ _ => .bad := by
      funext b
      cases b <;> rfl
    rw [e]
    rfl
  | succ n =>
    have e : cbOf tb (n + 1) = fun b => match b with
      | true => run tb n
      | false => run tb (n + 1) := by
      funext b
      cases b <;> rfl
    rw [e]
    rfl
@[simp] theorem cbOf_call (tb : Nat → Fd) (n : Nat) : cbOf tb n false = run tb n := rfl
@[simp] theorem cbOf_make (tb : Nat → Fd) (n : Nat) : cbOf tb (n + 1) true = run tb n := rfl
theorem seq_nx {cb : CB} {a b : St} {ρ ρ1 : Rho} {S S1 : Stv} {out : Fl} (h : exec cb a ρ S = .nx ρ1 S1) (h2 : exec cb b ρ1 S1 = out) : exec cb (.seq a b) ρ S = out := by
  simp only [exec, h, Fl.seq, h2]
theorem seq_rt {cb : CB} {a b : St} {ρ : Rho} {S S1 : Stv} {r : Rv} (h : exec cb a ρ S = .rt r S1) : exec cb (.seq a b) ρ S = .rt r S1 := by
  simp only [exec, h, Fl.seq]
theorem run_of {cb : CB} {fd : Fd} {es : List En} {S : Stv} {fl : Fl} {out : Out Rv} (h : es.length = fd.args) (hx : exec cb fd.body (es ++ List.replicate fd.more .un) S = fl) (hf : finF S.length fl = out) : runF cb fd es S = out := by
  simp only [runF, h, if_true, hx, hf]
theorem Out.bind_congr {α β : Type} {o o' : Out α} (h : o = o') (f : α → Stv → Out β) : o.bind f = o'.bind f := by rw [h]
theorem Out.fl_congr {α : Type} {ρ ρ' : Rho} {o o' : Out α} (h0 : ρ = ρ') (h : o = o') (f : α → Stv → Fl) : o.fl ρ f = o'.fl ρ' f := by rw [h, h0]
@[simp] theorem Fl.seq_nx (ρ : Rho) (S : Stv) (f : Rho → Stv → Fl) : (Fl.nx ρ S).seq f = f ρ S := rfl
@[simp] theorem Fl.seq_rt (r : Rv) (S : Stv) (f : Rho → Stv → Fl) : (Fl.rt r S).seq f = .rt r S := rfl
@[simp] theorem Fl.seq_bk (ρ : Rho) (S : Stv) (f : Rho → Stv → Fl) : (Fl.bk ρ S).seq f = .bk ρ S := rfl
@[simp] theorem Fl.seq_ct (ρ : Rho) (S : Stv) (f : Rho → Stv → Fl) : (Fl.ct ρ S).seq f = .ct ρ S := rfl
theorem Fl.seq_congr {o o' : Fl} (h : o = o') (f : Rho → Stv → Fl) : o.seq f = o'.seq f := by rw [h]
theorem loopF_congr {f : En → Rho → Stv → Fl} {ch ch' : Option (Nat × Cell)} {ks : List Nat} {n0 n0' : Nat} {es es' : List En} {ρ ρ' : Rho} {S S' : Stv} (h1 : ch = ch') (h2 : n0 = n0') (h3 : es = es') (h4 : ρ = ρ') (h5 : S = S') : loopF f ch ks n0 es ρ S = loopF f ch' ks n0' es' ρ' S' := by rw [h1, h2, h3, h4, h5]
theorem lcF_congr {t : Rho → Stv → Out Bool} {f : Rho → Stv → Out Rv} {b : En → Rho → Option Rho} {ch ch' : Option (Nat × Cell)} {n0 n0' : Nat} {es es' : List En} {acc acc' : List D} {ρ ρ' : Rho} {S S' : Stv} (h1 : ch = ch') (h2 : n0 = n0') (h3 : es = es') (h4 : ρ = ρ') (h5 : S = S') (h6 : acc = acc') : lcF t f b ch n0 ρ es acc S = lcF t f b ch' n0' ρ' es' acc' S' := by rw [h1, h2, h3, h4, h5, h6]
theorem whileF_congr {t : Rho → Stv → Out Bool} {f : Rho → Stv → Fl} {ks : List Nat} {n0 n0' : Nat} {ρ ρ' : Rho} {S S' : Stv} (h1 : n0 = n0') (h2 : ρ = ρ') (h3 : S = S') : whileF t f ks n0 ρ S = whileF t f ks n0' ρ' S' := by rw [h1, h2, h3]
section
variable {S : Stv} {i j : Int} {a b : List D} {x y : Str}
@[simp] theorem binR_add : binR .add (.v (.int i)) (.v (.int j)) S = .ok (.v (.int (i + j))) S := rfl
@[simp] theorem binR_sub : binR .sub (.v (.int i)) (.v (.int j)) S = .ok (.v (.int (i - j))) S := rfl
@[simp] theorem binR_mul : binR .mul (.v (.int i)) (.v (.int j)) S = if (-18446744073709551616 < i ∧ i < 18446744073709551616) ∨ (-18446744073709551616 < j ∧ j < 18446744073709551616) then .ok (.v (.int (i * j))) S else .bad := rfl
@[simp] theorem binR_mulT {a : List D} {k : Int} : binR .mul (.v (.tuple a)) (.v (.int k)) S = if 0 < a.length ∧ 0 ≤ k ∧ k ≤ 1000 ∧ a.length ≤ 1000 then .ok (.v (.tuple (List.replicate k.toNat a).flatten)) S else .bad := rfl
@[simp] theorem binR_mod : binR .mod (.v (.int i)) (.v (.int j)) S = if 0 < j then .ok (.v (.int (i % j))) S else .bad := rfl
@[simp] theorem binR_fdiv : binR .fdiv (.v (.int i)) (.v (.int j)) S = if 0 < j ∧ j < 1073741824 then .ok (.v (.int (i / j))) S else .bad := rfl
@[simp] theorem binR_pow : binR .pow (.v (.int i)) (.v (.int j)) S = if 0 ≤ j ∧ j ≤ 1000000 ∧ i.natAbs < 18446744073709551616 then .ok (.v (.int (i ^ j.toNat))) S else .bad := rfl
@[simp] theorem binR_addS : binR .add (.v (.str x)) (.v (.str y)) S = if x.length + y.length ≤ sizeLine then .ok (.v (.str (x ++ y))) S else .bad := rfl
@[simp] theorem binR_addT : binR .add (.v (.tuple a)) (.v (.tuple b)) S = if a.length + b.length ≤ big then .ok (.v (.tuple (a ++ b))) S else .bad := rfl
@[simp] theorem binR_addLL : binR .add (.v (.list a)) (.v (.list b)) S = if a.length + b.length ≤ big then .ok (.nw (.lst (a ++ b))) S else .bad := rfl
@[simp] theorem binR_addLN : binR .add (.v (.list a)) (.nw (.lst b)) S = if a.length + b.length ≤ big then .ok (.nw (.lst (a ++ b))) S else .bad := rfl
@[simp] theorem binR_addNL : binR .add (.nw (.lst a)) (.v (.list b)) S = if a.length + b.length ≤ big then .ok (.nw (.lst (a ++ b))) S else .bad := rfl
@[simp] theorem binR_addNN : binR .add (.nw (.lst a)) (.nw (.lst b)) S = if a.length + b.length ≤ big then .ok (.nw (.lst (a ++ b))) S else .bad := rfl
end
end
end VM
end

section
set_option Elab.async false
set_option linter.all false
set_option maxRecDepth 100000
set_option maxHeartbeats 4000000
namespace VM
open PySem PySem.Spec PyProof.Rows L2 DL

section
variable {K : PySem.W.Frag} {cl : Nat → Addr} {xc : XCl} {L : List Addr} {F H H0 : Hp} {S : Stv} {x y : V} {rx ry : Rv} {W : WXK} {σ : L2.St} {Q : VK}
theorem fr_F (s : SV K cl F H L S) {p : Addr} (hp : H p = none) : F p = none := by
  cases q : F p with
  | none => rfl
  | some o => rw [s.sub _ _ q] at hp; cases hp
theorem fr_L (s : SV K cl F H L S) {p : Addr} (hp : H p = none) : p ∉ L := fun m => s.memH m hp
/-- an object is laid that nobody knows -/
theorem nx_lay (s : SV K cl F H L S) {p : Addr} (hp : H p = none) (o : HO) : Nx L F H L F (upd H p o) ∧ SV K cl F (upd H p o) L S := by
  have hf := fr_F s hp
  refine ⟨⟨⟨Same.refl _, fun a o' e _ => ?_, fun a h => ?_, fun a h n => n⟩, [], by simp, fun a h => by cases h⟩, ⟨fun b o' e => ?_, s.len, s.nd, fun n a e => ?_⟩⟩
  · rw [upd_ne (ne_of_none e hp)]; exact e
  · by_cases q : a = p
    · rw [q, upd_same]; exact nofun
    · rw [upd_ne q]; exact h
  · rw [upd_ne (ne_of_none e hf)]; exact s.sub _ _ e
  · obtain ⟨h1, h2⟩ := s.st n a e
    have : a ≠ p := fun q => h1 (q ▸ hp)
    rw [upd_ne this]
    exact ⟨h1, h2⟩
/-- a tuple is laid: data -/
theorem nx_tup (s : SV K cl F H L S) {p : Addr} (hp : H p = none) {vs : List V} {ds : List D} (hd : DpAll K F vs ds) : Nx L F H L (upd F p (.tup vs)) (upd H p (.tup vs)) ∧ SV K cl (upd F p (.tup vs)) (upd H p (.tup vs)) L S ∧ Dp K (upd F p (.tup vs)) (.ref p) (.tuple ds) := by
  have hf := fr_F s hp
  have sm : Same F (upd F p (.tup vs)) := fun b o e => by
    rw [upd_ne (ne_of_none e hf)]
    exact e
  refine ⟨⟨⟨sm, fun a o' e _ => ?_, fun a h => ?_, fun a h n => ?_⟩, [], by simp, fun a h => by cases h⟩, ⟨fun b o' e => ?_, s.len, s.nd, fun n a e => ?_⟩, .tup (.inl (.inl upd_same)) (dpa_mono sm _ _ hd)⟩
  · rw [upd_ne (ne_of_none e hp)]; exact e
  · by_cases q : a = p
    · rw [q, upd_same]; exact nofun
    · rw [upd_ne q]; exact h
  · have : a ≠ p := fun q => h (q ▸ hp)
    rw [upd_ne this]; exact n
  · by_cases q : b = p
    · rw [q, upd_same] at e ⊢; exact e
    · rw [upd_ne q] at e ⊢; exact s.sub _ _ e
  · obtain ⟨h1, h2⟩ := s.st n a e
    have : a ≠ p := fun q => h1 (q ▸ hp)
    rw [upd_ne this, upd_ne this]
    refine ⟨h1, fun c e1 e2 => ?_⟩
    obtain ⟨f, o, h3, h4⟩ := h2 c e1 e2
    have := h4.mono (R := []) sm
    rw [List.append_nil] at this
    exact ⟨f, o, h3, this⟩
theorem rv_new (s : SV K cl F H L S) {p : Addr} (hp : H p = none) {o : HO} {c : Cell} (hc : CellOk K cl F L o c) : RV K cl L F H (upd H p o) (.ref p) (.nw c) := ⟨p, o, rfl, hp, fr_L s hp, fr_F s hp, upd_same, hc⟩
/-- plain data as an answer -/
theorem pst_d {d : D} {v : V} {F0 : Hp} {L0 : List Addr} (n : Nx L0 F0 H0 L F H) (s : SV K cl F H L S) (hd : Dp K F v d) (p : Pst K cl xc (RV K cl) (okD d S) L0 F0 H0 W σ Q) : Q v H := p v F H L n s hd
theorem lst_rd {ds : List D} (s : SV K cl F H L S) (h : RV K cl L F H0 H x rx) (e : lstR S rx = some ds) : ∃ a vs, x = .ref a ∧ SqL K H a vs ∧ DpAll K F vs ds := by
  unfold lstR at e
  split at e
  · cases e
    have h' : Dp K F x (.list ds) := h
    cases h' with
    | lst h1 h2 => exact ⟨_, _, rfl, s.sub.seq h1, h2⟩
  · split at e
    · rename_i hn
      cases e
      obtain ⟨a, rfl, ha⟩ := h
      obtain ⟨_, h2⟩ := s.st _ a ha
      obtain ⟨_, o, ho, vs, rfl, hd⟩ := h2 _ hn (by nofun)
      exact ⟨a, vs, rfl, .inl (.inl ho), hd⟩
    · cases e
  · cases e
    obtain ⟨a, o, rfl, _, _, _, ho, vs, rfl, hd⟩ := h
    exact ⟨a, vs, rfl, .inl (.inl ho), hd⟩
  · cases e
theorem sq_rd {ds : List D} (s : SV K cl F H L S) (h : RV K cl L F H0 H x rx) (e : sqR S rx = some ds) : ∃ a vs, x = .ref a ∧ (SqL K H a vs ∨ SqT K H a vs) ∧ DpAll K F vs ds := by
  unfold sqR at e
  split at e
  · cases e
    have h' : Dp K F x (.tuple ds) := h
    cases h' with
    | tup h1 h2 => exact ⟨_, _, rfl, .inr (sqt_mono s.sub h1), h2⟩
  · obtain ⟨a, vs, e1, e2, e3⟩ := lst_rd s h e
    exact ⟨a, vs, e1, .inl e2, e3⟩
/-- data or a list's present content, at the present heap -/
theorem dat_rd {d : D} (s : SV K cl F H L S) (h : RV K cl L F H0 H x rx) (e : datR S rx = some d) : Dp K H x d := by
  unfold datR at e
  split at e
  · cases e
    exact dp_mono s.sub _ _ h
  · obtain ⟨ds, e1, e2⟩ := Option.map_eq_some_iff.mp e
    subst e2
    obtain ⟨a, vs, rfl, h1, h2⟩ := lst_rd s h e1
    exact .lst h1 (dpa_mono s.sub _ _ h2)
/-! ### truth -/
theorem tru_rd {b : Bool} (s : SV K cl F H L S) (h : RV K cl L F H0 H x rx) (e : truR S rx = some b) : TruV K x H b := by
  unfold truR at e
  split at e
  · cases e
    have h' : Dp K F x .none := h
    cases h'
    exact rfl
  · cases e
    have h' : Dp K F x (.bool b) := h
    cases h'
    exact rfl
  · rename_i i
    cases e
    have h' : Dp K F x (.int i) := h
    cases h'
    exact rfl
  · rename_i z
    split at e
    · rename_i hz
      cases e
      have h' : Dp K F x (.str z) := h
      cases h'
      exact ⟨hz, rfl⟩
    · cases e
  · rename_i ds
    cases e
    obtain ⟨a, vs, rfl, h1, h2⟩ := lst_rd s h (rfl : lstR S (.v (.list ds)) = some ds)
    have hl := dpa_len h2
    exact .inl ⟨vs, h1, by cases vs <;> cases ds <;> simp_all⟩
  · rename_i ds
    cases e
    have h' : Dp K F x (.tuple ds) := h
    cases h' with
    | tup h1 h2 =>
      rename_i a vs
      have hl := dpa_len h2
      exact .inr (.inl ⟨vs, sqt_mono s.sub h1, by cases vs <;> cases ds <;> simp_all⟩)
  · cases e
  · rename_i n
    split at e
    · rename_i ds hn
      cases e
      obtain ⟨a, vs, rfl, h1, h2⟩ := lst_rd s h (by simp only [lstR, hn] : lstR S (.mu n) = some ds)
      have hl := dpa_len h2
      exact .inl ⟨vs, h1, by cases vs <;> cases ds <;> simp_all⟩
    · rename_i es hn
      cases e
      obtain ⟨a, rfl, ha⟩ := h
      obtain ⟨_, h2⟩ := s.st _ a ha
      obtain ⟨_, o, ho, vs, rfl, hd⟩ := h2 _ hn (by nofun)
      have hl := hd.1
      exact .inl ⟨vs, .inl (.inl ho), by cases vs <;> cases es <;> simp_all⟩
    · cases e
  · rename_i ds
    cases e
    obtain ⟨a, vs, rfl, h1, h2⟩ := lst_rd s h (rfl : lstR S (.nw (.lst ds)) = some ds)
    have hl := dpa_len h2
    exact .inl ⟨vs, h1, by cases vs <;> cases ds <;> simp_all⟩
  · cases e
end

/-! ### + of lists, wherever they stand -/
def rCatL (K : PySem.W.Frag) : R2 := fun x y H Q => ∃ l b xs zs, x = .ref l ∧ y = .ref b ∧ SqL K H l xs ∧ SqL K H b zs ∧ xs.length + zs.length ≤ sizeLine ∧ ∀ p, H p = none → Q (.ref p) (upd H p (.lst (xs ++ zs)))
theorem op_catL {X : Cx} : OpR X (binaryOp .Add) (rCatL X.K) := by
  intro pins s σ H x y v u Q I rx ry h
  obtain ⟨l, b, xs, zs, rfl, rfl, hH, hB, hz, q⟩ := h
  cases rx
  cases ry
  obtain ⟨its, r, hl, _⟩ := I.list hH
  obtain ⟨its2, r2, hb, _⟩ := I.list hB
  obtain ⟨⟨cls, dd, data, sl⟩, n, ho, hc, hdd, hd⟩ := hl
  obtain ⟨⟨cls2, dd2, data2, sl2⟩, n2, ho2, hc2, hdd2, hd2⟩ := hb
  simp only at hc hd hc2 hd2
  subst hc hd hc2 hd2
  have e : its.toArray ++ its2.toArray = (its ++ its2).toArray := by simp
  have e1 := r.length
  have e2 := r2.length
  refine concat_meets ⟨_, ho, rfl⟩ ⟨_, ho2, rfl⟩ noFill_list_add seq_list_add PySem.F.slot_list_add PySem.F.entry_list_add (PySem.F.args_list_add_2 _ _) (list_addW l b its.toArray its2.toArray n n2 dd dd2 sl sl2 (by simp only [List.size_toArray]; omega)) ⟨ho, ho2, ?_⟩
  rw [e]
  exact ⟨.ref _, _, I.lnew (t' := s.toks) (r.append r2) (by rw [List.length_append]; omega), rfl, q _ I.fresh⟩
theorem OpR.or {X : Cx} {f : Value → Value → Sem Value} {r r' : R2} (h : OpR X f r) (h' : OpR X f r') : OpR X f (fun x y H Q => r x y H Q ∨ r' x y H Q) := by
  intro pins s σ H x y v u Q I rx ry q
  rcases q with q | q
  · exact h pins s σ H x y v u Q I rx ry q
  · exact h' pins s σ H x y v u Q I rx ry q
/-! ### the operators -/
def rCatS : R2 := fun x y H Q => ∃ i j, x = .str i ∧ y = .str j ∧ i.length + j.length ≤ sizeLine ∧ Q (.str (i ++ j)) H
def rBin (K : PySem.W.Frag) : Bop → R2
  | .add => fun x y H Q => rI0 (fun i j => .int (i + j)) x y H Q ∨ (fun x y H Q => rCatS x y H Q ∨ (fun x y H Q => rCatA K x y H Q ∨ rCatL K x y H Q) x y H Q) x y H Q
  | .sub => rI0 fun i j => .int (i - j)
  | .mul => fun x y H Q => rI CMul (fun i j => .int (i * j)) x y H Q ∨ rMulT K x y H Q
  | .mod => rI (fun _ j => 0 < j) fun i j => .int (i % j)
  | .fdiv => rI CDiv fun i j => .int (i / j)
  | .pow => rI CPow fun i j => .int (i ^ j.toNat)
def bopA : Bop → Operator
  | .add => .Add
  | .sub => .Sub
  | .mul => .Mult
  | .mod => .Mod
  | .fdiv => .FloorDiv
  | .pow => .Pow
theorem op_bin {X : Cx} {K : PySem.W.Frag} (hX : X.K = K) : ∀ o, OpR X (binaryOp (bopA o)) (rBin K o)
  | .add => by
    subst hX
    exact OpR.or op_add (OpR.or op_add_str (OpR.or op_catA op_catL))
  | .sub => op_sub
  | .mul => by
    subst hX
    exact OpR.or op_mul op_mulT
  | .mod => op_mod
  | .fdiv => op_fdiv
  | .pow => op_pow
section
variable {K : PySem.W.Frag} {cl : Nat → Addr} {xc : XCl} {L L0 : List Addr} {F F0 H H0 Hx Hy : Hp} {S : Stv} {x y : V} {rx ry : Rv} {W : WXK} {σ : L2.St} {Q : VK}
theorem dp_int {i : Int} (h : RV K cl L F Hx H x (.v (.int i))) : x = .int i := by
  have h' : Dp K F x (.int i) := h
  cases h'; rfl
theorem dp_str {i : Str} (h : RV K cl L F Hx H x (.v (.str i))) : x = .str i := by
  have h' : Dp K F x (.str i) := h
  cases h'; rfl
theorem dp_bool {i : Bool} (h : RV K cl L F Hx H x (.v (.bool i))) : x = .bl i := by
  have h' : Dp K F x (.bool i) := h
  cases h'; rfl
theorem dp_none (h : RV K cl L F Hx H x (.v .none)) : x = .non := by
  have h' : Dp K F x .none := h
  cases h'; rfl
theorem bigL {n : Nat} (h : n ≤ big) : n ≤ sizeLine := Nat.le_trans h (by decide)
theorem bigL' {n : Nat} (h : n < big) : n < sizeLine := Nat.lt_of_lt_of_le h (by decide)
theorem dpa_rep {H : Hp} {vs : List V} {ds : List D} (h : DpAll K H vs ds) : ∀ k : Nat, DpAll K H (List.replicate k vs).flatten (List.replicate k ds).flatten
  | 0 => .nil
  | k + 1 => by
    rw [List.replicate_succ, List.replicate_succ, List.flatten_cons, List.flatten_cons]
    exact dpa_app h (dpa_rep h k)
theorem bin_ok (o : Bop) (n : Nx L0 F0 H0 L F H) (s : SV K cl F H L S) (hx : RV K cl L F Hx H x rx) (hy : RV K cl L F Hy H y ry) (p : Pst K cl xc (RV K cl) (binR o rx ry S) L0 F0 H0 W σ Q) : rBin K o x y H Q := by
  unfold binR at p
  split at p
  · cases dp_int hx; cases dp_int hy
    exact .inl ⟨_, _, rfl, rfl, pst_d n s (.int _) p⟩
  · cases dp_int hx; cases dp_int hy
    exact ⟨_, _, rfl, rfl, pst_d n s (.int _) p⟩
  · cases dp_int hx; cases dp_int hy
    split at p
    · rename_i h
      exact .inl ⟨_, _, rfl, rfl, h, pst_d n s (.int _) p⟩
    · exact p.elim
  · rename_i a k
    split at p
    · rename_i h
      obtain ⟨g1, g2, g3, g4⟩ := h
      cases dp_int hy
      have hx' : Dp K F x (.tuple a) := hx
      cases hx' with
      | tup h1 h2 =>
        rename_i pa xs
        have l1 := dpa_len h2
        have hm := sqt_mono s.sub h1
        have hne : xs ≠ [] := fun e => by
          subst e
          simp at l1
          omega
        refine .inr ?_
        by_cases k1 : k = 1
        · subst k1
          refine .inl ⟨_, xs, rfl, rfl, hm, ?_⟩
          have e : (List.replicate (1 : Int).toNat a).flatten = a := by simp
          rw [e] at p
          exact pst_d n s (Dp.tup h1 h2) p
        by_cases k0 : k = 0
        · subst k0
          refine .inr (.inl ⟨_, xs, rfl, rfl, hm, hne, fun pn hp => ?_⟩)
          obtain ⟨n1, s1, d1⟩ := nx_tup s hp DpAll.nil
          exact p _ _ _ _ (n.trans n1) s1 d1
        · refine .inr (.inr ⟨_, k, xs, rfl, rfl, hm, hne, by omega, g3, by omega, fun pn hp => ?_⟩)
          obtain ⟨n1, s1, d1⟩ := nx_tup s hp (dpa_rep h2 k.toNat)
          exact p _ _ _ _ (n.trans n1) s1 d1
    · exact p.elim
  · cases dp_int hx; cases dp_int hy
    split at p
    · rename_i h
      exact ⟨_, _, rfl, rfl, h, pst_d n s (.int _) p⟩
    · exact p.elim
  · cases dp_int hx; cases dp_int hy
    split at p
    · rename_i h
      exact ⟨_, _, rfl, rfl, h, pst_d n s (.int _) p⟩
    · exact p.elim
  · cases dp_int hx; cases dp_int hy
    split at p
    · rename_i h
      exact ⟨_, _, rfl, rfl, h, pst_d n s (.int _) p⟩
    · exact p.elim
  · cases dp_str hx; cases dp_str hy
    split at p
    · rename_i h
      exact .inr (.inl ⟨_, _, rfl, rfl, h, pst_d n s (.str _) p⟩)
    · exact p.elim
  · rename_i a b
    split at p
    · rename_i h
      have hx' : Dp K F x (.tuple a) := hx
      have hy' : Dp K F y (.tuple b) := hy
      cases hx' with
      | tup h1 h2 =>
        rename_i pa xs
        cases hy' with
        | tup h3 h4 =>
          rename_i pb ys
          have l1 := dpa_len h2
          have l2 := dpa_len h4
          refine .inr (.inr (.inl ⟨_, _, _, _, rfl, rfl, sqt_mono s.sub h1, sqt_mono s.sub h3, by rw [l1, l2]; exact bigL h, fun e => ?_, fun e e2 => ?_, fun _ _ pn hp => ?_⟩))
          · subst e
            cases a with
            | nil => exact pst_d n s (Dp.tup h3 h4) p
            | cons _ _ => cases l1
          · subst e2
            cases b with
            | nil =>
              rw [List.append_nil] at p
              exact pst_d n s (Dp.tup h1 h2) p
            | cons _ _ => cases l2
          · obtain ⟨n1, s1, d1⟩ := nx_tup s hp (dpa_app h2 h4)
            exact p _ _ _ _ (n.trans n1) s1 d1
    · exact p.elim
  · rename_i hh1 hh2 hh3
    split at p
    · rename_i a b e1 e2
      split at p
      · rename_i h
        obtain ⟨la, xs, rfl, h1, h2⟩ := lst_rd s hx e1
        obtain ⟨lb, ys, rfl, h3, h4⟩ := lst_rd s hy e2
        refine .inr (.inr (.inr ⟨la, lb, xs, ys, rfl, rfl, h1, h3, by rw [dpa_len h2, dpa_len h4]; exact bigL h, fun pn hp => ?_⟩))
        obtain ⟨n1, s1⟩ := nx_lay s hp (.lst (xs ++ ys))
        exact p _ _ _ _ (n.trans n1) s1 ((rv_new (c := .lst (a ++ b)) s hp ⟨_, rfl, dpa_app h2 h4⟩).back n)
      · exact p.elim
    · exact p.elim
  · exact p.elim
end
end VM
end

section
set_option Elab.async false
set_option linter.all false
set_option maxRecDepth 100000
set_option maxHeartbeats 4000000
namespace VM
open PySem PySem.Spec PyProof.Rows L2 DL

/-! ### dicts that are read: a tuple's key may stand anywhere -/
def DGetS (K : PySem.W.Frag) (H : Hp) (a : Addr) (y : V) (r : Option V) : Prop :=
  (∃ kvs k, Rd H a (.dK kvs) ∧ y = kV k ∧ r = valV kvs k) ∨ ∃ kvs k b, Rd H a (.dT kvs) ∧ y = .ref b ∧ SqT K H b (k.map kV) ∧ r = valV kvs k
section
variable {X : Cx} {pins : List (Addr × Obj)} {σ : L2.St} {H : Hp} {s : Shared} {a : Addr} {y v : V} {u r : Value} {o : Option V} {A : Around} {E : Value → Shared → Prop}
theorem key_ofS {ks : List Key} {b : Addr} (I : Inv X pins σ H s) (e : SqT X.K H b (ks.map kV)) : (tupleKind (mixKind X.prog X.w)).is s.heap ks b := by
  obtain ⟨its, r, ⟨o, h1, h2, n, h3⟩, _⟩ := I.tuple e
  exact ⟨o, its.toArray, n, h1, h2, h3, by simpa using items_are r⟩
theorem d_getItemS {Q : Value → Shared → Prop} (hu : A.units + 1 < cLine) (I : Inv X pins σ H s) (g : DGetS X.K H a y (some v)) (ry : RelV y u) (h : ∀ w' s', Inv X pins σ H s' → RelV v w' → Q w' s') :
    wpAny (model X.prog X.w) A (getItem (.ref a) u) Q E s := by
  rcases g with ⟨kvs, k, e, ey, l⟩ | ⟨kvs, k, b, e, ey, eb, l⟩
  · exact d_getItem hu I (.inl ⟨kvs, k, e, ey, l⟩) ry h
  · subst ey
    cases (show u = Value.ref b from ry)
    obtain ⟨z, hd, xs, rel, dd⟩ := dt_rd I.hok e
    obtain ⟨w', hw, rw'⟩ := RelO.some_of (v := v) (o := (atKey xs k).map (·.2)) (by rw [l]; exact rel.val k)
    obtain ⟨p, hp, hp2⟩ := Option.map_eq_some_iff.mp hw
    refine wpAny_getItem_heap (tupleKind_room_in1 hu) (key_ofS I eb) dd hp ?_
    rw [hp2]
    exact h w' _ (I.tok _) rw'
theorem d_inS {Q : Value → Shared → Prop} (hu : A.units + 1 < cLine) (I : Inv X pins σ H s) (g : DGetS X.K H a y o) (ry : RelV y u) (h : ∀ s', Inv X pins σ H s' → Q (.bool o.isSome) s') :
    wpAny (model X.prog X.w) A (compareOp .In u (.ref a)) Q E s := by
  rcases g with ⟨kvs, k, e, ey, l⟩ | ⟨kvs, k, b, e, ey, eb, l⟩
  · exact d_in hu I (.inl ⟨kvs, k, e, ey, l⟩) ry h
  · subst ey
    cases (show u = Value.ref b from ry)
    obtain ⟨z, hd, xs, rel, dd⟩ := dt_rd I.hok e
    refine wpAny_in_heap (tupleKind_room_in1 hu) (key_ofS I eb) hd dd ?_
    have q := (rel.val k).isSome_eq
    rw [Option.isSome_map] at q
    rw [← q, ← l]
    exact h _ (I.tok _)
theorem d_notInS {Q : Value → Shared → Prop} (hu : A.units + 1 < cLine) (I : Inv X pins σ H s) (g : DGetS X.K H a y o) (ry : RelV y u) (h : ∀ s', Inv X pins σ H s' → Q (.bool (!o.isSome)) s') :
    wpAny (model X.prog X.w) A (compareOp .NotIn u (.ref a)) Q E s := by
  rcases g with ⟨kvs, k, e, ey, l⟩ | ⟨kvs, k, b, e, ey, eb, l⟩
  · exact d_notIn hu I (.inl ⟨kvs, k, e, ey, l⟩) ry h
  · subst ey
    cases (show u = Value.ref b from ry)
    obtain ⟨z, hd, xs, rel, dd⟩ := dt_rd I.hok e
    refine wpAny_notIn_heap (tupleKind_room_in1 hu) (key_ofS I eb) hd dd ?_
    have q := (rel.val k).isSome_eq
    rw [Option.isSome_map] at q
    rw [← q, ← l]
    exact h _ (I.tok _)
theorem dictS_typeIs (I : Inv X pins σ H s) (g : DGetS X.K H a y o) : s.TypeIs (.ref a) "dict" := by
  rcases g with ⟨kvs, k, e, _, _⟩ | ⟨kvs, k, b, e, _, _, _⟩
  · obtain ⟨_, _, vs, _, dd⟩ := dk_rd I.hok e
    exact dd.typeIs
  · obtain ⟨_, _, xs, _, dd⟩ := dt_rd I.hok e
    exact dd.typeIs
end
def rDin (K : PySem.W.Frag) (neg : Bool) : R2 := fun y x H Q => ∃ a o, x = .ref a ∧ DGetS K H a y o ∧ Q (.bl (if neg then !o.isSome else o.isSome)) H
theorem op_din {X : Cx} (hu : X.A.units + 1 < cLine) : OpR X (compareOp .In) (rDin X.K false) := by
  intro pins s σ H y x u v Q I ry rx h
  obtain ⟨a, o, rfl, g, q⟩ := h
  cases rx
  exact d_inS hu I g ry fun s' I' => ⟨.bl _, H, I', rfl, q⟩
theorem op_dnotin {X : Cx} (hu : X.A.units + 1 < cLine) : OpR X (compareOp .NotIn) (rDin X.K true) := by
  intro pins s σ H y x u v Q I ry rx h
  obtain ⟨a, o, rfl, g, q⟩ := h
  cases rx
  exact d_notInS hu I g ry fun s' I' => ⟨.bl _, H, I', rfl, q⟩
def rIxD (K : PySem.W.Frag) : R2 := fun x y H Q => ∃ a v, x = .ref a ∧ DGetS K H a y (some v) ∧ Q v H
theorem ix_dict {X : Cx} (hu : X.A.units + 1 < cLine) : IxR X (rIxD X.K) := by
  intro value slice pins s σ H x y v u Q I rx ry h hs
  obtain ⟨a, w, rfl, g, q⟩ := h
  cases rx
  have hT := dictS_typeIs I g
  unfold subscriptTail
  refine wpAny_bind ?_
  rw [getitemInPython_of_ne hT.not_modules]
  refine wpAny_bind (wpAny_specialOf hT PySem.F.slot_dict_getitem.lookup ?_)
  have fin : wpAny (model X.prog X.w) X.A (subscripted slice false (.ref a) u) (fun r s₃ => wpAny (model X.prog X.w) X.A (letTemporaryGo value (.ref a) r >>= fun _ => pure r) (EP X pins σ Q) X.xe s₃) X.xe s := by
    rw [hs]
    refine wpAny_operating (d_getItemS hu I g ry fun w' s' I' rw' => ?_)
    exact wpAny_bind (wpAny_letTemporaryGo (wpAny_pure ⟨w, H, I', rw', q⟩))
  first
    | exact wpAny_pure (wpAny_bind fin)
    | exact wpAny_bind (wpAny_pure (wpAny_bind fin))
    | exact wpAny_bind fin
def rIdx (K : PySem.W.Frag) : R2 := fun x y H Q => rIxD K x y H Q ∨ rIx K x y H Q
theorem ix_any {X : Cx} {K : PySem.W.Frag} (hX : X.K = K) (hu : X.A.units + 65 < cLine) : IxR X (rIdx K) := by
  subst hX
  exact (ix_dict (by omega)).or ix_seq
def rInS (neg : Bool) : R2 := fun x y H Q => ∃ i j, x = .str i ∧ y = .str j ∧ Q (.bl (if neg then !(!(Builtin.Str.occurrences j i 0 j.length 1).isEmpty) else !(Builtin.Str.occurrences j i 0 j.length 1).isEmpty)) H
def rCmp (K : PySem.W.Frag) : Cop → R2
  | .eq => fun x y H Q => rEq x y H Q ∨ rEqD K x y H Q
  | .ne => fun x y H Q => rNe x y H Q ∨ rNeD K x y H Q
  | .lt => rI0 fun i j => .bl (decide (i < j))
  | .le => rI0 fun i j => .bl (decide (i ≤ j))
  | .gt => rI0 fun i j => .bl (decide (j < i))
  | .ge => rI0 fun i j => .bl (decide (j ≤ i))
  | .isn => fun x y H Q => y = .non ∧ Q (.bl (decide (x = .non))) H
  | .notn => fun x y H Q => y = .non ∧ Q (.bl (!decide (x = .non))) H
  | .isin => fun x y H Q => rIn K false x y H Q ∨ (fun x y H Q => rInD K x y H Q ∨ (fun x y H Q => rInS false x y H Q ∨ rDin K false x y H Q) x y H Q) x y H Q
  | .notin => fun x y H Q => rIn K true x y H Q ∨ (fun x y H Q => rNotInD K x y H Q ∨ (fun x y H Q => rInS true x y H Q ∨ rDin K true x y H Q) x y H Q) x y H Q
def copA : Cop → CmpOp
  | .eq => .Eq
  | .ne => .NotEq
  | .lt => .Lt
  | .le => .LtE
  | .gt => .Gt
  | .ge => .GtE
  | .isn => .Is
  | .notn => .IsNot
  | .isin => .In
  | .notin => .NotIn
theorem op_cmp {X : Cx} {K : PySem.W.Frag} (hX : X.K = K) (hu : X.A.units + 65 < cLine) : ∀ o, OpR X (compareOp (copA o)) (rCmp K o)
  | .eq => by subst hX; exact OpR.or op_eq (op_eqD (by omega))
  | .ne => by subst hX; exact OpR.or op_ne (op_neD (by omega))
  | .lt => op_lt
  | .le => op_le
  | .gt => op_gt
  | .ge => op_ge
  | .isn => op_isN
  | .notn => op_notN
  | .isin => by subst hX; exact OpR.or op_in_seq (OpR.or (op_inD hu) (OpR.or op_in_str (op_din (by omega))))
  | .notin => by subst hX; exact OpR.or op_notIn_seq (OpR.or (op_notInD hu) (OpR.or op_notIn_str (op_dnotin (by omega))))

section
variable {K : PySem.W.Frag} {cl : Nat → Addr} {xc : XCl} {L L0 : List Addr} {F F0 H H0 Hx Hy : Hp} {S : Stv} {x y : V} {rx ry : Rv} {W : WXK} {σ : L2.St}
/-! ### keys -/
theorem keyK_v {d : D} {k : Key} {v : V} (h : Dp K F v d) (e : keyK d = some k) : v = kV k := by
  cases h <;> simp only [keyK] at e <;> cases e <;> rfl
theorem keyKs_v : ∀ {ds : List D} {ks : List Key} {vs : List V}, DpAll K F vs ds → keyKs ds = some ks → vs = ks.map kV
  | [], ks, vs, h, e => by
    cases h
    cases e
    rfl
  | d :: ds, ks, vs, h, e => by
    cases h with
    | cons h1 h2 =>
      unfold keyKs at e
      split at e
      · rename_i k ks' e1 e2
        cases e
        rw [keyK_v h1 e1, keyKs_v h2 e2]
        rfl
      · cases e
theorem prd_find {α β : Type} {P : α → β → Prop} {p : α → Bool} {q : β → Bool} (hpq : ∀ a b, P a b → p a = q b) : ∀ {xs : List α} {ys : List β}, Paired P xs ys → (∀ b, ys.find? q = some b → ∃ a, xs.find? p = some a ∧ P a b) ∧ (ys.find? q = none → xs.find? p = none)
  | _, _, .nil => ⟨fun b e => (by cases e), fun _ => rfl⟩
  | x :: xs, y :: ys, .cons h t => by
    obtain ⟨i1, i2⟩ := prd_find hpq t
    have e := hpq _ _ h
    simp only [List.find?_cons]
    rw [e]
    cases q y with
    | true => exact ⟨fun b e => by cases e; exact ⟨_, rfl, h⟩, fun e => by cases e⟩
    | false => exact ⟨i1, i2⟩
theorem dget_rd {t : Bool} {kvs : List (D × D)} {a : Addr} {o : HO} {d : D} {v : V} {r : Option D} (hc : CellOk K cl F L o (.dct t kvs)) (ho : H a = some o) (sm : Same F H) (hd : Dp K F v d) (e : dgetD t kvs d = some r) :
    ∃ r', DGetS K H a v r' ∧ (∀ z, r = some z → ∃ w, r' = some w ∧ Dp K F w z) ∧ (r = none → r' = none) := by
  have main : ∀ {κ : Type} [DecidableEq κ] (key : D → Option κ) (hk : List (κ × V)) (k : κ), Paired (fun (p : κ × V) (q : D × D) => key q.1 = some p.1 ∧ Dp K F p.2 q.2) hk kvs → r = (kvs.find? fun p => decide (key p.1 = some k)).map (·.2) → (∀ z, r = some z → ∃ w, valV hk k = some w ∧ Dp K F w z) ∧ (r = none → valV hk k = none) := by
    intro κ _ key hk k hp er
    have hf := prd_find (p := fun (p : κ × V) => decide (p.1 = k)) (q := fun (p : D × D) => decide (key p.1 = some k)) (fun a b h => by
      rw [h.1]
      rw [Bool.eq_iff_iff]
      simp) hp
    unfold valV
    subst er
    constructor
    · intro z hz
      obtain ⟨b, hb, rfl⟩ := Option.map_eq_some_iff.mp hz
      obtain ⟨a, ha, h⟩ := hf.1 b hb
      exact ⟨a.2, by rw [ha]; rfl, h.2⟩
    · intro hz
      have hz' := Option.map_eq_none_iff.mp hz
      rw [hf.2 hz']
      rfl
  unfold dgetD at e
  cases t with
  | false =>
    obtain ⟨hk, rfl, hp⟩ := hc
    obtain ⟨k, ek, er⟩ := Option.map_eq_some_iff.mp e
    obtain ⟨m1, m2⟩ := main keyK hk k hp er.symm
    exact ⟨_, .inl ⟨hk, k, .inl ho, keyK_v hd ek, rfl⟩, m1, m2⟩
  | true =>
    obtain ⟨hk, rfl, hp⟩ := hc
    obtain ⟨k, ek, er⟩ := Option.map_eq_some_iff.mp e
    obtain ⟨m1, m2⟩ := main keyT hk k hp er.symm
    unfold keyT at ek
    split at ek
    · cases hd with
      | tup h1 h2 =>
        have := keyKs_v h2 ek
        subst this
        exact ⟨_, .inr ⟨hk, k, _, .inl ho, rfl, sqt_mono sm h1, rfl⟩, m1, m2⟩
    · cases ek

/-! ### comparisons -/
theorem eq_rd {Q : VK} {b : Bool} {d e : D} (s : Same F H) (hx : Dp K H x d) (hy : Dp K H y e) (h : eqD d e = some b) : (Q (.bl b) H → rEq x y H Q ∨ rEqD K x y H Q) ∧ (Q (.bl (!b)) H → rNe x y H Q ∨ rNeD K x y H Q) := by
  unfold eqD at h
  split at h
  · cases hx; cases hy; cases h
    exact ⟨fun q => .inl ⟨rfl, q⟩, fun q' => .inl ⟨rfl, q'⟩⟩
  · rename_i i j
    cases hx; cases hy; cases h
    have e : decide (V.int i = V.int j) = decide (i = j) := by rw [Bool.eq_iff_iff]; simp
    exact ⟨fun q => .inl ⟨rfl, by rw [e]; exact q⟩, fun q' => .inl ⟨rfl, by rw [e]; exact q'⟩⟩
  · rename_i i j
    cases hx; cases hy; cases h
    have e : decide (V.str i = V.str j) = decide (i = j) := by rw [Bool.eq_iff_iff]; simp
    exact ⟨fun q => .inl ⟨rfl, by rw [e]; exact q⟩, fun q' => .inl ⟨rfl, by rw [e]; exact q'⟩⟩
  · rename_i i j
    cases hx; cases hy; cases h
    have e : decide (V.bl i = V.bl j) = decide (i = j) := by rw [Bool.eq_iff_iff]; simp
    exact ⟨fun q => .inl ⟨rfl, by rw [e]; exact q⟩, fun q' => .inl ⟨rfl, by rw [e]; exact q'⟩⟩
  · cases hx; cases hy; cases h
    exact ⟨fun q => .inl ⟨rfl, by rw [decide_eq_false (by nofun)]; exact q⟩, fun q' => .inl ⟨rfl, by rw [decide_eq_false (by nofun)]; exact q'⟩⟩
  · cases hx; cases hy; cases h
    exact ⟨fun q => .inl ⟨rfl, by rw [decide_eq_false (by nofun)]; exact q⟩, fun q' => .inl ⟨rfl, by rw [decide_eq_false (by nofun)]; exact q'⟩⟩
  · cases hx; cases hy; cases h
    exact ⟨fun q => .inl ⟨rfl, by rw [decide_eq_false (by nofun)]; exact q⟩, fun q' => .inl ⟨rfl, by rw [decide_eq_false (by nofun)]; exact q'⟩⟩
  · cases hx; cases hy; cases h
    exact ⟨fun q => .inl ⟨rfl, by rw [decide_eq_false (by nofun)]; exact q⟩, fun q' => .inl ⟨rfl, by rw [decide_eq_false (by nofun)]; exact q'⟩⟩
  · cases hx; cases hy; cases h
    exact ⟨fun q => .inl ⟨rfl, by rw [decide_eq_false (by nofun)]; exact q⟩, fun q' => .inl ⟨rfl, by rw [decide_eq_false (by nofun)]; exact q'⟩⟩
  · cases hx; cases hy; cases h
    exact ⟨fun q => .inl ⟨rfl, by rw [decide_eq_false (by nofun)]; exact q⟩, fun q' => .inl ⟨rfl, by rw [decide_eq_false (by nofun)]; exact q'⟩⟩
  · cases hx; cases hy; cases h
    exact ⟨fun q => .inl ⟨rfl, by rw [decide_eq_false (by nofun)]; exact q⟩, fun q' => .inl ⟨rfl, by rw [decide_eq_false (by nofun)]; exact q'⟩⟩
  · cases hx; cases hy; cases h
    exact ⟨fun q => .inl ⟨rfl, by rw [decide_eq_false (by nofun)]; exact q⟩, fun q' => .inl ⟨rfl, by rw [decide_eq_false (by nofun)]; exact q'⟩⟩
  · split at h
    · rename_i hs
      cases h
      exact ⟨fun q => .inr ⟨_, _, hx, hy, hs.1, hs.2, q⟩, fun q' => .inr ⟨_, _, hx, hy, hs.1, hs.2, q'⟩⟩
    · cases h
theorem flat_v {d : D} {v : V} (h : Dp K F v d) (e : flatD d = true) : flatV v = true := by
  cases h <;> first | rfl | cases e
theorem flat_vs : ∀ {ds : List D} {vs : List V}, DpAll K F vs ds → ds.all flatD = true → vs.all flatV = true
  | [], vs, h, _ => by cases h; rfl
  | d :: ds, vs, h, e => by
    cases h with
    | cons a b =>
      rw [List.all_cons, Bool.and_eq_true] at e ⊢
      exact ⟨flat_v a e.1, flat_vs b e.2⟩
theorem eqV_eqF {d e : D} {v w : V} (h1 : Dp K F v d) (h2 : Dp K F w e) (f1 : flatD d = true) (f2 : flatD e = true) : eqV v w = eqF d e := by
  cases h1 <;> cases h2 <;> first
    | (cases f1; done)
    | (cases f2; done)
    | rfl
theorem inV_any {d : D} {v : V} (h1 : Dp K F v d) (f1 : flatD d = true) : ∀ {ds : List D} {vs : List V}, DpAll K F vs ds → ds.all flatD = true → inV v vs = ds.any fun z => eqF z d
  | [], vs, h, _ => by cases h; rfl
  | e :: ds, vs, h, g => by
    cases h with
    | cons a b =>
      rw [List.all_cons, Bool.and_eq_true] at g
      have := inV_any h1 f1 b g.2
      unfold inV at this ⊢
      rw [List.any_cons, List.any_cons, eqV_eqF a h1 g.1 f1, this]
theorem in_rd {Q : VK} {b : Bool} (n0 : Nx L0 F0 H0 L F H) (s : SV K cl F H L S) (hx : RV K cl L F Hx H x rx) (hy : RV K cl L F Hy H y ry) (h : inR rx ry S = some b) :
    (Q (.bl b) H → rCmp K .isin x y H Q) ∧ (Q (.bl (!b)) H → rCmp K .notin x y H Q) := by
  have lst : ∀ (d : D) (ds : List D), rx = .v d → lstR S ry = some ds → (if SeqAt.shaped d = true ∧ SeqAt.shaped (.list ds) = true then some (ds.any fun z => PyData.eqv z d) else none) = some b → (Q (.bl b) H → rCmp K .isin x y H Q) ∧ (Q (.bl (!b)) H → rCmp K .notin x y H Q) := by
    intro d ds e1 e2 e3
    subst e1
    split at e3
    · rename_i hs
      cases e3
      obtain ⟨a, vs, rfl, h1, h2⟩ := lst_rd s hy e2
      have hd : Dp K H x d := dp_mono s.sub _ _ hx
      have hl : Dp K H (.ref a) (.list ds) := .lst h1 (dpa_mono s.sub _ _ h2)
      exact ⟨fun q => .inr (.inl ⟨d, ds, hd, hl, hs.1, hs.2, q⟩), fun q' => .inr (.inl ⟨d, ds, hd, hl, hs.1, hs.2, q'⟩)⟩
    · cases e3
  unfold inR at h
  split at h
  · rename_i d n
    split at h
    · rename_i t kvs hn
      obtain ⟨r, hr, eb⟩ := Option.map_eq_some_iff.mp h
      obtain ⟨a, rfl, ha⟩ := hy
      obtain ⟨_, h2⟩ := s.st _ a ha
      obtain ⟨_, o, ho, hc⟩ := h2 _ hn (by nofun)
      obtain ⟨r', g, g1, g2⟩ := dget_rd hc ho s.sub hx hr
      have er : r'.isSome = r.isSome := by
        cases r with
        | none => rw [g2 rfl]; rfl
        | some z =>
          obtain ⟨w, e, _⟩ := g1 z rfl
          rw [e]; rfl
      refine ⟨fun q => .inr (.inr (.inr ⟨a, r', rfl, g, ?_⟩)), fun q' => .inr (.inr (.inr ⟨a, r', rfl, g, ?_⟩))⟩
      · show Q (.bl r'.isSome) H
        rw [er, eb]; exact q
      · show Q (.bl (!r'.isSome)) H
        rw [er, eb]; exact q'
    · rename_i ds hn
      exact lst d ds rfl (by simp only [lstR, hn]) h
    · cases h
  · rename_i a b'
    cases h
    cases dp_str hx; cases dp_str hy
    exact ⟨fun q => .inr (.inr (.inl ⟨_, _, rfl, rfl, q⟩)), fun q' => .inr (.inr (.inl ⟨_, _, rfl, rfl, q'⟩))⟩
  · rename_i d ds
    split at h
    · rename_i hf
      cases h
      have hx' : Dp K F x d := hx
      have hy' : Dp K F y (.tuple ds) := hy
      cases hy' with
      | tup h1 h2 =>
        have e := inV_any hx' hf.1 h2 hf.2
        refine ⟨fun q => .inl ⟨_, _, rfl, .inr (sqt_mono s.sub h1), flat_v hx' hf.1, flat_vs h2 hf.2, ?_⟩, fun q' => .inl ⟨_, _, rfl, .inr (sqt_mono s.sub h1), flat_v hx' hf.1, flat_vs h2 hf.2, ?_⟩⟩
        · show Q (.bl (inV x _)) H
          rw [e]; exact q
        · show Q (.bl (!inV x _)) H
          rw [e]; exact q'
    · cases h
  · rename_i d ds
    exact lst d ds rfl rfl h
  · rename_i d ds
    exact lst d ds rfl rfl h
  · cases h
theorem cmp_rd {Q : VK} {b : Bool} (o : Cop) (n0 : Nx L0 F0 H0 L F H) (s : SV K cl F H L S) (hx : RV K cl L F Hx H x rx) (hy : RV K cl L F Hy H y ry) (h : cmpR o rx ry S = some b) (q : Q (.bl b) H) : rCmp K o x y H Q := by
  cases o with
  | eq =>
    unfold cmpR at h
    simp only at h
    split at h
    · rename_i d e e1 e2
      exact (eq_rd (Same.refl _) (dat_rd s hx e1) (dat_rd s hy e2) h).1 q
    · cases h
  | ne =>
    unfold cmpR at h
    simp only at h
    split at h
    · rename_i d e e1 e2
      obtain ⟨c, hc, eb⟩ := Option.map_eq_some_iff.mp h
      exact (eq_rd (Same.refl _) (dat_rd s hx e1) (dat_rd s hy e2) hc).2 (by rw [eb]; exact q)
    · cases h
  | lt =>
    unfold cmpR at h
    simp only at h
    split at h
    · cases h
      cases dp_int hx; cases dp_int hy
      exact ⟨_, _, rfl, rfl, q⟩
    · cases h
  | le =>
    unfold cmpR at h
    simp only at h
    split at h
    · cases h
      cases dp_int hx; cases dp_int hy
      exact ⟨_, _, rfl, rfl, q⟩
    · cases h
  | gt =>
    unfold cmpR at h
    simp only at h
    split at h
    · cases h
      cases dp_int hx; cases dp_int hy
      exact ⟨_, _, rfl, rfl, q⟩
    · cases h
  | ge =>
    unfold cmpR at h
    simp only at h
    split at h
    · cases h
      cases dp_int hx; cases dp_int hy
      exact ⟨_, _, rfl, rfl, q⟩
    · cases h
  | isn =>
    unfold cmpR at h
    simp only at h
    split at h
    · rename_i d
      cases h
      cases dp_none hy
      refine ⟨rfl, ?_⟩
      have hx' : Dp K F x d := hx
      cases hx' <;> exact q
    · cases h
      cases dp_none hy
      obtain ⟨a, rfl, _⟩ := hx
      exact ⟨rfl, q⟩
    · cases h
  | notn =>
    unfold cmpR at h
    simp only at h
    split at h
    · rename_i d
      cases h
      cases dp_none hy
      refine ⟨rfl, ?_⟩
      have hx' : Dp K F x d := hx
      cases hx' <;> exact q
    · cases h
      cases dp_none hy
      obtain ⟨a, rfl, _⟩ := hx
      exact ⟨rfl, q⟩
    · cases h
  | isin => exact (in_rd n0 s hx hy h).1 q
  | notin =>
    unfold cmpR at h
    simp only at h
    obtain ⟨c, hc, eb⟩ := Option.map_eq_some_iff.mp h
    exact (in_rd n0 s hx hy hc).2 (by rw [eb]; exact q)
end
end VM
end

section
set_option Elab.async false
set_option linter.all false
set_option maxRecDepth 100000
set_option maxHeartbeats 4000000
namespace VM
open PySem PySem.Spec PyProof.Rows L2 DL

theorem ext_lst {l b : Addr} {xs ys : Array Value} {n m : Nat} {sl : Array (Option Value)} (h0 : ¬(!xs.isEmpty && Builtin.List.listTooLong (xs.size + ys.size)) = true) (h1 : xs.size ≤ sizeLine) (h2 : xs.size + ys.size ≤ sizeLine + 1) :
    Meets (Builtin.«list.extend» ⟨[.ref l, .ref b], []⟩) (fun _ R s =>
      s.heap.get? l = some { cls := .type "list", dict := none, data := .seq xs n, slots := #[] } ∧
      s.heap.get? b = some { cls := .type "list", dict := none, data := .seq ys m, slots := sl } ∧
      R (.ok (.ret Value.none)) { s with heap := s.heap.update l (Obj.mapSeq fun x => x ++ ys), toks := s.toks }) :=
  .of_wp fun prog w A R s h => by
    obtain ⟨hp, g, d, tk, os⟩ := s
    obtain ⟨hl, hb, h⟩ := h
    have f1 := AutoSeq1.idx_int
    have f2 := AutoSeq1.sub_tuple_tuple
    have f3 := AutoSeq1.sub_list_list
    have f4 := AutoSeq1.sub_tuple_list
    have f5 := AutoSeq1.sub_list_tuple
    have hz : (xs ++ ys).size ≤ sizeLine + 1 := by
      rw [Array.size_append]
      exact h2
    wp_walk using (wpAny_updateSeq hl rfl (hz := h1) (_hz' := hz)), AutoSeq1.wpAny_loadPart' hl, AutoSeq1.wpAny_loadPart' hb
    exact ⟨_, rfl, h⟩
def rExtendL (K : PySem.W.Frag) : V → List V → Hp → VK → Prop := fun x vs H Q => ∃ l b xs zs, x = .ref l ∧ vs = [.ref b] ∧ H l = some (.lst xs) ∧ SqL K H b zs ∧ xs.length + zs.length ≤ sizeLine ∧ Q .non (upd H l (.lst (xs ++ zs)))
theorem mt_extendL {X : Cx} {K : PySem.W.Frag} (hX : X.K = K) : MtM X "list.extend" (rExtendL K) := by
  subst hX
  intro pins s σ H x vs v us Q I rx rv h
  obtain ⟨l, b, xs, zs, rfl, rfl, hH, hB, hz, q⟩ := h
  cases rx
  obtain ⟨u, rfl, ru⟩ := rv.one
  cases ru
  obtain ⟨z, its, n, r, hl, e⟩ := I.lstM hH
  obtain ⟨its2, r2, ⟨o2, n2, ho2, hc2, hdd2, hd2⟩, hz2⟩ := I.list hB
  have hl2 := r2.length
  obtain ⟨oc, od, da, sl⟩ := o2
  simp only at hc2 hdd2 hd2
  subst hc2 hdd2 hd2
  have hsz : its.toArray.size + its2.toArray.size ≤ sizeLine := by rw [List.size_toArray, List.size_toArray]; omega
  have hlong : ¬ (!its.toArray.isEmpty && Builtin.List.listTooLong (its.toArray.size + its2.toArray.size)) = true := by
    rw [notLongL hsz, Bool.and_false]
    exact Bool.false_ne_true
  refine call_meets F.slot_list_extend ⟨_, e, rfl⟩ F.entry_list_extend (F.args_list_extend_2 _ _) (ext_lst (n := n) (m := n2) (sl := sl) hlong (by rw [List.size_toArray]; omega) (by omega)) ⟨e, ho2, ?_⟩
  refine ⟨.non, _, I.lset (its' := its ++ its2) hH e (by simp) (r.append r2) ?_, rfl, q⟩
  rw [List.length_append]
  omega
def rExt (K : PySem.W.Frag) : V → List V → Hp → VK → Prop := fun x xs H Q => rExtendL K x xs H Q ∨ rExtendT K x xs H Q
theorem mt_ext {X : Cx} {K : PySem.W.Frag} (hX : X.K = K) : MtR X "list.extend" (rExt K) := MtR.or (mt_extendL hX) (mt_extendT hX)

section
variable {K : PySem.W.Frag} {cl : Nat → Addr} {xc : XCl} {L L0 : List Addr} {F F0 H H0 Hx Hy : Hp} {S : Stv} {x y : V} {rx ry : Rv} {W : WXK} {σ : L2.St}
/-- a cell is written -/
theorem put_cell (s : SV K cl F H L S) {n : Nat} {a : Addr} {c c' : Cell} {o' : HO} (ha : L[n]? = some a) (hn : S[n]? = some c) (hc : c ≠ .gone) (h : CellOk K cl F L o' c') : Nx L F H L F (upd H a o') ∧ SV K cl F (upd H a o') L (S.set n c') := by
  have hl : n < S.length := (List.getElem?_eq_some_iff.mp hn).1
  obtain ⟨hx, hy⟩ := s.st n a ha
  obtain ⟨f0, o, ho, _⟩ := hy c hn hc
  have haL : a ∈ L := List.mem_of_getElem? ha
  refine ⟨⟨⟨Same.refl _, fun x o e nx => ?_, fun x hx => ?_, fun x hx h => h⟩, [], by simp, fun a h => by cases h⟩, ⟨fun x o e => ?_, by simp [s.len], s.nd, fun m x e => ?_⟩⟩
  · rw [upd_ne (fun (z : x = a) => nx (z ▸ haL))]; exact e
  · by_cases q : x = a
    · rw [q, upd_same]; exact nofun
    · rw [upd_ne q]; exact hx
  · rw [upd_ne (ne_of_none e f0)]; exact s.sub _ _ e
  · by_cases hnm : n = m
    · subst hnm
      rw [ha] at e
      cases e
      refine ⟨by rw [upd_same]; exact nofun, fun c2 e2 _ => ?_⟩
      rw [List.getElem?_set_self hl] at e2
      cases e2
      exact ⟨f0, o', upd_same, h⟩
    · have hxa : x ≠ a := fun z => by
        subst z
        have h1 := List.getElem?_eq_some_iff.mp e
        have h2 := List.getElem?_eq_some_iff.mp ha
        exact hnm ((List.getElem_inj s.nd).mp (h2.2.trans h1.2.symm))
      rw [List.getElem?_set_ne hnm, upd_ne hxa]
      exact s.st m x e
theorem mu_lst {n : Nat} {ds : List D} (s : SV K cl F H L S) (h : RV K cl L F Hx H x (.mu n)) (e : S[n]? = some (.lst ds)) : ∃ a vs, x = .ref a ∧ L[n]? = some a ∧ H a = some (.lst vs) ∧ DpAll K F vs ds := by
  obtain ⟨a, rfl, ha⟩ := h
  obtain ⟨_, h2⟩ := s.st _ a ha
  obtain ⟨_, o, ho, vs, rfl, hd⟩ := h2 _ e (by nofun)
  exact ⟨a, vs, rfl, ha, ho, hd⟩
theorem mu_lse {n : Nat} {es : List En} (s : SV K cl F H L S) (h : RV K cl L F Hx H x (.mu n)) (e : S[n]? = some (.lse es)) : ∃ a vs, x = .ref a ∧ L[n]? = some a ∧ H a = some (.lst vs) ∧ EnA K F L vs es := by
  obtain ⟨a, rfl, ha⟩ := h
  obtain ⟨_, h2⟩ := s.st _ a ha
  obtain ⟨_, o, ho, vs, rfl, hd⟩ := h2 _ e (by nofun)
  exact ⟨a, vs, rfl, ha, ho, hd⟩
theorem ena_get {vs : List V} {es : List En} {i : Nat} {e : En} (h : EnA K F L vs es) (hi : es[i]? = some e) : ∃ v, vs[i]? = some v ∧ EnOk K F L e (some v) := by
  obtain ⟨o, ho, q⟩ := h.2 i e hi
  rw [List.getElem?_map] at ho
  cases hv : vs[i]? with
  | none => rw [hv] at ho; cases ho
  | some v =>
    rw [hv] at ho
    cases ho
    exact ⟨v, rfl, q⟩
theorem atI_ena {vs : List V} {es : List En} {i : Int} {e : En} (h : EnA K F L vs es) (he : atI es i = some e) : ∃ v, atI vs i = some v ∧ EnOk K F L e (some v) := by
  unfold atI at he ⊢
  rw [h.1]
  cases q : ixN es.length i with
  | none => rw [q] at he; cases he
  | some j =>
    rw [q] at he
    exact ena_get h he
theorem ena_app {vs ws : List V} {es fs : List En} (h1 : EnA K F L vs es) (h2 : EnA K F L ws fs) : EnA K F L (vs ++ ws) (es ++ fs) := by
  refine ⟨by rw [List.length_append, List.length_append, h1.1, h2.1], fun i e q => ?_⟩
  rw [List.map_append]
  rw [List.getElem?_append] at q ⊢
  rw [List.length_map, h1.1]
  split at q
  · rename_i hl
    rw [if_pos hl]
    exact h1.2 i e q
  · rename_i hl
    rw [if_neg hl]
    exact h2.2 _ e q
theorem ena_one {v : V} {e : En} (h : EnOk K F L e (some v)) : EnA K F L [v] [e] := ⟨rfl, fun i e' q => by
  cases i with
  | zero => cases q; exact ⟨_, rfl, h⟩
  | succ i => simp at q⟩
theorem ena_set {vs : List V} {es : List En} {v : V} {e : En} (j : Nat) (h1 : EnA K F L vs es) (h : EnOk K F L e (some v)) : EnA K F L (vs.set j v) (es.set j e) :=
  ⟨by rw [List.length_set, List.length_set, h1.1], by rw [List.map_set]; exact h1.2.set j h⟩
/-! ### a[i] -/
theorem idx_ok {Q : VK} (n : Nx L0 F0 H0 L F H) (s : SV K cl F H L S) (hx : RV K cl L F Hx H x rx) (hy : RV K cl L F Hy H y ry) (p : Pst K cl xc (RV K cl) (idxO rx ry S) L0 F0 H0 W σ Q) : rIdx K x y H Q := by
  have seq : ∀ (d : D) (ds : List D), sqR S rx = some ds → ry = .v d → Pst K cl xc (RV K cl) (match d with
      | .int i => match atI ds i with
          | some e => okD e S
          | none => .bad
      | _ => .bad) L0 F0 H0 W σ Q → rIdx K x y H Q := by
    intro d ds e1 e2 p2
    subst e2
    split at p2
    · rename_i i
      split at p2
      · rename_i e he
        cases dp_int hy
        obtain ⟨a, vs, rfl, h1, h2⟩ := sq_rd s hx e1
        obtain ⟨v, hv, hd⟩ := atI_dp h2 he
        rcases h1 with h1 | h1
        · exact .inr (.inl ⟨a, vs, i, v, rfl, rfl, h1, hv, pst_d n s hd p2⟩)
        · exact .inr (.inr (.inl ⟨a, vs, i, v, rfl, rfl, h1, hv, pst_d n s hd p2⟩))
      · exact p2.elim
    · exact p2.elim
  unfold idxO at p
  split at p
  · rename_i d
    split at p
    · rename_i m
      split at p
      · rename_i t kvs hm
        split at p
        · rename_i e he
          obtain ⟨a, rfl, ha⟩ := hx
          obtain ⟨_, h2⟩ := s.st _ a ha
          obtain ⟨_, o, ho, hc⟩ := h2 _ hm (by nofun)
          obtain ⟨r', g, g1, _⟩ := dget_rd hc ho s.sub hy he
          obtain ⟨w, rfl, hw⟩ := g1 e rfl
          exact .inl ⟨a, w, rfl, g, pst_d n s hw p⟩
        · exact p.elim
      · rename_i ds hm
        exact seq d ds (by simp only [sqR, lstR, hm]) rfl p
      · rename_i es hm
        split at p
        · rename_i i
          obtain ⟨a, vs, rfl, ha, ho, hd⟩ := mu_lse s hx hm
          cases dp_int hy
          split at p
          · rename_i e he
            obtain ⟨v, hv, w, ew, hw⟩ := atI_ena hd he
            cases ew
            exact .inr (.inl ⟨a, vs, i, v, rfl, rfl, .inl (.inl ho), hv, pst_d n s hw p⟩)
          · rename_i k he
            obtain ⟨v, hv, b, eb, hb⟩ := atI_ena hd he
            cases eb
            exact .inr (.inl ⟨a, vs, i, _, rfl, rfl, .inl (.inl ho), hv, p _ _ _ _ n s ⟨b, rfl, hb⟩⟩)
          · exact p.elim
        · exact p.elim
      · exact p.elim
    · rename_i z
      split at p
      · rename_i i
        split at p
        · rename_i hz
          split at p
          · rename_i c hc
            cases dp_int hy
            cases dp_str hx
            exact .inr (.inr (.inr ⟨z, i, c, rfl, rfl, hz, hc, pst_d n s (.str _) p⟩))
          · exact p.elim
        · exact p.elim
      · exact p.elim
    · split at p
      · rename_i i
        split at p
        · rename_i ds he
          exact seq (.int i) ds he rfl p
        · exact p.elim
      · exact p.elim
  · exact p.elim
/-! ### slices -/
def rSl (K : PySem.W.Frag) : V → Option Int → Option Int → Hp → VK → Prop := fun x lo hi H Q => rSlS x lo hi H Q ∨ (fun x lo hi H Q => rSlA K x lo hi H Q ∨ rSlL K x lo hi H Q) x lo hi H Q
theorem sl_any {X : Cx} {K : PySem.W.Frag} (hX : X.K = K) : L2.SlR X (rSl K) := by
  subst hX
  exact L2.SlR.or sl_str (L2.SlR.or sl_tupA sl_list)
theorem dpa_cut {vs : List V} {ds : List D} {lo hi : Option Int} (h : DpAll K F vs ds) : DpAll K F (cutV vs lo hi) (cutD ds lo hi) := by
  unfold cutV cutD
  rw [dpa_len h]
  exact dpa_take _ (dpa_drop _ h)
theorem slc_ok {Q : VK} {lo hi : Option Int} (n : Nx L0 F0 H0 L F H) (s : SV K cl F H L S) (hx : RV K cl L F Hx H x rx) (p : Pst K cl xc (RV K cl) (slcO rx lo hi S) L0 F0 H0 W σ Q) : rSl K x lo hi H Q := by
  unfold slcO at p
  split at p
  · rename_i z
    split at p
    · rename_i hz
      cases dp_str hx
      exact .inl ⟨z, rfl, hz, pst_d n s (.str _) p⟩
    · exact p.elim
  · rename_i ds
    have hx' : Dp K F x (.tuple ds) := hx
    cases hx' with
    | tup h1 h2 =>
      rename_i a vs
      refine .inr (.inl ⟨a, vs, rfl, sqt_mono s.sub h1, fun e => ?_, fun _ pn hp => ?_⟩)
      · have : cutD ds lo hi = ds := by
          unfold cutD
          rw [dpa_len h2] at e
          rw [e.1, e.2, List.drop_zero, Nat.sub_zero, List.take_length]
        rw [this] at p
        exact pst_d n s (Dp.tup h1 h2) p
      · obtain ⟨n1, s1, d1⟩ := nx_tup s hp (dpa_cut (lo := lo) (hi := hi) h2)
        exact p _ _ _ _ (n.trans n1) s1 d1
  · split at p
    · rename_i ds e
      obtain ⟨a, vs, rfl, h1, h2⟩ := lst_rd s hx e
      refine .inr (.inr ⟨a, vs, rfl, h1, fun pn hp => ?_⟩)
      obtain ⟨n1, s1⟩ := nx_lay s hp (.lst (cutV vs lo hi))
      exact p _ _ _ _ (n.trans n1) s1 ((rv_new (c := .lst (cutD ds lo hi)) s hp ⟨_, rfl, dpa_cut h2⟩).back n)
    · exact p.elim
/-! ### built-ins -/
theorem len_ok {Q : VK} (n : Nx L0 F0 H0 L F H) (s : SV K cl F H L S) (hx : RV K cl L F Hx H x rx) (p : Pst K cl xc (RV K cl) (lenO rx S) L0 F0 H0 W σ Q) : ∃ m : Nat, LenV K x H m ∧ Q (.int m) H := by
  have seq : ∀ ds, sqR S rx = some ds → Pst K cl xc (RV K cl) (okD (.int (ds.length : Int)) S) L0 F0 H0 W σ Q → ∃ m : Nat, LenV K x H m ∧ Q (.int m) H := by
    intro ds e p
    obtain ⟨a, vs, rfl, h1, h2⟩ := sq_rd s hx e
    refine ⟨ds.length, ?_, pst_d n s (.int _) p⟩
    rcases h1 with h1 | h1
    · exact .inl ⟨vs, h1, (dpa_len h2).symm⟩
    · exact .inr ⟨vs, h1, (dpa_len h2).symm⟩
  unfold lenO at p
  split at p
  · rename_i z
    split at p
    · rename_i hz
      cases dp_str hx
      exact ⟨z.length, ⟨hz, rfl⟩, pst_d n s (.int _) p⟩
    · exact p.elim
  · rename_i m
    split at p
    · rename_i ds hm
      exact seq ds (by simp only [sqR, lstR, hm]) p
    · rename_i es hm
      obtain ⟨a, vs, rfl, ha, ho, hd⟩ := mu_lse s hx hm
      exact ⟨es.length, .inl ⟨vs, .inl (.inl ho), hd.1.symm⟩, pst_d n s (.int _) p⟩
    · exact p.elim
  · split at p
    · rename_i ds e
      exact seq ds e p
    · exact p.elim
def rSortedDI : List V → Hp → VK → Prop := fun xs H Q => ∃ (a : Addr) (kvs : List (Key × V)) (ks : List Int), xs = [.ref a] ∧ Rd H a (.dK kvs) ∧ kvs.map (·.1) = ks.map Sum.inl ∧ ks.length < 64 ∧
    ∀ (ys : List Int) (p : Addr), ys.Perm ks → ys.Pairwise (· ≤ ·) → H p = none → Q (.ref p) (upd H p (.lst (ys.map V.int)))
def rSrt (K : PySem.W.Frag) : List V → Hp → VK → Prop := fun xs H Q => rSortedI K xs H Q ∨ (rSortedPS K xs H Q ∨ rSortedDI xs H Q)
theorem CallR.or {X : Cx} {f : Value} {r r' : List V → Hp → VK → Prop} (h : CallR X f r) (h' : CallR X f r') : CallR X f (fun xs H Q => r xs H Q ∨ r' xs H Q) := by
  intro pins s σ H xs us Q I r1 q
  rcases q with q | q
  · exact h pins s σ H xs us Q I r1 q
  · exact h' pins s σ H xs us Q I r1 q
theorem cr_srt {X : Cx} {K : PySem.W.Frag} (hX : X.K = K) (hc : X.calm = true) : CallR X (.builtin "sorted") (rSrt K) := by
  subst hX
  exact CallR.or (cr_sortedIK rfl) (CallR.or (cr_sortedPSK rfl) (call_sortedDI hc))
theorem intsD_v : ∀ {ds : List PyData} {ns : List Int} {vs : List V}, DpAll K F vs ds → intsD ds = some ns → vs = ns.map V.int
  | [], ns, vs, h, e => by
    cases h
    cases e
    rfl
  | d :: ds, ns, vs, h, e => by
    cases h with
    | cons h1 h2 =>
      cases h1 <;> simp only [intsD] at e <;> try cases e
      obtain ⟨ms, hm, rfl⟩ := Option.map_eq_some_iff.mp e
      rw [intsD_v h2 hm]
      rfl
theorem prsD_e : ∀ {ds : List PyData} {ps : List (Int × Int)}, prsD ds = some ps → ds = ps.map encP
  | [], ps, e => by cases e; rfl
  | d :: ds, ps, e => by
    unfold prsD at e
    split at e
    · rename_i h; cases h
    · rename_i i j ds' h
      cases h
      obtain ⟨qs, hq, rfl⟩ := Option.map_eq_some_iff.mp e
      rw [prsD_e hq]
      rfl
    · cases e
theorem srt_ok {Q : VK} {v : V} {r : Rv} (n : Nx L0 F0 H0 L F H) (s : SV K cl F H L S) (hx : RV K cl L F Hx H v r) (p : Pst K cl xc (RV K cl) (srtO r S) L0 F0 H0 W σ Q) : rSrt K [v] H Q := by
  have lst : ∀ ds es, lstR S r = some ds → srtD ds = some es → Pst K cl xc (RV K cl) (.ok (.nw (.lst es)) S) L0 F0 H0 W σ Q → rSrt K [v] H Q := by
    intro ds es e1 e2 p
    obtain ⟨a, vs, rfl, h1, h2⟩ := lst_rd s hx e1
    unfold srtD at e2
    split at e2
    · rename_i ns hn
      cases e2
      have ev := intsD_v h2 hn
      subst ev
      refine .inl ⟨a, ns, rfl, h1, fun ns' q pm pw hq => ?_⟩
      have := sortI_eq pm pw
      subst this
      obtain ⟨n1, s1⟩ := nx_lay s hq (.lst ((sortI ns).map V.int))
      exact p _ _ _ _ (n.trans n1) s1 ((rv_new (c := .lst ((sortI ns).map .int)) s hq ⟨_, rfl, dpa_ints _⟩).back n)
    · split at e2
      · rename_i ps hp
        cases e2
        have ed := prsD_e hp
        subst ed
        refine .inr (.inl ⟨a, vs, ps, fun x p => ∃ t, x = V.ref t ∧ SqT K F t [.int p.1, .int p.2], rfl, h1, dpa_pairs h2, fun x p ⟨t, e, k⟩ => ⟨t, e, sqt_mono s.sub k⟩, fun ys qs' q hy pm pw hq => ?_⟩)
        have e : qs' = sortPr ps := List.Perm.eq_of_pairwise (le := lexP) (fun x y _ _ a b => by
          unfold lexP at a b
          exact Prod.ext (by omega) (by omega)) pw (sortPr_le ps) (pm.trans (sortPr_perm ps).symm)
        subst e
        obtain ⟨n1, s1⟩ := nx_lay s hq (.lst ys)
        exact p _ _ _ _ (n.trans n1) s1 ((rv_new (c := .lst ((sortPr ps).map encP)) s hq ⟨_, rfl, pairs_dpa hy⟩).back n)
      · cases e2
  unfold srtO at p
  split at p
  · rename_i m
    split at p
    · rename_i kvs hm
      split at p
      · rename_i ks hk
        split at p
        · rename_i hl
          obtain ⟨a, rfl, ha⟩ := hx
          obtain ⟨_, h2⟩ := s.st _ a ha
          obtain ⟨_, o, ho, hv, rfl, hpr⟩ := h2 _ hm (by nofun)
          have hkeys : hv.map (·.1) = ks.map Sum.inl := by
            clear ho p lst hm h2
            induction hpr generalizing ks with
            | nil => cases hk; rfl
            | @cons x y xs ys a t ih =>
              obtain ⟨a1, _⟩ := a
              simp only [List.map_cons] at hk
              cases hy : y.1 <;> rw [hy] at hk a1 <;> simp only [intsD] at hk <;> try cases hk
              rename_i i
              obtain ⟨ms, hms, rfl⟩ := Option.map_eq_some_iff.mp hk
              have := ih ms hms (by simp at hl; omega)
              have a2 : x.1 = Sum.inl i := (Option.some.inj a1).symm
              simp only [List.map_cons, this, a2]
          refine .inr (.inr ⟨a, hv, ks, rfl, .inl ho, hkeys, hl, fun ys q pm pw hq => ?_⟩)
          have := sortI_eq pm pw
          subst this
          obtain ⟨n1, s1⟩ := nx_lay s hq (.lst ((sortI ks).map V.int))
          exact p _ _ _ _ (n.trans n1) s1 ((rv_new (c := .lst ((sortI ks).map .int)) s hq ⟨_, rfl, dpa_ints _⟩).back n)
        · exact p.elim
      · exact p.elim
    · rename_i ds hm
      split at p
      · rename_i es he
        exact lst ds es (by simp only [lstR, hm]) he p
      · exact p.elim
    · exact p.elim
  · split at p
    · rename_i ds hd
      split at p
      · rename_i es he
        exact lst ds es hd he p
      · exact p.elim
    · exact p.elim
theorem boolsD_v : ∀ {ds : List PyData} {ns : List Bool} {vs : List V}, DpAll K F vs ds → boolsD ds = some ns → vs = ns.map V.bl
  | [], ns, vs, h, e => by
    cases h
    cases e
    rfl
  | d :: ds, ns, vs, h, e => by
    cases h with
    | cons h1 h2 =>
      cases h1 <;> simp only [boolsD] at e <;> try cases e
      obtain ⟨ms, hm, rfl⟩ := Option.map_eq_some_iff.mp e
      rw [boolsD_v h2 hm]
      rfl
def rBi (K : PySem.W.Frag) : Bif → List V → Hp → VK → Prop
  | .bool => fun xs H Q => ((∃ i, xs = [.int i] ∧ Q (.bl (i != 0)) H) ∨ ∃ k, xs = [.bl k] ∧ Q (.bl k) H) ∨ ∃ (a : Addr) (zs : List V), xs = [.ref a] ∧ SqL K H a zs ∧ Q (.bl (!zs.isEmpty)) H
  | .sum => rSum K
  | .any => rAny K
  | .all => rAll K
  | .sorted => rSrt K
  | .len => fun xs H Q => ∃ x n, xs = [x] ∧ LenV K x H n ∧ Q (.int n) H
  | .max => fun xs H Q => ∃ i j, xs = [.int i, .int j] ∧ Q (.int (if j > i then j else i)) H
  | .min => fun xs H Q => ∃ i j, xs = [.int i, .int j] ∧ Q (.int (if j < i then j else i)) H
  | .ord => fun xs H Q => ∃ x, xs = [.str x] ∧ x.length = 1 ∧ Q (.int (x.cps.getD 0 0 : Nat)) H
  | .int => fun xs H Q => (∃ i, xs = [.int i] ∧ Q (.int i) H) ∨ ∃ k, xs = [.bl k] ∧ Q (.int (if k then 1 else 0)) H
  | .list => fun xs H Q => ∃ p ys, xs = [.ref p] ∧ (SqL K H p ys ∨ SqT K H p ys) ∧ ∀ l, H l = none → Q (.ref l) (upd H l (.lst ys))
  | .tuple => fun xs H Q => ∃ p ys, xs = [.ref p] ∧ ((SqL K H p ys ∧ ∀ l, H l = none → Q (.ref l) (upd H l (.tup ys))) ∨ (SqT K H p ys ∧ Q (.ref p) H))
  | _ => fun _ _ _ => False
theorem rl1 {vs : List V} {r : Rv} (h : RL K cl L F Hx H vs [r]) : ∃ v, vs = [v] ∧ RV K cl L F Hx H v r := by
  cases h with
  | cons a b => cases b; exact ⟨_, rfl, a⟩
theorem rl2 {vs : List V} {r q : Rv} (h : RL K cl L F Hx H vs [r, q]) : ∃ v w, vs = [v, w] ∧ RV K cl L F Hx H v r ∧ RV K cl L F Hx H w q := by
  cases h with
  | cons a b =>
    cases b with
    | cons c d => cases d; exact ⟨_, _, rfl, a, c⟩
theorem rl0 {vs : List V} (h : RL K cl L F Hx H vs []) : vs = [] := by cases h; rfl
theorem bi_ok {Q : VK} {vs : List V} {rs : List Rv} (b : Bif) (n : Nx L0 F0 H0 L F H) (s : SV K cl F H L S) (hx : RL K cl L F Hx H vs rs) (p : Pst K cl xc (RV K cl) (biO b rs S) L0 F0 H0 W σ Q) : rBi K b vs H Q := by
  unfold biO at p
  split at p
  · obtain ⟨v, rfl, h⟩ := rl1 hx
    obtain ⟨m, h1, h2⟩ := len_ok n s h p
    exact ⟨v, m, rfl, h1, h2⟩
  · obtain ⟨v, rfl, h⟩ := rl1 hx
    exact srt_ok n s h p
  · rename_i i j
    obtain ⟨v, w, rfl, h1, h2⟩ := rl2 hx
    cases dp_int h1; cases dp_int h2
    have : (if j > i then j else i) = Max.max i j := by
      rw [Int.max_def]
      split <;> split <;> omega
    exact ⟨i, j, rfl, by rw [this]; exact pst_d n s (.int _) p⟩
  · rename_i i j
    obtain ⟨v, w, rfl, h1, h2⟩ := rl2 hx
    cases dp_int h1; cases dp_int h2
    have : (if j < i then j else i) = Min.min i j := by
      rw [Int.min_def]
      split <;> split <;> omega
    exact ⟨i, j, rfl, by rw [this]; exact pst_d n s (.int _) p⟩
  · rename_i z
    obtain ⟨v, rfl, h1⟩ := rl1 hx
    cases dp_str h1
    split at p
    · rename_i hz
      exact ⟨z, rfl, hz, pst_d n s (.int _) p⟩
    · exact p.elim
  · rename_i i
    obtain ⟨v, rfl, h1⟩ := rl1 hx
    cases dp_int h1
    exact .inl ⟨i, rfl, pst_d n s (.int _) p⟩
  · rename_i k
    obtain ⟨v, rfl, h1⟩ := rl1 hx
    cases dp_bool h1
    exact .inr ⟨k, rfl, pst_d n s (.int _) p⟩
  · split at p
    · rename_i ds e
      obtain ⟨v, rfl, h1⟩ := rl1 hx
      obtain ⟨a, vs, rfl, h2, h3⟩ := sq_rd s h1 e
      refine ⟨a, vs, rfl, h2, fun l hl => ?_⟩
      obtain ⟨n1, s1⟩ := nx_lay s hl (.lst vs)
      exact p _ _ _ _ (n.trans n1) s1 ((rv_new (c := .lst ds) s hl ⟨_, rfl, h3⟩).back n)
    · exact p.elim
  · obtain ⟨v, rfl, h1⟩ := rl1 hx
    cases dp_bool h1
    exact .inl (.inr ⟨_, rfl, pst_d n s (.bl _) p⟩)
  · obtain ⟨v, rfl, h1⟩ := rl1 hx
    cases dp_int h1
    exact .inl (.inl ⟨_, rfl, pst_d n s (.bl _) p⟩)
  · split at p
    · rename_i ds e
      obtain ⟨v, rfl, h1⟩ := rl1 hx
      obtain ⟨a, vs, rfl, h2, h3⟩ := lst_rd s h1 e
      refine .inr ⟨a, vs, rfl, h2, ?_⟩
      have hl := dpa_len h3
      have : vs.isEmpty = ds.isEmpty := by
        cases vs <;> cases ds <;> first | rfl | cases hl
      rw [this]
      exact pst_d n s (.bl _) p
    · exact p.elim
  · split at p
    · rename_i ds e
      obtain ⟨v, rfl, h1⟩ := rl1 hx
      obtain ⟨a, vs, rfl, h2, h3⟩ := lst_rd s h1 e
      split at p
      · rename_i ns hn
        have := intsD_v h3 hn
        subst this
        exact ⟨a, ns, rfl, h2, pst_d n s (.int _) p⟩
      · exact p.elim
    · exact p.elim
  · split at p
    · rename_i ds e
      obtain ⟨v, rfl, h1⟩ := rl1 hx
      obtain ⟨a, vs, rfl, h2, h3⟩ := lst_rd s h1 e
      split at p
      · rename_i ns hn
        have := boolsD_v h3 hn
        subst this
        exact ⟨a, ns, rfl, h2, pst_d n s (.bl _) p⟩
      · exact p.elim
    · exact p.elim
  · split at p
    · rename_i ds e
      obtain ⟨v, rfl, h1⟩ := rl1 hx
      obtain ⟨a, vs, rfl, h2, h3⟩ := lst_rd s h1 e
      split at p
      · rename_i ns hn
        have := boolsD_v h3 hn
        subst this
        exact ⟨a, ns, rfl, h2, pst_d n s (.bl _) p⟩
      · exact p.elim
    · exact p.elim
  · split at p
    · rename_i ds e
      obtain ⟨v, rfl, h1⟩ := rl1 hx
      have hlst : lstR S _ = some ds → rBi K .tuple [v] H Q := fun e => by
        obtain ⟨a, vs, rfl, h2, h3⟩ := lst_rd s h1 e
        refine ⟨a, vs, rfl, .inl ⟨h2, fun l hl => ?_⟩⟩
        obtain ⟨n1, s1, d1⟩ := nx_tup s hl h3
        exact p _ _ _ _ (n.trans n1) s1 d1
      unfold sqR at e
      split at e
      · rename_i ds'
        cases e
        have h1' : Dp K F v (.tuple ds) := h1
        cases h1' with
        | tup g1 g2 => exact ⟨_, _, rfl, .inr ⟨sqt_mono s.sub g1, pst_d n s (Dp.tup g1 g2) p⟩⟩
      · exact hlst e
    · exact p.elim
  · exact p.elim
end
end VM
end

section
set_option Elab.async false
set_option linter.all false
set_option maxRecDepth 100000
set_option maxHeartbeats 4000000
namespace VM
open PySem PySem.Spec PyProof.Rows L2 DL

/-! ### methods of built-in types -/
def rJoin (K : PySem.W.Frag) : V → List V → Hp → VK → Prop := fun x xs H Q => ∃ a p, ∃ ys : List Str, x = .str a ∧ xs = [.ref p] ∧ (SqL K H p (ys.map V.str) ∨ SqT K H p (ys.map V.str)) ∧ (ys.map (·.length)).sum + ys.length * a.length ≤ 16777216 ∧ Q (.str (Txt.join a ys)) H
section
variable {K : PySem.W.Frag} {cl : Nat → Addr} {xc : XCl} {L L0 : List Addr} {F F0 H H0 Hx Hy : Hp} {S : Stv} {x y : V} {rx ry : Rv} {W : WXK} {σ : L2.St}
theorem strsD_v : ∀ {ds : List D} {ys : List Str} {vs : List V}, DpAll K F vs ds → strsD ds = some ys → vs = ys.map V.str
  | [], ys, vs, h, e => by
    cases h
    cases e
    rfl
  | d :: ds, ys, vs, h, e => by
    cases h with
    | cons h1 h2 =>
      cases h1 <;> simp only [strsD] at e <;> try cases e
      obtain ⟨zs, hz, rfl⟩ := Option.map_eq_some_iff.mp e
      rw [strsD_v h2 hz]
      rfl
theorem join_ok {Q : VK} {vs : List V} {a : Str} {r : Rv} (n : Nx L0 F0 H0 L F H) (s : SV K cl F H L S) (hx : x = .str a) (hy : RL K cl L F Hy H vs [r]) (p : Pst K cl xc (RV K cl) (bmO .join (.v (.str a)) [r] S) L0 F0 H0 W σ Q) : ∃ y, vs = [y] ∧ rJoin K x [y] H Q := by
  obtain ⟨v, rfl, h⟩ := rl1 hy
  unfold bmO at p
  simp only at p
  split at p
  · rename_i ds e
    split at p
    · rename_i ys e2
      split at p
      · rename_i hz
        obtain ⟨b, ws, rfl, h1, h2⟩ := sq_rd s h e
        have := strsD_v h2 e2
        subst this
        exact ⟨_, rfl, a, b, ys, hx, rfl, h1, hz, pst_d n s (.str _) p⟩
      · exact p.elim
    · exact p.elim
  · exact p.elim
theorem append_ok {Q : VK} {vs : List V} {rs : List Rv} (n : Nx L0 F0 H0 L F H) (s : SV K cl F H L S) (hx : RV K cl L F Hx H x rx) (hy : RL K cl L F H0 H vs rs) (p : Pst K cl xc (RV K cl) (bmO .append rx rs S) L0 F0 H0 W σ Q) : rAppend x vs H Q := by
  unfold bmO at p
  split at p
  all_goals try exact p.elim
  all_goals rename_i heq
  all_goals try (cases heq; done)
  · rename_i m d
    obtain ⟨v, rfl, h⟩ := rl1 hy
    split at p
    · rename_i ds hm
      obtain ⟨a, ws, rfl, ha, ho, hd⟩ := mu_lst s hx hm
      split at p
      · rename_i hz
        obtain ⟨n1, s1⟩ := put_cell (c' := .lst (ds ++ [d])) s ha hm (by nofun) ⟨_, rfl, dpa_app hd (.cons h .nil)⟩
        exact ⟨a, ws, v, rfl, rfl, ho, by rw [dpa_len hd]; exact bigL' hz, p _ _ _ _ (n.trans n1) s1 (show Dp K F .non .none from .non)⟩
      · exact p.elim
    · rename_i es hm
      obtain ⟨a, ws, rfl, ha, ho, hd⟩ := mu_lse s hx hm
      split at p
      · rename_i hz
        obtain ⟨n1, s1⟩ := put_cell (c' := .lse (es ++ [.dt d])) s ha hm (by nofun) ⟨_, rfl, ena_app hd (ena_one (e := .dt d) ⟨v, rfl, h⟩)⟩
        exact ⟨a, ws, v, rfl, rfl, ho, by rw [hd.1]; exact bigL' hz, p _ _ _ _ (n.trans n1) s1 (show Dp K F .non .none from .non)⟩
      · exact p.elim
    · exact p.elim
  · rename_i m es
    obtain ⟨v, rfl, h⟩ := rl1 hy
    obtain ⟨F2, n2, s2, d2, sm⟩ := rv_frz n s h (rfl : rvD (.nw (.lst es)) = some (.list es))
    split at p
    · rename_i ds hm
      have hx2 : RV K cl L F2 Hx H x (.mu m) := hx
      obtain ⟨a, ws, rfl, ha, ho, hd⟩ := mu_lst s2 hx2 hm
      split at p
      · rename_i hz
        obtain ⟨n1, s1⟩ := put_cell (c' := .lst (ds ++ [.list es])) s2 ha hm (by nofun) ⟨_, rfl, dpa_app hd (.cons d2 .nil)⟩
        exact ⟨a, ws, v, rfl, rfl, ho, by rw [dpa_len hd]; exact bigL' hz, p _ _ _ _ (n2.trans n1) s1 (show Dp K F2 .non .none from .non)⟩
      · exact p.elim
    · exact p.elim
  · rename_i m k
    obtain ⟨v, rfl, b, rfl, hb⟩ := rl1 hy
    split at p
    · rename_i hm
      obtain ⟨a, ws, rfl, ha, ho, hd⟩ := mu_lst s hx hm
      cases hd
      obtain ⟨n1, s1⟩ := put_cell (c' := .lse [.mu k]) s ha hm (by nofun) ⟨_, rfl, ena_one (e := .mu k) ⟨b, rfl, hb⟩⟩
      exact ⟨a, [], _, rfl, rfl, ho, by decide, p _ _ _ _ (n.trans n1) s1 (show Dp K F .non .none from .non)⟩
    · rename_i es hm
      obtain ⟨a, ws, rfl, ha, ho, hd⟩ := mu_lse s hx hm
      split at p
      · rename_i hz
        obtain ⟨n1, s1⟩ := put_cell (c' := .lse (es ++ [.mu k])) s ha hm (by nofun) ⟨_, rfl, ena_app hd (ena_one (e := .mu k) ⟨b, rfl, hb⟩)⟩
        exact ⟨a, ws, _, rfl, rfl, ho, by rw [hd.1]; exact bigL' hz, p _ _ _ _ (n.trans n1) s1 (show Dp K F .non .none from .non)⟩
      · exact p.elim
    · exact p.elim
theorem pop_ok {Q : VK} (n : Nx L0 F0 H0 L F H) (s : SV K cl F H L S) (hx : RV K cl L F Hx H x rx) (p : Pst K cl xc (RV K cl) (bmO .pop rx [] S) L0 F0 H0 W σ Q) : rPop x [] H Q := by
  unfold bmO at p
  split at p
  all_goals try exact p.elim
  all_goals rename_i heq heq2
  all_goals try (cases heq; done)
  all_goals try (cases heq2; done)
  rename_i m _
  split at p
  · rename_i ds hm
    obtain ⟨a, ws, rfl, ha, ho, hd⟩ := mu_lst s hx hm
    split at p
    · rename_i d he
      have hl := dpa_len hd
      have hne : ds ≠ [] := fun z => by subst z; cases he
      have e1 : ds[ds.length - 1]? = some d := by rw [← List.getLast?_eq_getElem?]; exact he
      obtain ⟨v, hv, hdp⟩ := dpa_get hd e1
      have ht : DpAll K F ws.dropLast ds.dropLast := by
        rw [List.dropLast_eq_take, List.dropLast_eq_take, hl]
        exact dpa_take _ hd
      obtain ⟨n1, s1⟩ := put_cell (c' := .lst ds.dropLast) s ha hm (by nofun) ⟨_, rfl, ht⟩
      exact ⟨a, ws, v, rfl, rfl, ho, by rw [hl]; exact hv, p _ _ _ _ (n.trans n1) s1 hdp⟩
    · exact p.elim
  · exact p.elim
theorem findD_v {d : D} {v : V} (h1 : Dp K F v d) (f1 : flatD d = true) : ∀ {ds : List D} {vs : List V} {j : Nat}, DpAll K F vs ds → ds.all flatD = true → findD d ds = some j → ∃ z, vs[j]? = some z ∧ eqV z v = true ∧ ∀ (m : Nat) (z' : V), m < j → vs[m]? = some z' → eqV z' v = false
  | [], vs, j, h, _, e => by cases e
  | e0 :: ds, vs, j, h, g, e => by
    cases h with
    | @cons w _ ws _ a b =>
      rw [List.all_cons, Bool.and_eq_true] at g
      have hq := eqV_eqF a h1 g.1 f1
      unfold findD at e
      split at e
      · rename_i hz
        cases e
        exact ⟨w, rfl, by rw [hq]; exact hz, fun m z' hm _ => absurd hm (Nat.not_lt_zero _)⟩
      · rename_i hz
        obtain ⟨k, hk, rfl⟩ := Option.map_eq_some_iff.mp e
        obtain ⟨z, z1, z2, z3⟩ := findD_v h1 f1 b g.2 hk
        refine ⟨z, by simpa using z1, z2, fun m z' hm he => ?_⟩
        cases m with
        | zero =>
          have : w = z' := by simpa using he
          rw [← this, hq]
          simpa using hz
        | succ m => exact z3 m z' (by omega) (by simpa using he)
theorem index_ok {Q : VK} {vs : List V} {rs : List Rv} (n : Nx L0 F0 H0 L F H) (s : SV K cl F H L S) (hx : RV K cl L F Hx H x rx) (hy : RL K cl L F H0 H vs rs) (p : Pst K cl xc (RV K cl) (bmO .index rx rs S) L0 F0 H0 W σ Q) : rIndex K x vs H Q := by
  unfold bmO at p
  split at p
  all_goals try exact p.elim
  all_goals rename_i heq
  all_goals try (cases heq; done)
  rename_i m d
  obtain ⟨v, rfl, h⟩ := rl1 hy
  have h : Dp K F v d := h
  split at p
  · rename_i ds hm
    obtain ⟨a, ws, rfl, ha, ho, hd⟩ := mu_lst s hx hm
    split at p
    · rename_i hf
      split at p
      · rename_i j hj
        obtain ⟨z, z1, z2, z3⟩ := findD_v h hf.1 hd hf.2 hj
        exact ⟨a, ws, v, j, z, rfl, rfl, .inl (.inl ho), flat_v h hf.1, flat_vs hd hf.2, z1, z2, z3, pst_d n s (.int _) p⟩
      · exact p.elim
    · exact p.elim
  · exact p.elim
theorem reverse_ok {Q : VK} (n : Nx L0 F0 H0 L F H) (s : SV K cl F H L S) (hx : RV K cl L F Hx H x rx) (p : Pst K cl xc (RV K cl) (bmO .reverse rx [] S) L0 F0 H0 W σ Q) : rReverse x [] H Q := by
  unfold bmO at p
  split at p
  all_goals try exact p.elim
  all_goals rename_i heq heq2
  all_goals try (cases heq; done)
  all_goals try (cases heq2; done)
  rename_i m _
  split at p
  · rename_i ds hm
    obtain ⟨a, ws, rfl, ha, ho, hd⟩ := mu_lst s hx hm
    obtain ⟨n1, s1⟩ := put_cell (c' := .lst ds.reverse) s ha hm (by nofun) ⟨_, rfl, dpa_rev hd⟩
    exact ⟨a, ws, rfl, rfl, ho, p _ _ _ _ (n.trans n1) s1 (show Dp K F .non .none from .non)⟩
  · exact p.elim
theorem extend_ok {Q : VK} {vs : List V} {rs : List Rv} (n : Nx L0 F0 H0 L F H) (s : SV K cl F H L S) (hx : RV K cl L F Hx H x rx) (hy : RL K cl L F Hy H vs rs) (p : Pst K cl xc (RV K cl) (bmO .extend rx rs S) L0 F0 H0 W σ Q) : rExt K x vs H Q := by
  unfold bmO at p
  split at p
  all_goals try exact p.elim
  all_goals rename_i heq
  all_goals try (cases heq; done)
  rename_i m r _
  obtain ⟨v, rfl, h⟩ := rl1 hy
  split at p
  · rename_i ds es hm he
    obtain ⟨a, ws, rfl, ha, ho, hd⟩ := mu_lst s hx hm
    obtain ⟨b, us, rfl, h1, h2⟩ := sq_rd s h he
    split at p
    · rename_i hz
      obtain ⟨n1, s1⟩ := put_cell (c' := .lst (ds ++ es)) s ha hm (by nofun) ⟨_, rfl, dpa_app hd h2⟩
      have q := p _ _ _ _ (n.trans n1) s1 (show Dp K F .non .none from .non)
      rcases h1 with h1 | h1
      · exact .inl ⟨a, b, ws, us, rfl, rfl, ho, h1, by rw [dpa_len hd, dpa_len h2]; exact bigL hz, q⟩
      · exact .inr ⟨a, b, ws, us, rfl, rfl, ho, h1, by rw [dpa_len hd, dpa_len h2]; exact bigL hz, q⟩
    · exact p.elim
  · exact p.elim
end
section
variable {K : PySem.W.Frag} {cl : Nat → Addr} {xc : XCl} {L L0 : List Addr} {F F0 H H0 Hx : Hp} {S : Stv} {x : V} {rx : Rv} {W : WXK} {σ : L2.St}
theorem key_v {d : D} {k : Key} (h : keyK d = some k) : Dp K F (kV k) d := by
  cases d <;> simp only [keyK] at h <;> first | cases h | skip
  · exact .int _
  · exact .str _
theorem its_dp {F2 H' : Hp} {ts : List Addr} {hk : List (Key × V)} {kvs : List (D × D)} (sm : Same F F2) (hF : ∀ t ∈ ts, F2 t = H' t) (hl : Paired (fun (t : Addr) (q : Key × V) => H' t = some (.tup [kV q.1, q.2])) ts hk) (hp : Paired (fun (p : Key × V) (q : D × D) => keyK q.1 = some p.1 ∧ Dp K F p.2 q.2) hk kvs) : DpAll K F2 (ts.map V.ref) (kvs.map fun p => .tuple [p.1, p.2]) := by
  induction hl generalizing kvs with
  | nil => cases hp; exact .nil
  | @cons t q ts hk h1 h2 ih =>
    cases hp with
    | cons a b =>
      refine .cons (.tup (.inl (.inl ((hF t List.mem_cons_self).trans h1))) (.cons (key_v a.1) (.cons (dp_mono sm _ _ a.2) .nil))) (ih (fun t' ht => hF t' (List.mem_cons_of_mem _ ht)) b)
theorem its_ok {Q : VK} (n : Nx L0 F0 H0 L F H) (s : SV K cl F H L S) (hx : RV K cl L F Hx H x rx) (p : Pst K cl xc (RV K cl) (itsO rx S) L0 F0 H0 W σ Q) : LiI.rItemsL x H Q := by
  unfold itsO at p
  split at p
  · rename_i m
    split at p
    · rename_i kvs hm
      obtain ⟨a, rfl, ha⟩ := hx
      obtain ⟨_, h2⟩ := s.st _ a ha
      obtain ⟨_, o, ho, hk, rfl, hpr⟩ := h2 _ hm (by nofun)
      refine ⟨a, hk, rfl, ho, fun H' q ts keep hq hts hqn hql hpl => ?_⟩
      obtain ⟨F2, hF2⟩ : ∃ F2 : Hp, F2 = fun b => if b ∈ ts then H' b else F b := ⟨_, rfl⟩
      have e1 : ∀ b ∈ ts, F2 b = H' b := fun b hb => by rw [hF2]; exact if_pos hb
      have e2 : ∀ b, b ∉ ts → F2 b = F b := fun b hb => by rw [hF2]; exact if_neg hb
      have nts : ∀ b o, H b = some o → b ∉ ts := fun b o e hb => by rw [hts b hb] at e; cases e
      have sm : Same F F2 := fun b o e => by
        rw [e2 b (nts b o (s.sub _ _ e))]
        exact e
      have nx : Nx L F H L F2 H' := ⟨⟨sm, fun a o e _ => keep a o e, fun a h => by
        cases e : H a with
        | none => exact absurd e h
        | some o => rw [keep a o e]; exact nofun, fun a h h0 => by
        cases e : H a with
        | none => exact absurd e h
        | some o => rw [e2 a (nts a o e)]; exact h0⟩, [], by simp, fun a h => by cases h⟩
      have s2 : SV K cl F2 H' L S := by
        refine ⟨fun b o e => ?_, s.len, s.nd, fun n a e => ?_⟩
        · by_cases hb : b ∈ ts
          · rw [e1 b hb] at e; exact e
          · rw [e2 b hb] at e; exact keep _ _ (s.sub _ _ e)
        · obtain ⟨h1, h3⟩ := s.st n a e
          refine ⟨nx.stp.live a h1, fun c hc hg => ?_⟩
          obtain ⟨f, o, h4, h5⟩ := h3 c hc hg
          have := h5.mono (R := []) sm
          rw [List.append_nil] at this
          exact ⟨nx.stp.nof a (by rw [h4]; exact nofun) f, o, keep _ _ h4, this⟩
      refine p _ _ _ _ (n.trans nx) s2 ?_
      refine RV.back n ?_
      refine ⟨q, .lst (ts.map V.ref), rfl, hq, fr_L s hq, ?_, hql, _, rfl, its_dp sm e1 hpl hpr⟩
      rw [e2 q hqn]
      exact fr_F s hq
    · exact p.elim
  · exact p.elim
/-! what is walked: numbered, backwards -/
theorem enumD_len : ∀ (k : Nat) (ds : List D), (enumD k ds).length = ds.length
  | _, [] => rfl
  | k, d :: ds => by simp [enumD, enumD_len (k + 1) ds]
theorem enumD_get : ∀ (k : Nat) (ds : List D) (i : Nat), (enumD k ds)[i]? = ds[i]?.map fun d => .tuple [.int ((k + i : Nat) : Int), d]
  | _, [], i => by simp [enumD]
  | k, d :: ds, 0 => by simp [enumD]
  | k, d :: ds, i + 1 => by
    simp only [enumD, List.getElem?_cons_succ, enumD_get (k + 1) ds i]
    rw [show k + 1 + i = k + (i + 1) by omega]
end
end VM
end

section
set_option Elab.async false
set_option linter.all false
set_option maxRecDepth 100000
set_option maxHeartbeats 4000000
namespace VM
open PySem PySem.Spec PyProof.Rows L2 DL

/-- a def's promise: it does what G tells -/
def spV (K : PySem.W.Frag) (cl : Nat → Addr) (xc : XCl) (n : Nat) (G : List En → Stv → Out Rv) : Sp := fun vs H Q E => vs.length = n ∧ ∃ F L es S, EnA K F L vs es ∧ SV K cl F H L S ∧ Pst K cl xc (RV K cl) (G es S) L F H (fun c d _ H' => E c d H') [] Q

/-! ### other numbers for the cells -/
section
variable {K : PySem.W.Frag} {cl : Nat → Addr} {xc : XCl} {L L0 L' : List Addr} {F F0 H H0 Hx Hy : Hp} {S : Stv} {x y : V} {W : WXK} {σ : L2.St} {f : Nat → Nat}
theorem enok_map {e : En} {o : Option V} (h : ∀ k ∈ refE e, ∀ a, L[k]? = some a → L'[f k]? = some a) (q : EnOk K F L e o) : EnOk K F L' (mapE f e) o := by
  cases e with
  | un => trivial
  | dt d => exact q
  | mu n =>
    obtain ⟨a, e, ha⟩ := q
    exact ⟨a, e, h n (by simp [refE]) a ha⟩
theorem EnA.map {vs : List V} {es : List En} (h : ∀ k ∈ es.flatMap refE, ∀ a, L[k]? = some a → L'[f k]? = some a) (q : EnA K F L vs es) : EnA K F L' vs (es.map (mapE f)) := by
  refine ⟨by rw [List.length_map]; exact q.1, fun i e he => ?_⟩
  rw [List.getElem?_map] at he
  obtain ⟨e0, h0, rfl⟩ := Option.map_eq_some_iff.mp he
  obtain ⟨o, ho, hq⟩ := q.2 i e0 h0
  exact ⟨o, ho, enok_map (fun k hk => h k (List.mem_flatMap.mpr ⟨e0, List.mem_of_getElem? h0, hk⟩)) hq⟩
theorem CellOk.map {o : HO} {c : Cell} (h : ∀ k ∈ refC c, ∀ a, L[k]? = some a → L'[f k]? = some a) (q : CellOk K cl F L o c) : CellOk K cl F L' o (mapC f c) := by
  cases c with
  | lst ds => exact q
  | dct t kvs => cases t <;> exact q
  | gone => exact q
  | lse es =>
    obtain ⟨vs, e, hq⟩ := q
    exact ⟨vs, e, EnA.map h hq⟩
  | obj c fs =>
    obtain ⟨dx, vs, e, hn, hq⟩ := q
    refine ⟨dx, vs, e, by rw [hn, List.map_map]; rfl, ?_⟩
    have := EnA.map (f := f) (L' := L') (fun k hk => h k (by
      obtain ⟨e, he, hk⟩ := List.mem_flatMap.mp hk
      obtain ⟨p, hp, rfl⟩ := List.mem_map.mp he
      exact List.mem_flatMap.mpr ⟨p, hp, hk⟩)) hq
    rw [List.map_map] at this ⊢
    exact this
theorem mapC_gone {c : Cell} : mapC f c = .gone ↔ c = .gone := by cases c <;> simp [mapC]
theorem RV.map {v : V} {r : Rv} (h : ∀ k a, L[k]? = some a → L'[f k]? = some a) (hn : ∀ a, H a = none → a ∉ L → a ∉ L') (q : RV K cl L F H Hy v r) : RV K cl L' F H Hy v (mapR f r) := by
  cases r with
  | v d => exact q
  | mu n =>
    obtain ⟨a, e, ha⟩ := q
    exact ⟨a, e, h n a ha⟩
  | nw c =>
    obtain ⟨a, o, e, h0, h1, h2, h3, h4⟩ := q
    exact ⟨a, o, e, h0, hn a h0 h1, h2, h3, h4.map fun k _ => h k⟩
theorem mergeC_len {ks : List Nat} {m : Nat} {S' : Stv} : ∀ (i : Nat) (S : Stv), (mergeC ks m S' i S).length = S.length
  | _, [] => rfl
  | i, c :: cs => by simp [mergeC, mergeC_len (i + 1) cs]
theorem mergeC_get {ks : List Nat} {m : Nat} {S' : Stv} : ∀ (i : Nat) (S : Stv) (n : Nat), (mergeC ks m S' i S)[n]? = S[n]?.map fun c => if i + n ∈ ks then mapC (unK ks m) (S'.getD (ks.idxOf (i + n)) .gone) else c
  | _, [], n => by simp [mergeC]
  | i, c :: cs, 0 => by simp [mergeC]
  | i, c :: cs, n + 1 => by
    have := mergeC_get (ks := ks) (m := m) (S' := S') (i + 1) cs n
    simp only [mergeC, List.getElem?_cons_succ, this]
    rw [show i + 1 + n = i + (n + 1) by omega]
theorem nodupB_iff : ∀ {ks : List Nat}, nodupB ks = true → ks.Nodup
  | [], _ => .nil
  | k :: ks, h => by
    unfold nodupB at h
    rw [Bool.and_eq_true] at h
    refine List.nodup_cons.mpr ⟨by simpa using h.1, nodupB_iff h.2⟩
theorem idx_get {ks : List Nat} {k : Nat} (h : k ∈ ks) : ks[ks.idxOf k]? = some k := by
  have hl := List.idxOf_lt_length_of_mem h
  rw [List.getElem?_eq_getElem hl, List.getElem_idxOf]
theorem callK_ok {cb : CB1} {g : Nat} {m : Nat} {ens : List En} {ks : List Nat} {vs : List V} {Q : VK} (har : ∀ es S, cb g es S ≠ .bad → es.length = m) (n : Nx L0 F0 H0 L F H) (s : SV K cl F H L S) (he : EnA K F L vs ens)
    (p : Pst K cl xc (RV K cl) (callK cb g ens S ks) L0 F0 H0 W σ Q) : spV K cl xc m (cb g) vs H Q (fun c d H' => W c d σ H') := by
  unfold callK at p
  split at p
  case isFalse => exact p.elim
  rename_i hok
  obtain ⟨ho, hin⟩ := hok
  unfold subOk at ho
  rw [Bool.and_eq_true, List.all_eq_true] at ho
  have hnd := nodupB_iff ho.1
  have hks : ∀ k ∈ ks, ∃ c, S[k]? = some c ∧ ∀ j ∈ refC c, j ∈ ks := fun k hk => by
    have := ho.2 k hk
    split at this
    · rename_i c hc
      rw [List.all_eq_true] at this
      exact ⟨c, hc, fun j hj => by simpa using this j hj⟩
    · cases this
  have hkL : ∀ k ∈ ks, k < L.length := fun k hk => by
    obtain ⟨c, hc, _⟩ := hks k hk
    rw [s.len]
    exact (List.getElem?_eq_some_iff.mp hc).1
  have hen : ∀ k ∈ ens.flatMap refE, k ∈ ks := fun k hk => by
    obtain ⟨e, h1, h2⟩ := List.mem_flatMap.mp hk
    have := List.all_eq_true.mp hin e h1
    unfold inK at this
    simpa using List.all_eq_true.mp this k h2
  -- the addresses that the call sees
  obtain ⟨Ls, hLs⟩ : ∃ Ls : List Addr, Ls = ks.map fun k => L.getD k 0 := ⟨_, rfl⟩
  have hLl : Ls.length = ks.length := by rw [hLs, List.length_map]
  have hLg : ∀ (j k : Nat), ks[j]? = some k → Ls[j]? = L[k]? := fun j k hj => by
    have hk := hkL k (List.mem_of_getElem? hj)
    rw [hLs, List.getElem?_map, hj]
    simp [List.getD_eq_getElem?_getD, List.getElem?_eq_getElem hk]
  have hre : ∀ k ∈ ks, ∀ a, L[k]? = some a → Ls[ks.idxOf k]? = some a := fun k hk a ha => by
    rw [hLg _ _ (idx_get hk)]
    exact ha
  have hsub : ∀ a ∈ Ls, a ∈ L := fun a ha => by
    rw [hLs] at ha
    obtain ⟨k, hk, rfl⟩ := List.mem_map.mp ha
    have := hkL k hk
    rw [List.getD_eq_getElem?_getD, List.getElem?_eq_getElem this]
    exact List.getElem_mem this
  have hndL : Ls.Nodup := by
    rw [hLs]
    refine List.pairwise_map.mpr (hnd.imp_of_mem ?_)
    intro a b ha hb hab e
    apply hab
    have h1 := hkL a ha
    have h2 := hkL b hb
    rw [List.getD_eq_getElem?_getD, List.getElem?_eq_getElem h1, List.getD_eq_getElem?_getD, List.getElem?_eq_getElem h2] at e
    exact (List.getElem_inj s.nd).mp e
  have sS : SV K cl F H Ls (subS S ks) := by
    refine ⟨s.sub, by rw [hLl]; simp [subS], hndL, fun j a ha => ?_⟩
    have hj : j < ks.length := by rw [← hLl]; exact (List.getElem?_eq_some_iff.mp ha).1
    have hkj : ks[j]? = some ks[j] := List.getElem?_eq_getElem hj
    rw [hLg _ _ hkj] at ha
    obtain ⟨hx, hy⟩ := s.st _ a ha
    refine ⟨hx, fun c hc hg => ?_⟩
    unfold subS at hc
    rw [List.getElem?_map, hkj, Option.map_some] at hc
    obtain ⟨c0, h0, hr⟩ := hks _ (List.getElem_mem hj)
    rw [List.getD_eq_getElem?_getD, h0] at hc
    cases hc
    have h0' : c0 ≠ .gone := fun z => hg (mapC_gone.mpr z)
    obtain ⟨f0, o, h1, h2⟩ := hy c0 h0 h0'
    exact ⟨f0, o, h1, h2.map fun k hk => hre k (hr k hk)⟩
  have eA : EnA K F Ls vs (ens.map (mapE fun j => ks.idxOf j)) := EnA.map (fun k hk => hre k (hen k hk)) he
  have hvl : vs.length = m := by
    rw [eA.1]
    refine har _ (subS S ks) fun z => ?_
    rw [z] at p
    exact p.elim
  refine ⟨hvl, F, Ls, _, _, eA, sS, ?_⟩
  -- what is back
  have back : ∀ {F' H' : Hp} {L1 : List Addr} {S' : Stv}, Nx Ls F H L1 F' H' → SV K cl F' H' L1 S' → ks.length ≤ S'.length → ∃ L2, Nx L F H L2 F' H' ∧ SV K cl F' H' L2 (merge S ks S') ∧ (∀ k a, L1[k]? = some a → L2[unK ks S.length k]? = some a) ∧ (∀ a, H a = none → a ∉ L1 → a ∉ L2) := by
    intro F' H' L1 S' n' s' hl
    obtain ⟨st', R, rfl, fr⟩ := n'
    have hRl : S'.length = ks.length + R.length := by rw [← s'.len, List.length_append, hLl]
    have hun : ∀ k a, (Ls ++ R)[k]? = some a → (L ++ R)[unK ks S.length k]? = some a := fun k a ha => by
      unfold unK
      split
      · rename_i hk
        rw [List.getElem?_append_left (by rw [hLl]; exact hk)] at ha
        have hkj : ks[k]? = some ks[k] := List.getElem?_eq_getElem hk
        rw [hLg _ _ hkj] at ha
        rw [List.getD_eq_getElem?_getD, hkj, Option.getD_some, List.getElem?_append_left (hkL _ (List.getElem_mem hk))]
        exact ha
      · rename_i hk
        rw [List.getElem?_append_right (by rw [hLl]; omega), hLl] at ha
        rw [List.getElem?_append_right (by rw [s.len]; omega), s.len]
        rw [show S.length + (k - ks.length) - S.length = k - ks.length by omega]
        exact ha
    have hRn : ∀ a ∈ R, a ∉ L := fun a ha hm => s.memH hm (fr a ha)
    have hstp : Stp L F H F' H' := ⟨st'.fx, fun a o h hn => st'.keep a o h (fun z => hn (hsub a z)), st'.live, st'.nof⟩
    refine ⟨L ++ R, ⟨hstp, R, rfl, fr⟩, ⟨s'.sub, ?_, ?_, fun k a ha => ?_⟩, hun, fun a h0 h1 hm => ?_⟩
    · unfold merge
      rw [List.length_append, List.length_append, mergeC_len, List.length_map, List.length_drop, s.len]
      omega
    · rw [List.nodup_append]
      refine ⟨s.nd, (List.nodup_append.mp s'.nd).2.1, fun a ha b hb z => ?_⟩
      subst z
      exact hRn a hb ha
    · unfold merge
      by_cases hk : k < L.length
      · rw [List.getElem?_append_left hk] at ha
        have hkS : k < S.length := by rw [← s.len]; exact hk
        refine ⟨st'.live a (s.st k a ha).1, fun c hc hg => ?_⟩
        rw [List.getElem?_append_left (by rw [mergeC_len]; exact hkS), mergeC_get, List.getElem?_eq_getElem hkS, Option.map_some, Nat.zero_add] at hc
        split at hc
        · rename_i hm
          have hidx := List.idxOf_lt_length_of_mem hm
          have hidS : ks.idxOf k < S'.length := by omega
          rw [List.getD_eq_getElem?_getD, List.getElem?_eq_getElem hidS, Option.getD_some] at hc
          cases hc
          have hg' : S'[ks.idxOf k] ≠ .gone := fun z => hg (mapC_gone.mpr z)
          have ha' : (Ls ++ R)[ks.idxOf k]? = some a := by
            rw [List.getElem?_append_left (by rw [hLl]; exact hidx)]
            exact hre k hm a ha
          obtain ⟨f0, o, h1, h2⟩ := (s'.st _ a ha').2 _ (List.getElem?_eq_getElem hidS) hg'
          exact ⟨f0, o, h1, h2.map fun j _ => hun j⟩
        · rename_i hm
          cases hc
          obtain ⟨f0, o, h1, h2⟩ := (s.st k a ha).2 _ (List.getElem?_eq_getElem hkS) hg
          have haLs : a ∉ Ls := fun z => by
            obtain ⟨j, hj⟩ := List.getElem?_of_mem z
            have hjl : j < ks.length := by rw [← hLl]; exact (List.getElem?_eq_some_iff.mp hj).1
            have hkj : ks[j]? = some ks[j] := List.getElem?_eq_getElem hjl
            rw [hLg _ _ hkj] at hj
            have e1 := List.getElem?_eq_some_iff.mp hj
            have e2 := List.getElem?_eq_some_iff.mp ha
            have : ks[j] = k := (List.getElem_inj s.nd).mp (e1.2.trans e2.2.symm)
            exact hm (this ▸ List.getElem_mem hjl)
          exact ⟨st'.nof a (by rw [h1]; exact nofun) f0, o, st'.keep a o h1 haLs, h2.mono st'.fx⟩
      · rw [List.getElem?_append_right (by omega)] at ha
        have hj : ks.length + (k - L.length) < S'.length := by
          have := (List.getElem?_eq_some_iff.mp ha).1
          omega
        have ha' : (Ls ++ R)[ks.length + (k - L.length)]? = some a := by
          rw [List.getElem?_append_right (by omega), hLl, Nat.add_sub_cancel_left]
          exact ha
        obtain ⟨h1, h2⟩ := s'.st _ a ha'
        refine ⟨h1, fun c hc hg => ?_⟩
        rw [List.getElem?_append_right (by rw [mergeC_len, ← s.len]; omega), mergeC_len, List.getElem?_map, List.getElem?_drop, ← s.len, List.getElem?_eq_getElem hj, Option.map_some] at hc
        cases hc
        have hg' : S'[ks.length + (k - L.length)] ≠ .gone := fun z => hg (mapC_gone.mpr z)
        obtain ⟨f0, o, h3, h4⟩ := h2 _ (List.getElem?_eq_getElem hj) hg'
        exact ⟨f0, o, h3, h4.map fun j _ => by
          have := hun j
          rw [← s.len] at this
          exact this⟩
    · rcases List.mem_append.mp hm with q | q
      · exact s.memH q h0
      · exact h1 (List.mem_append_right _ q)
  cases hc : cb g (ens.map (mapE fun j => ks.idxOf j)) (subS S ks) with
  | ok r S' =>
    rw [hc] at p
    simp only at p
    split at p
    · rename_i hl
      intro v F' H' L1 n' s' r'
      obtain ⟨L2, n2, s2, hu, hfr⟩ := back n' s' hl
      exact p v F' H' L2 (n.trans n2) s2 ((r'.map hu hfr).back n)
    · exact p.elim
  | ex c fs S' =>
    rw [hc] at p
    simp only at p
    split at p
    · rename_i hl
      intro d F' H' L1 n' s' x'
      obtain ⟨L2, n2, s2, _⟩ := back n' s' hl
      exact p d F' H' L2 (n.trans n2) s2 (x'.back n)
    · exact p.elim
  | bad => rw [hc] at p; exact p.elim
end
end VM
end

section
set_option Elab.async false
set_option linter.all false
set_option maxRecDepth 100000
set_option maxHeartbeats 4000000
namespace VM
open PySem PySem.Spec PyProof.Rows L2 DL

/-! ## what the machine is asked, term by term -/
def vD : D → V
  | .int i => .int i
  | .bool b => .bl b
  | .str s => .str s
  | _ => .non
def dG (K : PySem.W.Frag) : Tgt → TG
  | .nm i => gName i
  | .tp is => gTup K is.length (is.foldr (fun i t => gCons (gName i) t) gNil)
def tGlb (K : PySem.W.Frag) (v : V) (d : D) : TE := fun _ H Q => KDat K v d → Q v H
def iAll (K : PySem.W.Frag) (te : TE) : TI := fun σ H R => iSeq K te σ H R ∨ iStr te σ H R
structure Env0 where
  K : PySem.W.Frag
  cl : Nat → Addr
  xc : XCl
  V0 : Nat → V
  ar : Nat → Nat
  cb : CB
abbrev Env0.sp (E : Env0) (g : Nat) : Sp := spV E.K E.cl E.xc (E.ar g) (E.cb false g)
abbrev Env0.spm (E : Env0) (g : Nat) : Sp := spV E.K E.cl E.xc (E.ar g) (E.cb true g)
def tFldV (cl : Nat → Addr) (ta : TE) (f : Str) : TE := fun σ H Q => ta σ H fun x H1 => ∃ a c dx fs v, x = .ref a ∧ H1 a = some (.ins (cl c) dx fs) ∧ fs.lookup f = some v ∧ Q v H1
section
variable (E : Env0)
mutual
def dE : Ex → WXK → TE
  | .var i, _ => tVar i
  | .con d, _ => tC (vD d)
  | .glb k d, _ => tGlb E.K (E.V0 k) d
  | .bin o a b, W => tOp (rBin E.K o) (dE a W) (dE b W)
  | .neg a, W => tUn (rU fun i => .int (-i)) (dE a W)
  | .not a, W => tNotT E.K (dE a W)
  | .and a b, W => tAndT E.K (dE a W) (dE b W)
  | .or a b, W => tOrT E.K (dE a W) (dE b W)
  | .ife c a b, W => tIf (dT c W) (dE a W) (dE b W)
  | .cmp o a b, W => tOp (rCmp E.K o) (dE a W) (dE b W)
  | .chn o o' a b c, W => tChain (rCmp E.K o) (rCmp E.K o') (dE a W) (dE b W) (dE c W)
  | .tup es, W => tTup (dA es W)
  | .lst es, W => tLst (dA es W)
  | .dnw t, _ => if t = true then tDNewT else tDNewK
  | .idx a i, W => tOp (rIdx E.K) (dE a W) (dE i W)
  | .slc a lo hi, W => tSl (rSl E.K) (dE a W) (dO lo W) (dO hi W)
  | .call f es, W => fun σ H Q => dA es W σ H fun vs H1 => E.sp f (vs ++ []) H1 Q (fun c d H' => W c d σ H')
  | .mth c f m o es, W => fun σ H Q => dE o W σ H fun x H1 => ∃ a dx fs, x = .ref a ∧ H1 a = some (.ins (E.cl c) dx fs) ∧ fs.lookup m = none ∧ dA es W σ H1 fun vs H2 => E.sp f (x :: (vs ++ [])) H2 Q (fun c d H' => W c d σ H')
  | .mak c f es, W => fun σ H Q => dA es W σ H fun vs H1 => ∀ x dx, H1 x = none → H1 dx = none → dx ≠ x → E.spm f (.ref x :: (vs ++ [])) (upd (upd H1 dx (.own x)) x (.ins (E.cl c) dx [])) (fun v H2 => v = .non ∧ Q (.ref x) H2) (fun c d H' => W c d σ H')
  | .fld m o, W => tFldV E.cl (dE o W) m
  | .isi T a, W => tCB (rIsi E.K) (tCons (dE a W) (tCons (tC (.ty T)) tNil))
  | .bi b es, W => tCB (rBi E.K b) (dA es W)
  | .bm b o es, W => match b with
    | .append => tBM E.K "list" rAppend (dE o W) (dA es W)
    | .extend => tBM E.K "list" (rExt E.K) (dE o W) (dA es W)
    | .pop => tBM0 E.K "list" rPop (dE o W)
    | .reverse => tBM0 E.K "list" rReverse (dE o W)
    | .join => tM1 (rJoin E.K) (dE o W) (dH es W)
    | .index => tBM E.K "list" (rIndex E.K) (dE o W) (dA es W)
    | _ => fun σ H _ => dE o W σ H fun _ _ => False
  | .lc ws g it c e, W => tLc (dI it W) (dG E.K g) (dC c W) (dE e W) ws
  | .lrg a b t, W => match a with
    | .none => if t = true then tTupRg (tRg1 (dE b W)) else tLstRg (tRg1 (dE b W))
    | .some a => if t = true then tTupRg (tRg2 (dE a W) (dE b W)) else tLstRg (tRg2 (dE a W) (dE b W))
  | .own e, W => dE e W
  | .bad, _ => fun _ _ _ => False
  | .its e, W => LiI.tListItems (dE e W)
  | .ddc kvs, _ => tDisp (kvs.map fun p => (tC (.str p.1), tC (.str p.2)))
  | .dgt o k x, W => tDGet2 (dE o W) (dE k W) (dE x W)
def dA : Exs → WXK → TA
  | .nil, _ => tNil
  | .cons e es, W => tCons (dE e W) (dA es W)
  | .star e es, W => StX.tStar E.K (dE e W) (dA es W)
def dH : Exs → WXK → TE
  | .nil, _ => fun _ _ _ => False
  | .cons e _, W => dE e W
  | .star _ _, _ => fun _ _ _ => False
def dO : Exo → WXK → TO
  | .none, _ => tNoPart
  | .some e, W => tPart (dE e W)
def dI : Itr → WXK → TI
  | .sq e, W => iAll E.K (dE e W)
  | .rg1 a, W => iRng1 (tCons (dE a W) tNil)
  | .rg2 a b, W => iRng2 (tCons (dE a W) (tCons (dE b W) tNil))
  | .enu e, W => iEnum E.K (tCons (dE e W) tNil)
  | .rev e, W => RT.iRevA E.K (dE e W)
def dT : Tx → WXK → TT
  | .val e, W => fun σ H Q => dE e W σ H fun x H' => ∃ k, TruV E.K x H' k ∧ Q k H'
  | .not a, W => tNot (dT a W)
  | .and a b, W => tAnd (dT a W) (dT b W)
  | .or a b, W => tOr (dT a W) (dT b W)
  | .cmp o a b, W => tTest (tOp (rCmp E.K o) (dE a W) (dE b W))
  | .chn o o' a b c, W => tTest (tChain (rCmp E.K o) (rCmp E.K o') (dE a W) (dE b W) (dE c W))
def dC : Txo → WXK → TT
  | .none, _ => tYes
  | .some t, W => dT t W
end
end

/-! ## what is walked -/
structure JV (K : PySem.W.Frag) (cl : Nat → Addr) (F : Hp) (L : List Addr) (J : It) (is : Items) : Prop where
  go : ∀ F2 H2 R S2 (i : Nat), Same F F2 → SV K cl F2 H2 (L ++ R) S2 → chk is.2 S2 → i < is.1.length → J.go i H2 ∧ ∀ x H', J.yld i H2 x H' → ∃ F3 e, Nx (L ++ R) F2 H2 (L ++ R) F3 H' ∧ SV K cl F3 H' (L ++ R) S2 ∧ is.1[i]? = some e ∧ EnOk K F3 (L ++ R) e (some x)
  stop : ∀ F2 H2 R S2, Same F F2 → SV K cl F2 H2 (L ++ R) S2 → chk is.2 S2 → J.stop is.1.length H2
def RJ (K : PySem.W.Frag) (cl : Nat → Addr) : List Addr → Hp → Hp → Hp → It → Items → Prop := fun L' F' _ _ J is => JV K cl F' L' J is
theorem bkJ {K : PySem.W.Frag} {cl : Nat → Addr} : Bk (RJ K cl) := fun _ _ _ _ _ _ _ _ _ _ _ _ r => r
section
variable {K : PySem.W.Frag} {cl : Nat → Addr} {xc : XCl} {L L0 : List Addr} {F F0 H H0 Hx Hy : Hp} {S : Stv} {x y : V} {rx ry : Rv} {W : WXK} {σ : L2.St} {ρ : Rho}
theorem ena_dp {vs : List V} {ds : List D} (h : DpAll K F vs ds) : EnA K F L vs (ds.map .dt) := by
  refine ⟨by rw [List.length_map]; exact dpa_len h, fun i e he => ?_⟩
  rw [List.getElem?_map] at he
  obtain ⟨d, hd, rfl⟩ := Option.map_eq_some_iff.mp he
  obtain ⟨v, hv, hq⟩ := dpa_get h hd
  exact ⟨some v, by rw [List.getElem?_map, hv]; rfl, v, rfl, hq⟩
theorem jv_l {a : Addr} {is : Items} (h : ∀ F2 H2 R S2, Same F F2 → SV K cl F2 H2 (L ++ R) S2 → chk is.2 S2 → ∃ vs, SqL K H2 a vs ∧ EnA K F2 (L ++ R) vs is.1) : JV K cl F L (Itl K a) is where
  go := fun F2 H2 R S2 i sm s c hi => by
    obtain ⟨vs, h1, h2⟩ := h F2 H2 R S2 sm s c
    obtain ⟨v, hv, hd⟩ := ena_get h2 (List.getElem?_eq_getElem hi)
    exact ⟨⟨vs, v, h1, hv⟩, fun x H' y => by
      obtain ⟨rfl, y⟩ := y
      have := y vs h1
      rw [hv] at this
      cases this
      exact ⟨F2, _, .refl _ _ _, s, List.getElem?_eq_getElem hi, hd⟩⟩
  stop := fun F2 H2 R S2 sm s c => by
    obtain ⟨vs, h1, h2⟩ := h F2 H2 R S2 sm s c
    exact ⟨vs, h1, by rw [h2.1]; exact Nat.le_refl _⟩
theorem jv_t {a : Addr} {is : Items} (h : ∀ F2 H2 R S2, Same F F2 → SV K cl F2 H2 (L ++ R) S2 → chk is.2 S2 → ∃ vs, SqT K H2 a vs ∧ EnA K F2 (L ++ R) vs is.1) : JV K cl F L (Itt K a) is where
  go := fun F2 H2 R S2 i sm s c hi => by
    obtain ⟨vs, h1, h2⟩ := h F2 H2 R S2 sm s c
    obtain ⟨v, hv, hd⟩ := ena_get h2 (List.getElem?_eq_getElem hi)
    exact ⟨⟨vs, v, h1, hv⟩, fun x H' y => by
      obtain ⟨rfl, y⟩ := y
      have := y vs h1
      rw [hv] at this
      cases this
      exact ⟨F2, _, .refl _ _ _, s, List.getElem?_eq_getElem hi, hd⟩⟩
  stop := fun F2 H2 R S2 sm s c => by
    obtain ⟨vs, h1, h2⟩ := h F2 H2 R S2 sm s c
    exact ⟨vs, h1, by rw [h2.1]; exact Nat.le_refl _⟩
theorem jv_s {z : Str} {c : Option (Nat × Cell)} : JV K cl F L (Its z) (z.cps.toList.map fun c => .dt (.str ⟨#[c]⟩), c) where
  go := fun F2 H2 R S2 i sm s c hi => by
    simp only [List.length_map, Array.length_toList] at hi
    refine ⟨hi, fun x H' y => ?_⟩
    obtain ⟨rfl, c, hc, rfl⟩ := y
    refine ⟨F2, .dt (.str ⟨#[c]⟩), .refl _ _ _, s, ?_, _, rfl, .str _⟩
    rw [List.getElem?_map, Array.getElem?_toList, hc]
    rfl
  stop := fun F2 H2 R S2 sm s c => by
    show z.cps.size ≤ _
    simp
theorem jv_r {lo : Int} {n : Nat} : JV K cl F L (L2.Itr lo n) ((rngD lo n).map .dt, none) where
  go := fun F2 H2 R S2 i sm s _ hi => by
    simp only [List.length_map, rngD_len] at hi
    exact ⟨hi, fun x H' y => by
      obtain ⟨rfl, rfl⟩ := y
      exact ⟨F2, .dt (.int (lo + (i : Int))), .refl _ _ _, s, by rw [List.getElem?_map, rngD_get hi]; rfl, _, rfl, .int _⟩⟩
  stop := fun F2 H2 R S2 sm s _ => by
    show n ≤ _
    simp [rngD_len]
theorem app_get {R : List Addr} {n : Nat} {a : Addr} (h : L[n]? = some a) : (L ++ R)[n]? = some a := by
  rw [List.getElem?_append_left (List.getElem?_eq_some_iff.mp h).1]
  exact h
/-- the items of a value: the way of a list, a tuple; the way of a text -/
theorem items_ok {R : It → Hp → Prop} (n : Nx L0 F0 H0 L F H) (s : SV K cl F H L S) (hx : RV K cl L F H0 H x rx) (p : Pst K cl xc (RJ K cl) (itemsO rx S) L0 F0 H0 W σ R) :
    (∃ z, rx = .v (.str z) ∧ ∃ z, x = .str z ∧ R (Its z) H) ∨ ∃ a, x = .ref a ∧ (((∃ xs, SqL K H a xs) ∧ R (Itl K a) H) ∨ ((∃ xs, SqT K H a xs) ∧ R (Itt K a) H)) := by
  have lst : ∀ (ds : List D) (c : Option (Nat × Cell)) (F2 : Hp), Nx L0 F0 H0 L F2 H → SV K cl F2 H L S → Dp K F2 x (.list ds) → Pst K cl xc (RJ K cl) (.ok (ds.map .dt, none) S) L0 F0 H0 W σ R → ∃ a, x = .ref a ∧ (((∃ xs, SqL K H a xs) ∧ R (Itl K a) H) ∨ ((∃ xs, SqT K H a xs) ∧ R (Itt K a) H)) := by
    intro ds c F2 n2 s2 hd p
    cases hd with
    | lst h1 h2 =>
      rename_i a vs
      exact ⟨a, rfl, .inl ⟨⟨vs, s2.sub.seq h1⟩, p _ _ _ _ n2 s2 (jv_l fun F3 H3 R S3 sm s3 _ => ⟨vs, s3.sub.seq (sm.seq h1), ena_dp (dpa_mono sm _ _ h2)⟩)⟩⟩
  unfold itemsO at p
  split at p
  · rename_i ds
    exact .inr (lst ds none F n s hx p)
  · rename_i ds
    have hx' : Dp K F x (.tuple ds) := hx
    cases hx' with
    | tup h1 h2 =>
      rename_i a vs
      exact .inr ⟨a, rfl, .inr ⟨⟨vs, sqt_mono s.sub h1⟩, p _ _ _ _ n s (jv_t fun F3 H3 R S3 sm s3 _ => ⟨vs, sqt_mono s3.sub (sqt_mono sm h1), ena_dp (dpa_mono sm _ _ h2)⟩)⟩⟩
  · rename_i ds
    obtain ⟨F2, n2, s2, d2, sm⟩ := rv_frz n s hx (rfl : rvD (.nw (.lst ds)) = some (.list ds))
    exact .inr (lst ds none F2 n2 s2 d2 p)
  · rename_i z
    cases dp_str hx
    exact .inl ⟨z, rfl, z, rfl, p _ _ _ _ n s jv_s⟩
  · rename_i m
    split at p
    · rename_i ds hm
      obtain ⟨a, ws, rfl, ha, ho, hd⟩ := mu_lst s hx hm
      refine .inr ⟨a, rfl, .inl ⟨⟨ws, .inl (.inl ho)⟩, p _ _ _ _ n s (jv_l fun F3 H3 R S3 sm s3 c => ?_)⟩⟩
      obtain ⟨a', ws', e1, ha', ho', hd'⟩ := mu_lst (Hx := H3) s3 ⟨a, rfl, app_get ha⟩ c
      cases e1
      exact ⟨ws', .inl (.inl ho'), ena_dp hd'⟩
    · rename_i es hm
      obtain ⟨a, ws, rfl, ha, ho, hd⟩ := mu_lse s hx hm
      refine .inr ⟨a, rfl, .inl ⟨⟨ws, .inl (.inl ho)⟩, p _ _ _ _ n s (jv_l fun F3 H3 R S3 sm s3 c => ?_)⟩⟩
      obtain ⟨a', ws', e1, ha', ho', hd'⟩ := mu_lse (Hx := H3) s3 ⟨a, rfl, app_get ha⟩ c
      cases e1
      exact ⟨ws', .inl (.inl ho'), hd'⟩
    · exact p.elim
  · exact p.elim
theorem jv_e {a : Addr} {ds : List D} {c : Option (Nat × Cell)} (h : ∀ F2 H2 R S2, Same F F2 → SV K cl F2 H2 (L ++ R) S2 → chk c S2 → ∃ vs, SqL K H2 a vs ∧ DpAll K F2 vs ds) : JV K cl F L (Ite K a) ((enumD 0 ds).map .dt, c) where
  go := fun F2 H2 R S2 i sm s c hi => by
    obtain ⟨vs, h1, h2⟩ := h F2 H2 R S2 sm s c
    simp only [List.length_map, enumD_len] at hi
    obtain ⟨v, hv, hd⟩ := dpa_get h2 (List.getElem?_eq_getElem hi)
    refine ⟨⟨vs, v, h1, hv⟩, fun x H' y => ?_⟩
    obtain ⟨T, w, rfl, hT, rfl, y⟩ := y
    have := y vs h1
    rw [hv] at this
    cases this
    obtain ⟨n1, s1, d1⟩ := nx_tup s hT (vs := [.int ((i : Nat) : Int), v]) (ds := [.int ((i : Nat) : Int), ds[i]]) (.cons (.int _) (.cons hd .nil))
    refine ⟨_, .dt (.tuple [.int ((i : Nat) : Int), ds[i]]), n1, s1, ?_, _, rfl, d1⟩
    rw [List.getElem?_map, enumD_get, List.getElem?_eq_getElem hi]
    simp
  stop := fun F2 H2 R S2 sm s c => by
    obtain ⟨vs, h1, h2⟩ := h F2 H2 R S2 sm s c
    refine ⟨vs, h1, ?_⟩
    simp only [List.length_map, enumD_len, dpa_len h2]
    exact Nat.le_refl _
theorem enu_ok {R : It → Hp → Prop} (n : Nx L0 F0 H0 L F H) (s : SV K cl F H L S) (hx : RV K cl L F H0 H x rx) (p : Pst K cl xc (RJ K cl) (enuO rx S) L0 F0 H0 W σ R) : ∃ a xs, x = .ref a ∧ SqL K H a xs ∧ R (Ite K a) H := by
  have lst : ∀ (ds : List D) (F2 : Hp), Nx L0 F0 H0 L F2 H → SV K cl F2 H L S → Dp K F2 x (.list ds) → Pst K cl xc (RJ K cl) (.ok ((enumD 0 ds).map .dt, none) S) L0 F0 H0 W σ R → ∃ a xs, x = .ref a ∧ SqL K H a xs ∧ R (Ite K a) H := by
    intro ds F2 n2 s2 hd p
    cases hd with
    | lst h1 h2 =>
      rename_i a vs
      exact ⟨a, vs, rfl, s2.sub.seq h1, p _ _ _ _ n2 s2 (jv_e fun F3 H3 R S3 sm s3 _ => ⟨vs, s3.sub.seq (sm.seq h1), dpa_mono sm _ _ h2⟩)⟩
  unfold enuO at p
  split at p
  · rename_i ds
    exact lst ds F n s hx p
  · rename_i ds
    obtain ⟨F2, n2, s2, d2, sm⟩ := rv_frz n s hx (rfl : rvD (.nw (.lst ds)) = some (.list ds))
    exact lst ds F2 n2 s2 d2 p
  · rename_i m
    split at p
    · rename_i ds hm
      obtain ⟨a, ws, rfl, ha, ho, hd⟩ := mu_lst s hx hm
      refine ⟨a, ws, rfl, .inl (.inl ho), p _ _ _ _ n s (jv_e fun F3 H3 R S3 sm s3 c => ?_)⟩
      obtain ⟨a', ws', e1, ha', ho', hd'⟩ := mu_lst (Hx := H3) s3 ⟨a, rfl, app_get ha⟩ c
      cases e1
      exact ⟨ws', .inl (.inl ho'), hd'⟩
    · exact p.elim
  · exact p.elim
theorem rev_get {ds : List D} {i : Nat} (hi : i < ds.length) : ds.reverse[i]? = ds[ds.length - 1 - i]? := List.getElem?_reverse hi
theorem jv_v {a : Addr} {ds : List D} {m : Nat} {c : Option (Nat × Cell)} (hm : m = ds.length) (h : ∀ F2 H2 R S2, Same F F2 → SV K cl F2 H2 (L ++ R) S2 → chk c S2 → ∃ vs, SqL K H2 a vs ∧ DpAll K F2 vs ds) : JV K cl F L (Itv K a m) (ds.reverse.map .dt, c) where
  go := fun F2 H2 R S2 i sm s c hi => by
    subst hm
    obtain ⟨vs, h1, h2⟩ := h F2 H2 R S2 sm s c
    simp only [List.length_map, List.length_reverse] at hi
    obtain ⟨v, hv, hd⟩ := dpa_get h2 (List.getElem?_eq_getElem (show ds.length - 1 - i < ds.length by omega))
    refine ⟨⟨hi, vs, v, h1, hv⟩, fun x H' y => ?_⟩
    obtain ⟨rfl, y⟩ := y
    have := y vs h1
    rw [hv] at this
    cases this
    refine ⟨F2, .dt ds[ds.length - 1 - i], .refl _ _ _, s, ?_, _, rfl, hd⟩
    rw [List.getElem?_map, rev_get hi, List.getElem?_eq_getElem (show ds.length - 1 - i < ds.length by omega)]
    rfl
  stop := fun F2 H2 R S2 sm s c => by
    subst hm
    show ds.length ≤ _
    simp
theorem jv_vt {a : Addr} {ds : List D} {m : Nat} {c : Option (Nat × Cell)} (hm : m = ds.length) (h : ∀ F2 H2 R S2, Same F F2 → SV K cl F2 H2 (L ++ R) S2 → chk c S2 → ∃ vs, SqT K H2 a vs ∧ DpAll K F2 vs ds) : JV K cl F L (RT.ItvT K a m) (ds.reverse.map .dt, c) where
  go := fun F2 H2 R S2 i sm s c hi => by
    subst hm
    obtain ⟨vs, h1, h2⟩ := h F2 H2 R S2 sm s c
    simp only [List.length_map, List.length_reverse] at hi
    obtain ⟨v, hv, hd⟩ := dpa_get h2 (List.getElem?_eq_getElem (show ds.length - 1 - i < ds.length by omega))
    refine ⟨⟨hi, vs, v, h1, hv⟩, fun x H' y => ?_⟩
    obtain ⟨rfl, y⟩ := y
    have := y vs h1
    rw [hv] at this
    cases this
    refine ⟨F2, .dt ds[ds.length - 1 - i], .refl _ _ _, s, ?_, _, rfl, hd⟩
    rw [List.getElem?_map, rev_get hi, List.getElem?_eq_getElem (show ds.length - 1 - i < ds.length by omega)]
    rfl
  stop := fun F2 H2 R S2 sm s c => by
    subst hm
    show ds.length ≤ _
    simp
theorem rev_ok {R : It → Hp → Prop} (n : Nx L0 F0 H0 L F H) (s : SV K cl F H L S) (hx : RV K cl L F H0 H x rx) (p : Pst K cl xc (RJ K cl) (revO rx S) L0 F0 H0 W σ R) : ∃ (a : Addr) (xs : List V), x = .ref a ∧ ((SqL K H a xs ∧ R (Itv K a xs.length) H) ∨ (SqT K H a xs ∧ R (RT.ItvT K a xs.length) H)) := by
  have lst : ∀ (ds : List D) (F2 : Hp), Nx L0 F0 H0 L F2 H → SV K cl F2 H L S → Dp K F2 x (.list ds) → Pst K cl xc (RJ K cl) (.ok (ds.reverse.map .dt, none) S) L0 F0 H0 W σ R → ∃ (a : Addr) (xs : List V), x = .ref a ∧ ((SqL K H a xs ∧ R (Itv K a xs.length) H) ∨ (SqT K H a xs ∧ R (RT.ItvT K a xs.length) H)) := by
    intro ds F2 n2 s2 hd p
    cases hd with
    | lst h1 h2 =>
      rename_i a vs
      exact ⟨a, vs, rfl, .inl ⟨s2.sub.seq h1, p _ _ _ _ n2 s2 (jv_v (dpa_len h2) fun F3 H3 R S3 sm s3 _ => ⟨vs, s3.sub.seq (sm.seq h1), dpa_mono sm _ _ h2⟩)⟩⟩
  unfold revO at p
  split at p
  · rename_i ds
    exact lst ds F n s hx p
  · rename_i ds
    have hx' : Dp K F x (.tuple ds) := hx
    cases hx' with
    | tup h1 h2 =>
      rename_i a vs
      exact ⟨a, vs, rfl, .inr ⟨sqt_mono s.sub h1, p _ _ _ _ n s (jv_vt (dpa_len h2) fun F3 H3 R S3 sm s3 _ => ⟨vs, sqt_mono s3.sub (sqt_mono sm h1), dpa_mono sm _ _ h2⟩)⟩⟩
  · rename_i ds
    obtain ⟨F2, n2, s2, d2, sm⟩ := rv_frz n s hx (rfl : rvD (.nw (.lst ds)) = some (.list ds))
    exact lst ds F2 n2 s2 d2 p
  · rename_i m
    split at p
    · rename_i ds hm
      obtain ⟨a, ws, rfl, ha, ho, hd⟩ := mu_lst s hx hm
      refine ⟨a, ws, rfl, .inl ⟨.inl (.inl ho), p _ _ _ _ n s (jv_v (dpa_len hd) fun F3 H3 R S3 sm s3 c => ?_)⟩⟩
      obtain ⟨a', ws', e1, ha', ho', hd'⟩ := mu_lst (Hx := H3) s3 ⟨a, rfl, app_get ha⟩ c
      cases e1
      exact ⟨ws', .inl (.inl ho'), hd'⟩
    · exact p.elim
  · exact p.elim
/-! ## targets -/
theorem tgs_ok : ∀ {is : List Nat} {ds : List D} {vs : List V} {σ : L2.St} {ρ : Rho} {Q : L2.St → Hp → Prop}, ds.length = is.length → EOk K F L σ ρ → DpAll K F vs ds → (∀ σ', EOk K F L σ' (bindL is ds ρ) → Q σ' H) → (is.foldr (fun i t => gCons (gName i) t) gNil) vs σ H Q
  | [], [], vs, σ, ρ, Q, _, E, h, q => by
    cases h
    exact ⟨rfl, q σ E⟩
  | i :: is, d :: ds, vs, σ, ρ, Q, hl, E, h, q => by
    cases h with
    | cons h1 h2 => exact ⟨_, _, rfl, tgs_ok (by simpa using hl) (E.set i (e := .dt d) ⟨_, rfl, h1⟩) h2 q⟩
theorem tgt_ok {g : Tgt} {e : En} {ρ1 : Rho} {v : V} {Q : L2.St → Hp → Prop} (hb : bindE g e ρ = some ρ1) (sm : Same F H) (E : EOk K F L σ ρ) (he : EnOk K F L e (some v)) (q : ∀ σ', EOk K F L σ' ρ1 → Q σ' H) : dG K g v σ H Q := by
  cases g with
  | nm i =>
    cases hb
    exact q _ (E.set i he)
  | tp is =>
    cases e with
    | un => cases hb
    | mu n => cases hb
    | dt d =>
      cases d with
      | tuple ds =>
        simp only [bindE] at hb
        split at hb
        · rename_i hl
          cases hb
          obtain ⟨w, ew, hd⟩ := he
          cases ew
          cases hd with
          | tup h1 h2 => exact ⟨_, _, rfl, sqt_mono sm h1, by rw [dpa_len h2]; exact hl, tgs_ok hl E h2 q⟩
        · cases hb
      | none => cases hb
      | bool _ => cases hb
      | int _ => cases hb
      | str _ => cases hb
      | list _ => cases hb
      | dict _ => cases hb
end
end VM
end

section
set_option Elab.async false
set_option linter.all false
set_option maxRecDepth 100000
set_option maxHeartbeats 4000000
namespace VM
open PySem PySem.Spec PyProof.Rows L2 DL

section
variable {K : PySem.W.Frag} {cl : Nat → Addr} {xc : XCl} {L L0 L1 : List Addr} {F F0 F1 H H0 H1 Hx Hy : Hp} {S : Stv} {x y : V} {rx ry : Rv} {W : WXK} {σ : L2.St} {ρ : Rho}
/-! ## cells that nothing knows are let go -/
theorem take_get {n k : Nat} {a : Addr} (h : L[k]? = some a) (hk : k < n) : (L.take n)[k]? = some a := by
  rw [List.getElem?_take, if_pos hk]
  exact h
theorem fit_en {n : Nat} {e : En} {o : Option V} (h : fitE n e = true) (q : EnOk K F L e o) : EnOk K F (L.take n) e o := by
  cases e with
  | un => trivial
  | dt d => exact q
  | mu k =>
    obtain ⟨a, e, ha⟩ := q
    exact ⟨a, e, take_get ha (by simpa [fitE] using h)⟩
theorem fit_eok {n : Nat} (h : ρ.all (fitE n) = true) (q : EOk K F L σ ρ) : EOk K F (L.take n) σ ρ := fun i e he => by
  obtain ⟨o, ho, hq⟩ := q i e he
  exact ⟨o, ho, fit_en (List.all_eq_true.mp h e (List.mem_of_getElem? he)) hq⟩
theorem fit_ena {n : Nat} {vs : List V} {es : List En} (h : es.all (fitE n) = true) (q : EnA K F L vs es) : EnA K F (L.take n) vs es := ⟨q.1, fit_eok h q.2⟩
theorem fit_cell {n : Nat} {o : HO} {c : Cell} (h : fitC n c = true) (q : CellOk K cl F L o c) : CellOk K cl F (L.take n) o c := by
  cases c with
  | lst ds => exact q
  | dct t kvs => cases t <;> exact q
  | gone => exact q
  | lse es =>
    obtain ⟨vs, e, hq⟩ := q
    exact ⟨vs, e, fit_ena h hq⟩
  | obj c fs =>
    obtain ⟨dx, vs, e, hn, hq⟩ := q
    refine ⟨dx, vs, e, hn, fit_ena ?_ hq⟩
    rw [List.all_map]
    exact h
theorem take_sv {n : Nat} (h : fitS n (S.take n) = true) (s : SV K cl F H L S) : SV K cl F H (L.take n) (S.take n) := by
  refine ⟨s.sub, by rw [List.length_take, List.length_take, s.len], s.nd.sublist (List.take_sublist _ _), fun k a ha => ?_⟩
  rw [List.getElem?_take] at ha
  split at ha
  · rename_i hk
    obtain ⟨h1, h2⟩ := s.st k a ha
    refine ⟨h1, fun c hc hg => ?_⟩
    have hc' := hc
    rw [List.getElem?_take, if_pos hk] at hc
    obtain ⟨f0, o, h3, h4⟩ := h2 c hc hg
    exact ⟨f0, o, h3, fit_cell (List.all_eq_true.mp h c (List.mem_of_getElem? hc')) h4⟩
  · cases ha
theorem nx_take (n : Nx L0 F0 H0 L F H) : Nx L0 F0 H0 (L.take L0.length) F H := by
  obtain ⟨st, R, rfl, fr⟩ := n
  rw [List.take_left' rfl]
  exact ⟨st, [], by simp, fun a h => by cases h⟩
theorem trim_ok (n : Nx L0 F0 H0 L F H) (e : EOk K F L σ ρ) (s : SV K cl F H L S) : ∃ L', Nx L0 F0 H0 L' F H ∧ EOk K F L' σ ρ ∧ SV K cl F H L' (trim L0.length ρ S) ∧ ∀ a ∈ L', a ∈ L := by
  unfold trim
  split
  · exact ⟨L, n, e, s, fun _ h => h⟩
  · split
    · rename_i h
      rw [Bool.and_eq_true] at h
      exact ⟨_, nx_take n, fit_eok h.1 e, take_sv h.2 s, fun a h => List.mem_of_mem_take h⟩
    · exact ⟨L, n, e, s, fun _ h => h⟩
theorem kill_ok : ∀ {ks : List Nat} {ρ : Rho}, EOk K F L σ ρ → EOk K F L σ (kill ks ρ)
  | [], ρ, e => e
  | k :: ks, ρ, e => by
    have e1 : EOk K F L σ (ρ.set k .un) := fun i en hi => by
      by_cases hk : k = i
      · subst hk
        have hl : k < ρ.length := by
          have := (List.getElem?_eq_some_iff.mp hi).1
          rw [List.length_set] at this
          exact this
        rw [List.getElem?_set_self hl] at hi
        cases hi
        obtain ⟨o, ho, _⟩ := e k _ (List.getElem?_eq_getElem hl)
        exact ⟨o, ho, trivial⟩
      · rw [List.getElem?_set_ne hk] at hi
        exact e i en hi
    exact kill_ok (ks := ks) e1
theorem tgIn_w {g : Tgt} {ws : List Nat} (h : tgIn g ws = true) : TgW (dG K g) ws := by
  cases g with
  | nm i => exact tgw_name (by simpa [tgIn] using h)
  | tp is =>
    refine tgw_tup ?_
    unfold tgIn at h
    induction is with
    | nil => exact tgsw_nil
    | cons i is ih =>
      have h : (decide (i ∈ ws) && is.all fun i => decide (i ∈ ws)) = true := h
      rw [Bool.and_eq_true] at h
      exact tgsw_cons (tgw_name (by simpa using h.1)) (ih h.2)
theorem lcF_ex {t : Rho → Stv → Out Bool} {f : Rho → Stv → Out Rv} {b : En → Rho → Option Rho} {ch : Option (Nat × Cell)} {n0 : Nat} {c : Nat} {fs : List (Str × D)} {S2 : Stv} : ∀ {es : List En} {acc : List D} {S : Stv}, lcF t f b ch n0 ρ es acc S ≠ .ex c fs S2
  | [], acc, S => by unfold lcF; nofun
  | e :: es, acc, S => by
    unfold lcF
    split
    · nofun
    · split
      · split
        · split
          · split
            · split
              · exact lcF_ex
              · nofun
            · nofun
          · nofun
        · split
          · exact lcF_ex
          · nofun
      · nofun
theorem lc_ok {g : Tgt} {ws : List Nat} {t : WXK → TT} {f : WXK → TE} {tF : Rho → Stv → Out Bool} {fF : Rho → Stv → Out Rv} {is : Items} {J : It} {Q : VK} {S1 : Stv} (ht : ∀ ρ S, ET K cl xc ρ S t (tF ρ S)) (hf : ∀ ρ S, EV K cl xc ρ S f (fF ρ S)) (hg : tgIn g ws = true) (hl : is.1.length ≤ big) (hc : chk is.2 S1)
    (n0 : Nx L0 F0 H0 L1 F1 H1) (e1 : EOk K F1 L1 σ ρ) (s1 : SV K cl F1 H1 L1 S1) (hJ : JV K cl F1 L1 J is) (p : Pst K cl xc (RV K cl) ((lcF tF fF (bindE g) is.2 S1.length (wipeR ρ ws) is.1 [] S1).bind fun ds S2 => .ok (.nw (.lst ds)) S2) L0 F0 H0 W σ Q) :
    ∀ Da, H1 Da = none → ∃ Wi : Nat → Nat → Hp → Prop, (∃ m, Wi 0 m (upd H1 Da (.lst []))) ∧ ∀ i m H, Wi i m H →
      (J.stop i H ∧ Q (.ref Da) H) ∨ (J.go i H ∧ ∃ Nx : Hp → Prop, (∀ H', Nx H' → ∃ m', m' < m ∧ Wi (i + 1) m' H') ∧ ∀ x H', J.yld i H x H' → dG K g x (wipe σ ws) H' fun σ2 H2 => wipe σ2 ws = wipe σ ws ∧ t W σ2 H2 fun b H3 =>
        if b = true then f W σ2 H3 fun y H4 => ∃ acc, H4 Da = some (.lst acc) ∧ acc.length < sizeLine ∧ Nx (upd H4 Da (.lst (acc ++ [y]))) else Nx H3) := by
  intro Da hDa
  obtain ⟨out, S2, hout⟩ : ∃ out S2, lcF tF fF (bindE g) is.2 S1.length (wipeR ρ ws) is.1 [] S1 = .ok out S2 := by
    cases h : lcF tF fF (bindE g) is.2 S1.length (wipeR ρ ws) is.1 [] S1 with
    | ok out S2 => exact ⟨out, S2, rfl⟩
    | ex c fs S2 => exact absurd h lcF_ex
    | bad => rw [h] at p; exact p.elim
  rw [hout] at p
  have hlen : L1.length = S1.length := s1.len
  -- storing to Da
  have put : ∀ {F' H' : Hp} {L' : List Addr} {S' : Stv} {xs : List V}, Nx L1 F1 H1 L' F' H' → SV K cl F' H' L' S' → Da ∉ L' → F' Da = none → Nx L1 F1 H1 L' F' (upd H' Da (.lst xs)) ∧ SV K cl F' (upd H' Da (.lst xs)) L' S' := fun {F' H' L' S' xs} n' s' hL hF => by
    refine ⟨⟨⟨n'.stp.fx, fun a o ea na => ?_, fun a ha => ?_, n'.stp.nof⟩, n'.ex⟩, ⟨fun a o ea => ?_, s'.len, s'.nd, fun n a ea => ?_⟩⟩
    · rw [upd_ne (ne_of_none ea hDa)]
      exact n'.stp.keep a o ea na
    · by_cases z : a = Da
      · rw [z, upd_same]; exact nofun
      · rw [upd_ne z]; exact n'.stp.live a ha
    · rw [upd_ne (ne_of_none ea hF)]
      exact s'.sub _ _ ea
    · have : a ≠ Da := fun z => hL (z ▸ List.mem_of_getElem? ea)
      rw [upd_ne this]
      exact s'.st n a ea
  obtain ⟨n00, s0⟩ := put (xs := []) (.refl _ _ _) s1 (fr_L s1 hDa) (fr_F s1 hDa)
  refine ⟨fun i m H' => m = is.1.length - i ∧ i ≤ is.1.length ∧ ∃ F' L' S' xs acc, Nx L1 F1 H1 L' F' H' ∧ EOk K F' L' (wipe σ ws) (wipeR ρ ws) ∧ SV K cl F' H' L' S' ∧ Da ∉ L' ∧ F' Da = none ∧ H' Da = some (.lst xs) ∧ DpAll K F' xs acc ∧ chk is.2 S' ∧ lcF tF fF (bindE g) is.2 S1.length (wipeR ρ ws) (is.1.drop i) acc S' = .ok out S2,
    ⟨_, rfl, Nat.zero_le _, F1, L1, S1, [], [], n00, wipe_ok e1 ws, s0, fr_L s1 hDa, fr_F s1 hDa, upd_same, .nil, hc, hout⟩, ?_⟩
  rintro i m H' ⟨rfl, hi, F', L', S', xs, acc, n', e', s', hDL, hF', hD', hx, ck, lc⟩
  obtain ⟨R, eL, fR⟩ := n'.ex
  subst eL
  by_cases hlt : i < is.1.length
  · obtain ⟨go, yl⟩ := hJ.go F' H' R S' i n'.fx s' ck hlt
    rw [List.drop_eq_getElem_cons hlt] at lc
    unfold lcF at lc
    split at lc
    case h_1 => cases lc
    rename_i ρ1 hb
    refine .inr ⟨go, fun H' => ∃ F' L' S' xs acc, Nx L1 F1 H1 L' F' H' ∧ EOk K F' L' (wipe σ ws) (wipeR ρ ws) ∧ SV K cl F' H' L' S' ∧ Da ∉ L' ∧ F' Da = none ∧ H' Da = some (.lst xs) ∧ DpAll K F' xs acc ∧ chk is.2 S' ∧ lcF tF fF (bindE g) is.2 S1.length (wipeR ρ ws) (is.1.drop (i + 1)) acc S' = .ok out S2,
      fun H'' n2 => ⟨_, by omega, rfl, by omega, n2⟩, fun x H2 y => ?_⟩
    obtain ⟨F3, e, n3, s3, he, hxe⟩ := yl x H2 y
    rw [List.getElem?_eq_getElem hlt] at he
    cases he
    have e3 := n3.eok e'
    refine tgIn_w hg x _ _ _ _ (tgt_ok (Q := fun σ2 H2' => H2' = H2 ∧ EOk K F3 (L1 ++ R) σ2 ρ1) hb s3.sub e3 hxe fun σ4 e4 => ⟨rfl, e4⟩) fun σ2 H2' ⟨eH, e4⟩ ew => ?_
    subst eH
    rw [wipe_wipe] at ew
    refine ⟨ew, ?_⟩
    have h1 : H2' Da = some (.lst xs) := n3.stp.keep _ _ hD' hDL
    have f1 : F3 Da = none := n3.stp.nof _ (by rw [hD']; exact nofun) hF'
    -- behind the turn
    have keepD : ∀ {F5 H5 L5}, Nx (L1 ++ R) F3 H2' L5 F5 H5 → Da ∉ L5 ∧ F5 Da = none ∧ H5 Da = some (.lst xs) ∧ DpAll K F5 xs acc := fun {F5 H5 L5} n5 => by
      refine ⟨?_, n5.stp.nof _ (by rw [h1]; exact nofun) f1, n5.stp.keep _ _ h1 hDL, dpa_mono (n3.fx.trans n5.fx) _ _ hx⟩
      obtain ⟨_, R5, rfl, f5⟩ := n5
      intro hm
      rcases List.mem_append.mp hm with q | q
      · exact hDL q
      · rw [f5 Da q] at h1; cases h1
    have n13 : Nx L1 F1 H1 (L1 ++ R) F3 H2' := n'.trans n3
    refine (ht ρ1 S').at bkB e4 (.refl _ _ _) s3 ?_
    cases ht1 : tF ρ1 S' with
    | bad => rw [ht1] at lc; cases lc
    | ex c fs S4 => rw [ht1] at lc; cases lc
    | ok k S4 =>
      rw [ht1] at lc
      simp only at lc
      rintro b F4 H4 L4 n4 s4 rfl
      cases b with
      | false =>
        rw [if_neg Bool.false_ne_true] at lc ⊢
        split at lc
        · rename_i hck
          obtain ⟨k0, k1, k2, k3⟩ := keepD n4
          obtain ⟨L5, n5, e5, s5, hs5⟩ := trim_ok (n13.trans n4) (n4.eok e3) s4
          rw [hlen] at s5
          have hD5 : Da ∉ L5 := fun m => k0 (hs5 _ m)
          exact ⟨F4, L5, _, xs, acc, n5, e5, s5, hD5, k1, k2, k3, hck, lc⟩
        · cases lc
      | true =>
        rw [if_pos rfl] at lc ⊢
        refine (hf ρ1 S4).at bkV (n4.eok e4) (.refl _ _ _) s4 ?_
        cases hf1 : fF ρ1 S4 with
        | bad => rw [hf1] at lc; cases lc
        | ex c fs S4 => rw [hf1] at lc; cases lc
        | ok r S5 =>
          rw [hf1] at lc
          simp only at lc
          split at lc
          case h_2 => cases lc
          rename_i d hd
          split at lc
          case isFalse => cases lc
          rename_i hck
          intro v F5 H5 L5 n5 s5 r5
          obtain ⟨F6, n6, s6, d6, _⟩ := rv_frz n5 s5 r5 hd
          obtain ⟨k0, k1, k2, k3⟩ := keepD (n4.trans n6)
          obtain ⟨L7, n7, e7, s7, hs7⟩ := trim_ok ((n13.trans n4).trans n6) ((n4.trans n6).eok e3) s6
          rw [hlen] at s7
          have hD7 : Da ∉ L7 := fun m => k0 (hs7 _ m)
          obtain ⟨n8, s8⟩ := put (xs := xs ++ [v]) n7 s7 hD7 k1
          exact ⟨xs, k2, by rw [dpa_len hx]; exact bigL' hck.2, F6, L7, _, _, _, n8, e7, s8, hD7, k1, upd_same, dpa_app k3 (.cons d6 .nil), hck.1, lc⟩
  · have ei : i = is.1.length := by omega
    subst ei
    rw [List.drop_length] at lc
    unfold lcF at lc
    cases lc
    exact .inl ⟨hJ.stop F' H' R S2 n'.fx s' ck, p _ _ _ _ (n0.trans n') s' ⟨Da, _, rfl, n0.stp.fresh hDa, hDL, hF', hD', _, rfl, hx⟩⟩
end
end VM
end

section
set_option Elab.async false
set_option linter.all false
set_option maxRecDepth 100000
set_option maxHeartbeats 4000000
namespace VM
open PySem PySem.Spec PyProof.Rows L2 DL

section
variable {α β γ δ : Type} {K : PySem.W.Frag} {cl : Nat → Addr} {xc : XCl} {Ra : List Addr → Hp → Hp → Hp → γ → δ → Prop} {Rb : List Addr → Hp → Hp → Hp → β → α → Prop} {ρ : Rho} {S S1 : Stv} {W : WXK} {σ : L2.St} {L L1 L0 : List Addr} {F F0 F1 H H0 H1 Hx : Hp} {Q : β → Hp → Prop} {x y : V} {rx ry : Rv}
/-- one part, then the rest -/
theorem Evs.thn {ta : WXK → L2.St → Hp → (γ → Hp → Prop) → Prop} {o : Out δ} {f : δ → Stv → Out α} {Q1 : γ → Hp → Prop} (h : Evs K cl xc Ra ρ S1 ta o) (E : EOk K F1 L1 σ ρ) (s : SV K cl F1 H1 L1 S1) (n : Nx L F H L1 F1 H1) (p : Pst K cl xc Rb (o.bind f) L F H W σ Q)
    (k : ∀ r S2, o = .ok r S2 → ∀ v F2 H2 L2, Nx L1 F1 H1 L2 F2 H2 → SV K cl F2 H2 L2 S2 → EOk K F2 L2 σ ρ → Ra L2 F2 H1 H2 v r → Pst K cl xc Rb (f r S2) L F H W σ Q → Q1 v H2) : ta W σ H1 Q1 := by
  refine h σ F1 H1 L1 E s W Q1 ?_
  cases o with
  | ok r S2 => exact fun v F2 H2 L2 n2 s2 r2 => k r S2 rfl v F2 H2 L2 n2 s2 (n2.eok E) r2 p
  | ex c fs S' => exact fun d F' H' L' n' s' x' => p d F' H' L' (n.trans n') s' (x'.back n)
  | bad => exact p.elim
theorem tru_thn {f : Bool → Stv → Out α} (s : SV K cl F H L S) (h : RV K cl L F Hx H x rx) (p : Pst K cl xc Rb ((truO rx S).bind f) L0 F0 H0 W σ Q) : ∃ k, truR S rx = some k ∧ TruV K x H k ∧ Pst K cl xc Rb (f k S) L0 F0 H0 W σ Q := by
  unfold truO at p
  cases e : truR S rx with
  | none => rw [e] at p; exact p.elim
  | some k =>
    rw [e] at p
    exact ⟨k, rfl, tru_rd s h e, p⟩
theorem cmp_thn {o : Cop} {f : Bool → Stv → Out α} (p : Pst K cl xc Rb ((cmpO o rx ry S).bind f) L0 F0 H0 W σ Q) : ∃ k, cmpR o rx ry S = some k ∧ Pst K cl xc Rb (f k S) L0 F0 H0 W σ Q := by
  unfold cmpO at p
  cases e : cmpR o rx ry S with
  | none => rw [e] at p; exact p.elim
  | some k =>
    rw [e] at p
    exact ⟨k, rfl, p⟩
theorem ena_dps : ∀ {es : List En} {ds : List D} {vs : List V}, EnA K F L vs es → enDs es = some ds → DpAll K F vs ds
  | [], ds, vs, h, e => by
    cases e
    have : vs = [] := List.length_eq_zero_iff.mp h.1
    rw [this]
    exact .nil
  | en :: es, ds, vs, h, e => by
    cases en with
    | dt d =>
      obtain ⟨ds', hd, rfl⟩ := Option.map_eq_some_iff.mp e
      cases vs with
      | nil => cases h.1
      | cons v vs =>
        obtain ⟨o, ho, w, ew, hw⟩ := h.2 0 _ rfl
        cases ho
        cases ew
        exact .cons hw (ena_dps ⟨by simpa using h.1, fun i e he => h.2 (i + 1) e he⟩ hd)
    | un => cases e
    | mu n => cases e
theorem ena_nil : EnA K F L [] [] := ⟨rfl, fun i e h => by cases i <;> cases h⟩
theorem ena_cons {v : V} {e : En} {vs : List V} {es : List En} (h : EnOk K F L e (some v)) (t : EnA K F L vs es) : EnA K F L (v :: vs) (e :: es) := ena_app (ena_one h) t
theorem enDs_len : ∀ {es : List En} {ds : List D}, enDs es = some ds → ds.length = es.length
  | [], ds, e => by cases e; rfl
  | .dt d :: es, ds, e => by
    obtain ⟨ds', hd, rfl⟩ := Option.map_eq_some_iff.mp e
    simp [enDs_len hd]
  | .un :: es, ds, e => by cases e
  | .mu _ :: es, ds, e => by cases e
theorem fs_lookup {m : Str} : ∀ {vs : List (Str × V)} {fs : List (Str × En)}, vs.map (·.1) = fs.map (·.1) → EnA K F L (vs.map (·.2)) (fs.map (·.2)) → (∀ e, fs.lookup m = some e → ∃ v, vs.lookup m = some v ∧ EnOk K F L e (some v)) ∧ (fs.lookup m = none → vs.lookup m = none)
  | [], [], _, _ => ⟨fun e h => (by cases h), fun _ => rfl⟩
  | (a, v) :: vs, (b, e) :: fs, hn, h => by
    simp only [List.map_cons, List.cons.injEq] at hn
    obtain ⟨rfl, hn⟩ := hn
    have ht : EnA K F L (vs.map (·.2)) (fs.map (·.2)) := ⟨by have := h.1; simpa using this, fun i e he => h.2 (i + 1) e he⟩
    obtain ⟨i1, i2⟩ := fs_lookup (m := m) hn ht
    simp only [List.lookup_cons]
    cases hm : m == a with
    | true =>
      refine ⟨fun e' he => ?_, fun he => by cases he⟩
      cases he
      obtain ⟨o, ho, hq⟩ := h.2 0 e rfl
      cases ho
      exact ⟨v, rfl, hq⟩
    | false => exact ⟨i1, i2⟩
  | [], _ :: _, hn, _ => by cases hn
  | _ :: _, [], hn, _ => by cases hn
theorem mu_obj {n c : Nat} {fs : List (Str × En)} (s : SV K cl F H L S) (h : RV K cl L F Hx H x (.mu n)) (e : S[n]? = some (.obj c fs)) : ∃ a dx vs, x = .ref a ∧ L[n]? = some a ∧ H a = some (.ins (cl c) dx vs) ∧ vs.map (·.1) = fs.map (·.1) ∧ EnA K F L (vs.map (·.2)) (fs.map (·.2)) := by
  obtain ⟨a, rfl, ha⟩ := h
  obtain ⟨_, h2⟩ := s.st _ a ha
  obtain ⟨_, o, ho, dx, vs, rfl, hn, hd⟩ := h2 _ e (by nofun)
  exact ⟨a, dx, vs, rfl, ha, ho, hn, hd⟩
theorem dpa_rg {f : Nat → Int} : ∀ l : List Nat, DpAll K F (l.map fun i => V.int (f i)) (l.map fun i => PyData.int (f i))
  | [] => .nil
  | i :: l => .cons (.int _) (dpa_rg l)
theorem rg_new {i j : Int} {t : Bool} {Q : VK} (hi : -1000000 ≤ i ∧ i ≤ 1000000 ∧ -1000000 ≤ j ∧ j ≤ 1000000) (n : Nx L0 F0 H0 L F H) (s : SV K cl F H L S) (p : Pst K cl xc (RV K cl) (if t = true then okD (.tuple (rngD i (j - i).toNat)) S else .ok (.nw (.lst (rngD i (j - i).toNat))) S) L0 F0 H0 W σ Q) :
    RgOk i j ∧ (t = true → ∀ q, H q = none → Q (.ref q) (upd H q (.tup (rgV i j)))) ∧ (t ≠ true → ∀ q, H q = none → Q (.ref q) (upd H q (.lst (rgV i j)))) := by
  have hd : DpAll K F (rgV i j) (rngD i (j - i).toNat) := dpa_rg _
  refine ⟨⟨by omega, by omega, by omega, by omega, by omega⟩, fun ht q hq => ?_, fun ht q hq => ?_⟩
  · rw [if_pos ht] at p
    obtain ⟨n1, s1, d1⟩ := nx_tup s hq hd
    exact p _ _ _ _ (n.trans n1) s1 d1
  · rw [if_neg ht] at p
    obtain ⟨n1, s1⟩ := nx_lay s hq (.lst (rgV i j))
    exact p _ _ _ _ (n.trans n1) s1 ((rv_new (c := .lst (rngD i (j - i).toNat)) s hq ⟨_, rfl, hd⟩).back n)
theorem bmT_l {b : Bmt} (hb : b ≠ .join) (s : SV K cl F H L S) (h : RV K cl L F Hx H x rx) (e : bmT b rx S = true) : tyV K "list" x H ∧ ∃ n, rx = .mu n := by
  unfold bmT at e
  split at e
  · exact absurd rfl hb
  all_goals first | (cases e; done) | skip
  all_goals
    split at e
    · rename_i ds hm
      obtain ⟨a, ws, rfl, ha, ho, hd⟩ := mu_lst s h hm
      exact ⟨.inl ⟨rfl, ws, .inl (.inl ho)⟩, _, rfl⟩
    · rename_i es hm
      obtain ⟨a, ws, rfl, ha, ho, hd⟩ := mu_lse s h hm
      exact ⟨.inl ⟨rfl, ws, .inl (.inl ho)⟩, _, rfl⟩
    · cases e
end
theorem bmT_j {r : Rv} {S : Stv} (h : bmT .join r S = true) : ∃ z, r = .v (.str z) := by
  cases r with
  | v d => cases d <;> first | exact ⟨_, rfl⟩ | cases h
  | mu n => cases h
  | nw c => cases h
theorem items_chk {rx : Rv} {S S1 : Stv} {is : Items} (h : itemsO rx S = .ok is S1) : chk is.2 S1 := by
  unfold itemsO at h
  split at h
  all_goals first | (cases h; done) | (cases h; trivial) | skip
  split at h
  · rename_i hm
    cases h
    exact hm
  · rename_i hm
    cases h
    exact hm
  · cases h
theorem enu_chk {rx : Rv} {S S1 : Stv} {is : Items} (h : enuO rx S = .ok is S1) : chk is.2 S1 := by
  unfold enuO at h
  split at h
  all_goals first | (cases h; done) | (cases h; trivial) | skip
  split at h
  · rename_i hm
    cases h
    exact hm
  · cases h
theorem rev_chk {rx : Rv} {S S1 : Stv} {is : Items} (h : revO rx S = .ok is S1) : chk is.2 S1 := by
  unfold revO at h
  split at h
  all_goals first | (cases h; done) | (cases h; trivial) | skip
  split at h
  · rename_i hm
    cases h
    exact hm
  · cases h
theorem evI_chk {cb : CB} {ρ : Rho} {S S1 : Stv} {it : Itr} {is : Items} (h : evI cb ρ S it = .ok is S1) : chk is.2 S1 := by
  cases it with
  | sq e =>
    unfold evI at h
    cases h1 : evE cb ρ S e with
    | ok x S2 => rw [h1] at h; exact items_chk h
    | ex c fs S2 => rw [h1] at h; cases h
    | bad => rw [h1] at h; cases h
  | rg1 a =>
    unfold evI at h
    cases h1 : evE cb ρ S a with
    | ok x S2 =>
      rw [h1] at h
      simp only [Out.bind_ok] at h
      split at h
      · split at h
        · cases h; trivial
        · cases h
      · cases h
    | ex c fs S2 => rw [h1] at h; cases h
    | bad => rw [h1] at h; cases h
  | rg2 a b =>
    unfold evI at h
    cases h1 : evE cb ρ S a with
    | ok x S2 =>
      rw [h1] at h
      simp only [Out.bind_ok] at h
      cases h2 : evE cb ρ S2 b with
      | ok y S3 =>
        rw [h2] at h
        simp only [Out.bind_ok] at h
        split at h
        · split at h
          · cases h; trivial
          · cases h
        · cases h
      | ex c fs S2 => rw [h2] at h; cases h
      | bad => rw [h2] at h; cases h
    | ex c fs S2 => rw [h1] at h; cases h
    | bad => rw [h1] at h; cases h
  | enu e =>
    unfold evI at h
    cases h1 : evE cb ρ S e with
    | ok x S2 => rw [h1] at h; exact enu_chk h
    | ex c fs S2 => rw [h1] at h; cases h
    | bad => rw [h1] at h; cases h
  | rev e =>
    unfold evI at h
    cases h1 : evE cb ρ S e with
    | ok x S2 => rw [h1] at h; exact rev_chk h
    | ex c fs S2 => rw [h1] at h; cases h
    | bad => rw [h1] at h; cases h

/-! dicts of constants; get -/
theorem tPairs_con {σ : L2.St} {H : Hp} {Q : List (V × V) → Hp → Prop} : ∀ {kvs : List (Str × Str)}, tPairs (kvs.map fun p => (tC (.str p.1), tC (.str p.2))) σ H Q = Q (kvs.map fun p => (V.str p.1, V.str p.2)) H
  | [] => rfl
  | p :: kvs => by
    show tPairs (kvs.map fun p => (tC (.str p.1), tC (.str p.2))) σ H (fun ps H3 => Q ((V.str p.1, V.str p.2) :: ps) H3) = _
    rw [tPairs_con]
    rfl
theorem mergeK_app : ∀ (kvs : List (Str × Str)) (acc : List (Str × Str)), (acc.map (·.1) ++ kvs.map (·.1)).Nodup → mergeK (acc.map fun p => ((.inr p.1 : Key), V.str p.2)) (kvs.map fun p => ((.inr p.1 : Key), V.str p.2)) = (acc ++ kvs).map fun p => ((.inr p.1 : Key), V.str p.2)
  | [], acc, _ => by simp [mergeK]
  | p :: kvs, acc, h => by
    have hp : p.1 ∉ acc.map (·.1) := fun z => by
      rw [List.nodup_append] at h
      exact h.2.2 _ z _ (by simp) rfl
    have e : putK (acc.map fun p => ((.inr p.1 : Key), V.str p.2)) (.inr p.1) (.str p.2) = (acc ++ [p]).map fun p => ((.inr p.1 : Key), V.str p.2) := by
      unfold putK
      rw [if_neg]
      · simp
      · intro z
        rw [List.any_eq_true] at z
        obtain ⟨q, hq, hz⟩ := z
        obtain ⟨r, hr, rfl⟩ := List.mem_map.mp hq
        have : r.1 = p.1 := by simpa using hz
        exact hp (List.mem_map.mpr ⟨r, hr, this⟩)
    have := mergeK_app kvs (acc ++ [p]) (by simpa using h)
    unfold mergeK at this ⊢
    rw [List.map_cons, List.foldl_cons, e, this]
    simp
theorem mergeK_new {kvs : List (Str × Str)} (h : (kvs.map (·.1)).Nodup) : mergeK [] (kvs.map fun p => ((.inr p.1 : Key), V.str p.2)) = kvs.map fun p => ((.inr p.1 : Key), V.str p.2) := by
  have := mergeK_app kvs [] (by simpa using h)
  simpa using this
theorem prd_con {K : PySem.W.Frag} {F : Hp} : ∀ (kvs : List (Str × Str)), Paired (fun (p : Key × V) (q : D × D) => keyK q.1 = some p.1 ∧ Dp K F p.2 q.2) (kvs.map fun p => ((.inr p.1 : Key), V.str p.2)) (kvs.map fun p => ((.str p.1 : D), (.str p.2 : D)))
  | [] => .nil
  | p :: kvs => .cons ⟨rfl, .str _⟩ (prd_con kvs)
theorem dctB_mu {r : Rv} {S : Stv} (h : dctB r S = true) : ∃ n kvs, r = .mu n ∧ S[n]? = some (.dct false kvs) := by
  unfold dctB at h
  split at h
  · rename_i n
    split at h
    · rename_i kvs hm
      exact ⟨n, _, rfl, hm⟩
    · cases h
  · cases h
theorem dgt_ok {K : PySem.W.Frag} {cl : Nat → Addr} {xc : XCl} {L L0 : List Addr} {F F0 H H0 Hx Hy Hz : Hp} {S : Stv} {a : Addr} {y z : V} {m : Nat} {ry rz : Rv} {W : WXK} {σ : L2.St} {Q : VK} (n : Nx L0 F0 H0 L F H) (s : SV K cl F H L S) (hx : RV K cl L F Hx H (.ref a) (.mu m)) (hy : RV K cl L F Hy H y ry) (hz : RV K cl L F Hz H z rz) (p : Pst K cl xc (RV K cl) (dgtO (.mu m) ry rz S) L0 F0 H0 W σ Q) :
    ∃ o, DGet H a y o ∧ Q (o.getD z) H := by
  unfold dgtO at p
  split at p
  · rename_i m' d h1
    cases h1
    split at p
    · rename_i kvs hm
      have hx' := hx
      obtain ⟨b, eb, ha⟩ := hx'
      cases eb
      obtain ⟨_, h2⟩ := s.st _ a ha
      obtain ⟨_, o0, ho, hc⟩ := h2 _ hm (by nofun)
      have key : ∀ r : Option D, dgetD false kvs d = some r → ∃ r', DGet H a y r' ∧ (∀ z, r = some z → ∃ w, r' = some w ∧ Dp K F w z) ∧ (r = none → r' = none) := fun r hr => by
        obtain ⟨r', g, g1, g2⟩ := dget_rd hc ho s.sub hy hr
        refine ⟨r', ?_, g1, g2⟩
        obtain ⟨hk, rfl, _⟩ := hc
        rcases g with ⟨kv, k, e1, e2, e3⟩ | ⟨kv, k, b, e1, _⟩
        · exact .inl ⟨kv, k, e1, e2, e3⟩
        · rcases e1 with e1 | ⟨u, e1⟩
          · rw [ho] at e1; cases e1
          · rw [ho] at e1; cases e1
      split at p
      · rename_i e he
        obtain ⟨r', g, g1, _⟩ := key _ he
        obtain ⟨w, rfl, hw⟩ := g1 e rfl
        exact ⟨_, g, pst_d n s hw p⟩
      · rename_i he
        obtain ⟨r', g, _, g2⟩ := key _ he
        rw [g2 rfl] at g
        split at p
        · rename_i e
          exact ⟨none, g, pst_d n s hz p⟩
        · exact p.elim
      · exact p.elim
    · exact p.elim
  · exact p.elim

/-! ## the machine does what the term computes -/
structure Har (E : Env0) : Prop where
  ar : ∀ b g es S, E.cb b g es S ≠ .bad → es.length = E.ar g
mutual
theorem sE {E : Env0} (hE : Har E) : ∀ (e : Ex) (ρ : Rho) (S : Stv), EV E.K E.cl E.xc ρ S (dE E e) (evE E.cb ρ S e)
  | .var i, ρ, S => fun σ F H L e s W Q p => by
    unfold evE at p
    split at p
    · rename_i d hd
      obtain ⟨o, ho, v, rfl, hv⟩ := e i _ hd
      exact ⟨v, ho, p v F H L (.refl _ _ _) s hv⟩
    · rename_i m hm
      obtain ⟨o, ho, a, rfl, ha⟩ := e i _ hm
      exact ⟨_, ho, p _ F H L (.refl _ _ _) s ⟨a, rfl, ha⟩⟩
    · exact p.elim
  | .con d, ρ, S => fun σ F H L e s W Q p => by
    unfold evE at p
    split at p
    · rename_i hc
      refine p _ F H L (.refl _ _ _) s ?_
      cases d <;> first | (cases hc; done) | skip
      · exact (.non : Dp E.K F .non .none)
      · exact (.bl _ : Dp E.K F (.bl _) (.bool _))
      · exact (.int _ : Dp E.K F (.int _) (.int _))
      · exact (.str _ : Dp E.K F (.str _) (.str _))
    · exact p.elim
  | .glb k d, ρ, S => fun σ F H L e s W Q p hk => by
    unfold evE at p
    exact p _ F H L (.refl _ _ _) s (hk.dp F)
  | .bin o a b, ρ, S => fun σ F H L e s W Q p => by
    unfold evE at p
    refine (sE hE a ρ S).thn e s (.refl _ _ _) p fun r1 S1 _ v1 F1 H1 L1 n1 s1 e1 x1 p => ?_
    refine (sE hE b ρ S1).thn e1 s1 n1 p fun r2 S2 _ v2 F2 H2 L2 n2 s2 e2 x2 p => ?_
    exact bin_ok o (n1.trans n2) s2 (x1.fwd n2) x2 p
  | .neg a, ρ, S => fun σ F H L e s W Q p => by
    unfold evE at p
    refine (sE hE a ρ S).thn e s (.refl _ _ _) p fun r1 S1 _ v1 F1 H1 L1 n1 s1 e1 x1 p => ?_
    split at p
    · cases dp_int x1
      exact ⟨_, rfl, pst_d n1 s1 (.int _) p⟩
    · exact p.elim
  | .not a, ρ, S => fun σ F H L e s W Q p => by
    unfold evE at p
    refine (sE hE a ρ S).thn e s (.refl _ _ _) p fun r1 S1 _ v1 F1 H1 L1 n1 s1 e1 x1 p => ?_
    obtain ⟨k, _, tk, p⟩ := tru_thn s1 x1 p
    exact ⟨k, tk, pst_d n1 s1 (.bl _) p⟩
  | .and a b, ρ, S => fun σ F H L e s W Q p => by
    unfold evE at p
    refine (sE hE a ρ S).thn e s (.refl _ _ _) p fun r1 S1 _ v1 F1 H1 L1 n1 s1 e1 x1 p => ?_
    obtain ⟨k, _, tk, p⟩ := tru_thn s1 x1 p
    refine ⟨k, tk, ?_⟩
    split at p
    · rename_i hk
      rw [if_pos hk]
      exact (sE hE b ρ S1).at bkV e1 n1 s1 p
    · rename_i hk
      rw [if_neg hk]
      exact p _ _ _ _ n1 s1 x1
  | .or a b, ρ, S => fun σ F H L e s W Q p => by
    unfold evE at p
    refine (sE hE a ρ S).thn e s (.refl _ _ _) p fun r1 S1 _ v1 F1 H1 L1 n1 s1 e1 x1 p => ?_
    obtain ⟨k, _, tk, p⟩ := tru_thn s1 x1 p
    refine ⟨k, tk, ?_⟩
    split at p
    · rename_i hk
      rw [if_pos hk]
      exact p _ _ _ _ n1 s1 x1
    · rename_i hk
      rw [if_neg hk]
      exact (sE hE b ρ S1).at bkV e1 n1 s1 p
  | .ife c a b, ρ, S => fun σ F H L e s W Q p => by
    unfold evE at p
    refine (sT hE c ρ S).thn e s (.refl _ _ _) p fun k S1 _ k' F1 H1 L1 n1 s1 e1 x1 p => ?_
    have x1 : k' = k := x1
    subst x1
    split at p
    · rename_i hk
      rw [if_pos hk]
      exact (sE hE a ρ S1).at bkV e1 n1 s1 p
    · rename_i hk
      rw [if_neg hk]
      exact (sE hE b ρ S1).at bkV e1 n1 s1 p
  | .cmp o a b, ρ, S => fun σ F H L e s W Q p => by
    unfold evE at p
    refine (sE hE a ρ S).thn e s (.refl _ _ _) p fun r1 S1 _ v1 F1 H1 L1 n1 s1 e1 x1 p => ?_
    refine (sE hE b ρ S1).thn e1 s1 n1 p fun r2 S2 _ v2 F2 H2 L2 n2 s2 e2 x2 p => ?_
    obtain ⟨k, hk, p⟩ := cmp_thn p
    exact cmp_rd o n2 s2 (x1.fwd n2) x2 hk (pst_d (n1.trans n2) s2 (.bl _) p)
  | .chn o o' a b c, ρ, S => fun σ F H L e s W Q p => by
    unfold evE at p
    refine (sE hE a ρ S).thn e s (.refl _ _ _) p fun r1 S1 _ v1 F1 H1 L1 n1 s1 e1 x1 p => ?_
    refine (sE hE b ρ S1).thn e1 s1 n1 p fun r2 S2 _ v2 F2 H2 L2 n2 s2 e2 x2 p => ?_
    obtain ⟨k, hk, p⟩ := cmp_thn p
    refine cmp_rd o n2 s2 (x1.fwd n2) x2 hk ⟨k, rfl, ?_⟩
    split at p
    · rename_i hk
      rw [if_pos hk]
      refine (sE hE c ρ S2).thn e2 s2 (n1.trans n2) p fun r3 S3 _ v3 F3 H3 L3 n3 s3 e3 x3 p => ?_
      obtain ⟨k', hk', p⟩ := cmp_thn p
      exact cmp_rd o' n3 s3 (x2.fwd n3) x3 hk' (pst_d ((n1.trans n2).trans n3) s3 (.bl _) p)
    · rename_i hk
      rw [if_neg hk]
      exact pst_d (n1.trans n2) s2 (.bl _) p
  | .tup es, ρ, S => fun σ F H L e s W Q p => by
    unfold evE at p
    refine (sA hE es ρ S).thn e s (.refl _ _ _) p fun ens S1 _ vs F1 H1 L1 n1 s1 e1 x1 p => ?_
    split at p
    · rename_i hl
      split at p
      · rename_i ds hd
        have hp := ena_dps x1 hd
        refine ⟨by rw [x1.1]; exact bigL hl, fun q hq => ?_⟩
        obtain ⟨n2, s2, d2⟩ := nx_tup s1 hq hp
        exact p _ _ _ _ (n1.trans n2) s2 d2
      · exact p.elim
    · exact p.elim
  | .lst es, ρ, S => fun σ F H L e s W Q p => by
    unfold evE at p
    refine (sA hE es ρ S).thn e s (.refl _ _ _) p fun ens S1 _ vs F1 H1 L1 n1 s1 e1 x1 p => ?_
    split at p
    · rename_i hl
      refine ⟨by rw [x1.1]; exact bigL hl, fun q hq => ?_⟩
      obtain ⟨n2, s2⟩ := nx_lay s1 hq (.lst vs)
      split at p
      · rename_i ds hd
        exact p _ _ _ _ (n1.trans n2) s2 ((rv_new (c := .lst ds) s1 hq ⟨_, rfl, ena_dps x1 hd⟩).back n1)
      · exact p _ _ _ _ (n1.trans n2) s2 ((rv_new (c := .lse ens) s1 hq ⟨_, rfl, x1⟩).back n1)
    · exact p.elim
  | .dnw t, ρ, S => fun σ F H L e s W Q p => by
    unfold evE at p
    cases t with
    | true =>
      intro q hq
      obtain ⟨n2, s2⟩ := nx_lay s hq (.dT [])
      exact p _ _ _ _ n2 s2 (rv_new (c := .dct true []) s hq ⟨_, rfl, .nil⟩)
    | false =>
      intro q hq
      obtain ⟨n2, s2⟩ := nx_lay s hq (.dK [])
      exact p _ _ _ _ n2 s2 (rv_new (c := .dct false []) s hq ⟨_, rfl, .nil⟩)
  | .idx a i, ρ, S => fun σ F H L e s W Q p => by
    unfold evE at p
    refine (sE hE a ρ S).thn e s (.refl _ _ _) p fun r1 S1 _ v1 F1 H1 L1 n1 s1 e1 x1 p => ?_
    refine (sE hE i ρ S1).thn e1 s1 n1 p fun r2 S2 _ v2 F2 H2 L2 n2 s2 e2 x2 p => ?_
    exact idx_ok (n1.trans n2) s2 (x1.fwd n2) x2 p
  | .slc a lo hi, ρ, S => fun σ F H L e s W Q p => by
    unfold evE at p
    refine (sE hE a ρ S).thn e s (.refl _ _ _) p fun r1 S1 _ v1 F1 H1 L1 n1 s1 e1 x1 p => ?_
    refine (sO hE lo ρ S1).thn e1 s1 n1 p fun r2 S2 _ v2 F2 H2 L2 n2 s2 e2 x2 p => ?_
    refine (sO hE hi ρ S2).thn e2 s2 (n1.trans n2) p fun r3 S3 _ v3 F3 H3 L3 n3 s3 e3 x3 p => ?_
    have x2 : v2 = r2 := x2
    have x3 : v3 = r3 := x3
    subst x2 x3
    exact slc_ok ((n1.trans n2).trans n3) s3 ((x1.fwd n2).fwd n3) p
  | .call f es, ρ, S => fun σ F H L e s W Q p => by
    unfold evE at p
    refine (sA hE es ρ S).thn e s (.refl _ _ _) p fun ens S1 _ vs F1 H1 L1 n1 s1 e1 x1 p => ?_
    rw [List.append_nil]
    exact callK_ok (hE.ar false f) n1 s1 x1 p
  | .mth c f m o es, ρ, S => fun σ F H L e s W Q p => by
    unfold evE at p
    refine (sE hE o ρ S).thn e s (.refl _ _ _) p fun r1 S1 _ v1 F1 H1 L1 n1 s1 e1 x1 p => ?_
    split at p
    · split at p
      · split at p
        · rename_i k c' fs hm hc
          obtain ⟨hcc, hl⟩ := hc
          obtain ⟨a, dx, ws, rfl, ha, ho, hn, hd⟩ := mu_obj s1 x1 hm
          rw [hcc] at ho
          refine ⟨a, dx, ws, rfl, ho, (fs_lookup (m := m) hn hd).2 hl, ?_⟩
          refine (sA hE es ρ S1).thn e1 s1 n1 p fun ens S2 _ vs F2 H2 L2 n2 s2 e2 x2 p => ?_
          rw [List.append_nil]
          exact callK_ok (hE.ar false f) (n1.trans n2) s2 (ena_cons (e := .mu _) ⟨a, rfl, n2.get ha⟩ x2) p
        · exact p.elim
      · exact p.elim
    · exact p.elim
  | .mak c f es, ρ, S => fun σ F H L e s W Q p => by
    unfold evE at p
    refine (sA hE es ρ S).thn e s (.refl _ _ _) p fun ens S1 _ vs F1 H1 L1 n1 s1 e1 x1 p => ?_
    intro x dx hx hdx hne
    rw [List.append_nil]
    obtain ⟨na, sa⟩ := nx_lay s1 hdx (.own x)
    have hx2 : upd H1 dx (.own x) x = none := by rw [upd_ne (Ne.symm hne)]; exact hx
    obtain ⟨nb, sb⟩ := nx_lay sa hx2 (.ins (E.cl c) dx [])
    have hL := fr_L sa hx2
    obtain ⟨nc, sc, hg⟩ := own_new (na.trans nb) sb hx hL (fr_F sa hx2) upd_same (show CellOk E.K E.cl F1 L1 (.ins (E.cl c) dx []) (.obj c []) from ⟨dx, [], rfl, rfl, ena_nil⟩)
    have xa : EnA E.K F1 (L1 ++ [x]) vs ens := x1.mono (Same.refl _)
    refine callK_ok (hE.ar true f) (.refl _ _ _) sc (ena_cons (e := .mu S1.length) ⟨x, rfl, hg⟩ xa) ?_ (Q := fun v H2 => v = .non ∧ Q (.ref x) H2) (ks := reach 100 (S1 ++ [.obj c []]) [] ((En.mu S1.length :: ens).flatMap refE))
    unfold callC at p
    cases hr : callK (E.cb true) f (.mu S1.length :: ens) (S1 ++ [.obj c []]) (reach 100 (S1 ++ [.obj c []]) [] ((En.mu S1.length :: ens).flatMap refE)) with
    | bad => rw [hr] at p; exact p.elim
    | ex c fs S2 =>
      rw [hr] at p
      exact fun d F' H' L' n' s' x' => p d F' H' L' ((n1.trans nc).trans n') s' (x'.back (n1.trans nc))
    | ok r S2 =>
      rw [hr] at p
      simp only [Out.bind_ok] at p
      split at p
      · intro v F2 H2 L2 n2 s2 r2
        have r2' : Dp E.K F2 v .none := r2
        cases r2'
        exact ⟨rfl, p _ F2 H2 L2 ((n1.trans nc).trans n2) s2 ⟨x, rfl, n2.get hg⟩⟩
      · exact p.elim
  | .fld m o, ρ, S => fun σ F H L e s W Q p => by
    unfold evE at p
    refine (sE hE o ρ S).thn e s (.refl _ _ _) p fun r1 S1 _ v1 F1 H1 L1 n1 s1 e1 x1 p => ?_
    split at p
    · split at p
      · rename_i c fs hm
        obtain ⟨a, dx, ws, rfl, ha, ho, hn, hd⟩ := mu_obj s1 x1 hm
        obtain ⟨i1, _⟩ := fs_lookup (m := m) hn hd
        split at p
        · rename_i d hl
          obtain ⟨v, hv, w, ew, hw⟩ := i1 _ hl
          cases ew
          exact ⟨a, c, dx, ws, v, rfl, ho, hv, pst_d n1 s1 hw p⟩
        · rename_i k hl
          obtain ⟨v, hv, b, eb, hb⟩ := i1 _ hl
          cases eb
          exact ⟨a, c, dx, ws, _, rfl, ho, hv, p _ _ _ _ n1 s1 ⟨b, rfl, hb⟩⟩
        · exact p.elim
      · exact p.elim
    · exact p.elim
  | .isi T a, ρ, S => fun σ F H L e s W Q p => by
    unfold evE at p
    refine (sE hE a ρ S).thn e s (.refl _ _ _) p fun r1 S1 _ v1 F1 H1 L1 n1 s1 e1 x1 p => ?_
    have lst : ∀ {a : Addr} {ws : List V}, v1 = .ref a → H1 a = some (.lst ws) → Pst E.K E.cl E.xc (RV E.K E.cl) (match kitB "list" T with
      | some b => okD (.bool b) S1
      | none => .bad) L F H W σ Q → rIsi E.K [v1, .ty T] H1 Q := by
      intro a ws ev ho p
      subst ev
      split at p
      · rename_i b hb
        exact ⟨_, _, _, _, b, rfl, .ty T, .base (.lst ho), kit_ty hb, pst_d n1 s1 (.bl _) p⟩
      · exact p.elim
    split at p
    · rename_i d
      split at p
      · rename_i b hb
        exact ⟨v1, _, _, _, b, rfl, .ty T, tyx_mono x1 s1.sub, kit_ty hb, pst_d n1 s1 (.bl _) p⟩
      · exact p.elim
    · obtain ⟨a, o, ev, _, _, _, ho, ws, rfl, _⟩ := x1
      exact lst ev ho p
    · split at p
      · rename_i ds hm
        obtain ⟨a, ws, ev, ha, ho, hd⟩ := mu_lst s1 x1 hm
        exact lst ev ho p
      · exact p.elim
    · exact p.elim
  | .bi b es, ρ, S => fun σ F H L e s W Q p => by
    unfold evE at p
    refine (sR hE es ρ S).thn e s (.refl _ _ _) p fun rs S1 _ vs F1 H1 L1 n1 s1 e1 x1 p => ?_
    exact bi_ok b n1 s1 x1 p
  | .bm b o es, ρ, S => fun σ F H L e s W Q p => by
    unfold evE at p
    cases b with
    | append =>
      refine (sE hE o ρ S).thn e s (.refl _ _ _) p fun r1 S1 _ v1 F1 H1 L1 n1 s1 e1 x1 p => ?_
      split at p
      · rename_i hb
        rw [Bool.and_eq_true] at hb
        refine ⟨(bmT_l (b := .append) nofun s1 x1 hb.1).1, ?_⟩
        refine (sR hE es ρ S1).thn e1 s1 n1 p fun rs S2 _ vs F2 H2 L2 n2 s2 e2 x2 p => ?_
        exact append_ok (n1.trans n2) s2 (x1.fwd n2) (x2.back n1) p
      · exact p.elim
    | extend =>
      refine (sE hE o ρ S).thn e s (.refl _ _ _) p fun r1 S1 _ v1 F1 H1 L1 n1 s1 e1 x1 p => ?_
      split at p
      · rename_i hb
        rw [Bool.and_eq_true] at hb
        refine ⟨(bmT_l (b := .extend) nofun s1 x1 hb.1).1, ?_⟩
        refine (sR hE es ρ S1).thn e1 s1 n1 p fun rs S2 _ vs F2 H2 L2 n2 s2 e2 x2 p => ?_
        exact extend_ok (n1.trans n2) s2 (x1.fwd n2) x2 p
      · exact p.elim
    | pop =>
      refine (sE hE o ρ S).thn e s (.refl _ _ _) p fun r1 S1 _ v1 F1 H1 L1 n1 s1 e1 x1 p => ?_
      split at p
      · rename_i hb
        rw [Bool.and_eq_true] at hb
        cases es with
        | nil =>
          unfold evR at p
          exact ⟨(bmT_l (b := .pop) nofun s1 x1 hb.1).1, pop_ok n1 s1 x1 p⟩
        | cons a es => exact absurd hb.2 nofun
        | star a es => exact absurd hb.2 nofun
      · exact p.elim
    | reverse =>
      refine (sE hE o ρ S).thn e s (.refl _ _ _) p fun r1 S1 _ v1 F1 H1 L1 n1 s1 e1 x1 p => ?_
      split at p
      · rename_i hb
        rw [Bool.and_eq_true] at hb
        cases es with
        | nil =>
          unfold evR at p
          exact ⟨(bmT_l (b := .reverse) nofun s1 x1 hb.1).1, reverse_ok n1 s1 x1 p⟩
        | cons a es => exact absurd hb.2 nofun
        | star a es => exact absurd hb.2 nofun
      · exact p.elim
    | join =>
      refine (sE hE o ρ S).thn e s (.refl _ _ _) p fun r1 S1 _ v1 F1 H1 L1 n1 s1 e1 x1 p => ?_
      split at p
      · rename_i hb
        rw [Bool.and_eq_true] at hb
        have ex := bmT_j hb.1
        obtain ⟨z, rfl⟩ := ex
        have hz := dp_str x1
        refine ⟨⟨z, hz⟩, ?_⟩
        cases es with
        | nil => exact absurd hb.2 nofun
        | star _ _ => exact absurd hb.2 nofun
        | cons a es =>
          cases es with
          | cons _ _ => exact absurd hb.2 nofun
          | star _ _ => exact absurd hb.2 nofun
          | nil =>
            unfold evR at p
            rw [Out.bind_assoc] at p
            refine (sE hE a ρ S1).thn e1 s1 n1 p fun r2 S2 _ v2 F2 H2 L2 n2 s2 e2 x2 p => ?_
            unfold evR at p
            simp only [Out.bind_ok] at p
            obtain ⟨y, ey, h⟩ := join_ok (n1.trans n2) s2 hz (.cons x2 .nil) p
            cases ey
            exact h
      · exact p.elim
    | index =>
      refine (sE hE o ρ S).thn e s (.refl _ _ _) p fun r1 S1 _ v1 F1 H1 L1 n1 s1 e1 x1 p => ?_
      split at p
      · rename_i hb
        rw [Bool.and_eq_true] at hb
        refine ⟨(bmT_l (b := .index) nofun s1 x1 hb.1).1, ?_⟩
        refine (sR hE es ρ S1).thn e1 s1 n1 p fun rs S2 _ vs F2 H2 L2 n2 s2 e2 x2 p => ?_
        exact index_ok (n1.trans n2) s2 (x1.fwd n2) (x2.back n1) p
      · exact p.elim
    | items =>
      refine (sE hE o ρ S).thn e s (.refl _ _ _) p fun r1 S1 _ v1 F1 H1 L1 n1 s1 e1 x1 p => ?_
      rw [if_neg (by cases r1 <;> exact nofun)] at p
      exact p
    | get =>
      refine (sE hE o ρ S).thn e s (.refl _ _ _) p fun r1 S1 _ v1 F1 H1 L1 n1 s1 e1 x1 p => ?_
      rw [if_neg (by cases r1 <;> exact nofun)] at p
      exact p
  | .lc ws g it c el, ρ, S => fun σ F H L e s W Q p => by
    unfold evE at p
    refine (sI hE it ρ S).thn e s (.refl _ _ _) p fun is S1 hi J F1 H1 L1 n1 s1 e1 x1 p => ?_
    split at p
    · rename_i hl
      exact lc_ok (fun ρ S => sC hE c ρ S) (fun ρ S => sE hE el ρ S) hl.2 hl.1 (evI_chk hi) n1 e1 s1 x1 p
    · exact p.elim
  | .lrg a b t, ρ, S => fun σ F H L e s W Q p => by
    unfold evE at p
    cases a with
    | none =>
      unfold evO at p
      rw [Out.bind_ok] at p
      cases t with
      | true =>
        refine (sE hE b ρ S).thn e s (.refl _ _ _) p fun r2 S2 _ v2 F2 H2 L2 n2 s2 e2 x2 p => ?_
        split at p
        · split at p
          · rename_i hi
            cases dp_int x2
            obtain ⟨g1, g2, g3⟩ := rg_new hi n2 s2 p
            exact ⟨_, rfl, g1, g2 rfl⟩
          · exact p.elim
        · exact p.elim
      | false =>
        refine (sE hE b ρ S).thn e s (.refl _ _ _) p fun r2 S2 _ v2 F2 H2 L2 n2 s2 e2 x2 p => ?_
        split at p
        · split at p
          · rename_i hi
            cases dp_int x2
            obtain ⟨g1, g2, g3⟩ := rg_new hi n2 s2 p
            exact ⟨_, rfl, g1, g3 nofun⟩
          · exact p.elim
        · exact p.elim
    | some a =>
      unfold evO at p
      rw [Out.bind_assoc] at p
      cases t with
      | true =>
        refine (sE hE a ρ S).thn e s (.refl _ _ _) p fun r1 S1 _ v1 F1 H1 L1 n1 s1 e1 x1 p => ?_
        cases r1 with
        | mu _ => exact p.elim
        | nw _ => exact p.elim
        | v d1 =>
          cases d1 with
          | int i =>
            rw [Out.bind_ok] at p
            refine (sE hE b ρ S1).thn e1 s1 n1 p fun r2 S2 _ v2 F2 H2 L2 n2 s2 e2 x2 p => ?_
            split at p
            · split at p
              · rename_i hi
                cases dp_int x1
                cases dp_int x2
                obtain ⟨g1, g2, g3⟩ := rg_new hi (n1.trans n2) s2 p
                exact ⟨_, _, rfl, rfl, g1, g2 rfl⟩
              · exact p.elim
            · exact p.elim
          | _ => exact p.elim
      | false =>
        refine (sE hE a ρ S).thn e s (.refl _ _ _) p fun r1 S1 _ v1 F1 H1 L1 n1 s1 e1 x1 p => ?_
        cases r1 with
        | mu _ => exact p.elim
        | nw _ => exact p.elim
        | v d1 =>
          cases d1 with
          | int i =>
            rw [Out.bind_ok] at p
            refine (sE hE b ρ S1).thn e1 s1 n1 p fun r2 S2 _ v2 F2 H2 L2 n2 s2 e2 x2 p => ?_
            split at p
            · split at p
              · rename_i hi
                cases dp_int x1
                cases dp_int x2
                obtain ⟨g1, g2, g3⟩ := rg_new hi (n1.trans n2) s2 p
                exact ⟨_, _, rfl, rfl, g1, g3 nofun⟩
              · exact p.elim
            · exact p.elim
          | _ => exact p.elim
  | .own ex, ρ, S => fun σ F H L e s W Q p => by
    unfold evE at p
    refine (sE hE ex ρ S).thn e s (.refl _ _ _) p fun r1 S1 _ v1 F1 H1 L1 n1 s1 e1 x1 p => ?_
    split at p
    · exact p.elim
    · rename_i c _ _
      obtain ⟨a, o, rfl, h0, hL, hf, hh, hc⟩ := x1
      obtain ⟨n2, s2, hg⟩ := own_new n1 s1 h0 hL hf hh hc
      exact p _ _ _ _ n2 s2 ⟨a, rfl, hg⟩
    · exact p.elim
  | .bad, ρ, S => fun σ F H L e s W Q p => by
    unfold evE at p
    exact p.elim
  | .its ex, ρ, S => fun σ F H L e s W Q p => by
    unfold evE at p
    refine (sE hE ex ρ S).thn e s (.refl _ _ _) p fun r1 S1 _ v1 F1 H1 L1 n1 s1 e1 x1 p => ?_
    exact its_ok n1 s1 x1 p
  | .ddc kvs, ρ, S => fun σ F H L e s W Q p => by
    unfold evE at p
    split at p
    · rename_i hk
      intro q hq
      rw [tPairs_con]
      refine ⟨upd_same, kvs.map (fun p => (.inr p.1, .str p.2)), by simp [kV], by simpa using hk.2.1, ?_⟩
      rw [upd_upd, mergeK_new (by simpa using hk.2.2)]
      obtain ⟨n2, s2⟩ := nx_lay s hq (.dK (kvs.map fun p => ((.inr p.1 : Key), V.str p.2)))
      exact p _ _ _ _ n2 s2 (rv_new (c := .dct false (kvs.map fun p => (.str p.1, .str p.2))) s hq ⟨_, rfl, prd_con kvs⟩)
    · exact p.elim
  | .dgt o k x, ρ, S => fun σ F H L e s W Q p => by
    unfold evE at p
    refine (sE hE o ρ S).thn e s (.refl _ _ _) p fun r1 S1 _ v1 F1 H1 L1 n1 s1 e1 x1 p => ?_
    split at p
    · rename_i hb
      obtain ⟨m, kvs0, rfl, hm0⟩ := dctB_mu hb
      have x1' := x1
      obtain ⟨a, rfl, ha⟩ := x1'
      obtain ⟨_, h2⟩ := s1.st _ a ha
      obtain ⟨_, o0, ho, hk0, rfl, hc0⟩ := h2 _ hm0 (by nofun)
      refine ⟨a, rfl, .inl ⟨_, .inl ho⟩, ?_⟩
      refine (sE hE k ρ S1).thn e1 s1 n1 p fun r2 S2 _ v2 F2 H2 L2 n2 s2 e2 x2 p => ?_
      refine (sE hE x ρ S2).thn e2 s2 (n1.trans n2) p fun r3 S3 _ v3 F3 H3 L3 n3 s3 e3 x3 p => ?_
      exact dgt_ok ((n1.trans n2).trans n3) s3 ((x1.fwd n2).fwd n3) (x2.fwd n3) x3 p
    · exact p.elim
theorem sT {E : Env0} (hE : Har E) : ∀ (e : Tx) (ρ : Rho) (S : Stv), ET E.K E.cl E.xc ρ S (dT E e) (evT E.cb ρ S e)
  | .val e, ρ, S => fun σ F H L e0 s W Q p => by
    unfold evT at p
    refine (sE hE e ρ S).thn e0 s (.refl _ _ _) p fun r1 S1 _ v1 F1 H1 L1 n1 s1 e1 x1 p => ?_
    have p' : Pst E.K E.cl E.xc RB ((truO r1 S1).bind fun b S => .ok b S) L F H W σ Q := by
      cases h : truO r1 S1 <;> rw [h] at p <;> exact p
    obtain ⟨k, _, tk, p⟩ := tru_thn s1 x1 p'
    exact ⟨k, tk, p k _ _ _ n1 s1 rfl⟩
  | .not a, ρ, S => fun σ F H L e s W Q p => by
    unfold evT at p
    refine (sT hE a ρ S).thn e s (.refl _ _ _) p fun k S1 _ k' F1 H1 L1 n1 s1 e1 x1 p => ?_
    have x1 : k' = k := x1
    subst x1
    exact p _ _ _ _ n1 s1 rfl
  | .and a b, ρ, S => fun σ F H L e s W Q p => by
    unfold evT at p
    refine (sT hE a ρ S).thn e s (.refl _ _ _) p fun k S1 _ k' F1 H1 L1 n1 s1 e1 x1 p => ?_
    have x1 : k' = k := x1
    subst x1
    split at p
    · rename_i hk
      rw [if_pos hk]
      exact (sT hE b ρ S1).at bkB e1 n1 s1 p
    · rename_i hk
      rw [if_neg hk]
      exact p _ _ _ _ n1 s1 rfl
  | .or a b, ρ, S => fun σ F H L e s W Q p => by
    unfold evT at p
    refine (sT hE a ρ S).thn e s (.refl _ _ _) p fun k S1 _ k' F1 H1 L1 n1 s1 e1 x1 p => ?_
    have x1 : k' = k := x1
    subst x1
    split at p
    · rename_i hk
      rw [if_pos hk]
      exact p _ _ _ _ n1 s1 rfl
    · rename_i hk
      rw [if_neg hk]
      exact (sT hE b ρ S1).at bkB e1 n1 s1 p
  | .cmp o a b, ρ, S => fun σ F H L e s W Q p => by
    unfold evT at p
    refine (sE hE a ρ S).thn e s (.refl _ _ _) p fun r1 S1 _ v1 F1 H1 L1 n1 s1 e1 x1 p => ?_
    refine (sE hE b ρ S1).thn e1 s1 n1 p fun r2 S2 _ v2 F2 H2 L2 n2 s2 e2 x2 p => ?_
    have p' : Pst E.K E.cl E.xc RB ((cmpO o r1 r2 S2).bind fun b S => .ok b S) L F H W σ Q := by
      cases h : cmpO o r1 r2 S2 <;> rw [h] at p <;> exact p
    obtain ⟨k, hk, p⟩ := cmp_thn p'
    exact cmp_rd o n2 s2 (x1.fwd n2) x2 hk ⟨k, rfl, p k _ _ _ (n1.trans n2) s2 rfl⟩
  | .chn o o' a b c, ρ, S => fun σ F H L e s W Q p => by
    unfold evT at p
    refine (sE hE a ρ S).thn e s (.refl _ _ _) p fun r1 S1 _ v1 F1 H1 L1 n1 s1 e1 x1 p => ?_
    refine (sE hE b ρ S1).thn e1 s1 n1 p fun r2 S2 _ v2 F2 H2 L2 n2 s2 e2 x2 p => ?_
    obtain ⟨k, hk, p⟩ := cmp_thn p
    refine cmp_rd o n2 s2 (x1.fwd n2) x2 hk ⟨k, rfl, ?_⟩
    split at p
    · rename_i hk
      rw [if_pos hk]
      refine (sE hE c ρ S2).thn e2 s2 (n1.trans n2) p fun r3 S3 _ v3 F3 H3 L3 n3 s3 e3 x3 p => ?_
      have p' : Pst E.K E.cl E.xc RB ((cmpO o' r2 r3 S3).bind fun b S => .ok b S) L F H W σ Q := by
        cases h : cmpO o' r2 r3 S3 <;> rw [h] at p <;> exact p
      obtain ⟨k', hk', p⟩ := cmp_thn p'
      exact cmp_rd o' n3 s3 (x2.fwd n3) x3 hk' ⟨k', rfl, p k' _ _ _ ((n1.trans n2).trans n3) s3 rfl⟩
    · rename_i hk
      rw [if_neg hk]
      exact ⟨false, rfl, p false _ _ _ (n1.trans n2) s2 rfl⟩
theorem sA {E : Env0} (hE : Har E) : ∀ (es : Exs) (ρ : Rho) (S : Stv), Evs E.K E.cl E.xc (RE E.K) ρ S (dA E es) (evA E.cb ρ S es)
  | .nil, ρ, S => fun σ F H L e s W Q p => by
    unfold evA at p
    exact p [] F H L (.refl _ _ _) s ena_nil
  | .cons e1 es, ρ, S => fun σ F H L e s W Q p => by
    unfold evA at p
    refine (sE hE e1 ρ S).thn e s (.refl _ _ _) p fun r1 S1 _ v1 F1 H1 L1 n1 s1 e1 x1 p => ?_
    obtain ⟨L2, F2, n2, s2, en⟩ := rv_en n1 s1 x1
    refine (sA hE es ρ _).thn (n2.eok e) s2 n2 p fun rs S3 _ vs F3 H3 L3 n3 s3 e3 x3 p => ?_
    exact p _ _ _ _ (n2.trans n3) s3 (ena_cons (n3.enok en) x3)
  | .star e1 es, ρ, S => fun σ F H L e s W Q p => by
    unfold evA at p
    refine (sE hE e1 ρ S).thn e s (.refl _ _ _) p fun r1 S1 _ v1 F1 H1 L1 n1 s1 e1 x1 p => ?_
    split at p
    · rename_i ys hy
      obtain ⟨ds, hd, rfl⟩ := Option.map_eq_some_iff.mp (show (sqR S1 r1).map (fun ds => ds.map En.dt) = some ys from hy)
      obtain ⟨a, vs1, rfl, h2, h3⟩ := sq_rd s1 x1 hd
      refine ⟨a, vs1, rfl, h2.symm, ?_⟩
      refine (sA hE es ρ S1).thn e1 s1 n1 p fun rs S3 _ vs F3 H3 L3 n3 s3 e3 x3 p => ?_
      exact p _ _ _ _ (n1.trans n3) s3 (ena_app (ena_dp (dpa_mono n3.fx _ _ h3)) x3)
    · exact p.elim
theorem sR {E : Env0} (hE : Har E) : ∀ (es : Exs) (ρ : Rho) (S : Stv), Evs E.K E.cl E.xc (RL E.K E.cl) ρ S (dA E es) (evR E.cb ρ S es)
  | .nil, ρ, S => fun σ F H L e s W Q p => by
    unfold evR at p
    exact p [] F H L (.refl _ _ _) s .nil
  | .cons e1 es, ρ, S => fun σ F H L e s W Q p => by
    unfold evR at p
    refine (sE hE e1 ρ S).thn e s (.refl _ _ _) p fun r1 S1 _ v1 F1 H1 L1 n1 s1 e1 x1 p => ?_
    refine (sR hE es ρ S1).thn e1 s1 n1 p fun rs S3 _ vs F3 H3 L3 n3 s3 e3 x3 p => ?_
    exact p _ _ _ _ (n1.trans n3) s3 (.cons (x1.fwd n3) (x3.back n1))
  | .star _ _, ρ, S => fun σ F H L e s W Q p => by
    unfold evR at p
    exact p.elim
theorem sO {E : Env0} (hE : Har E) : ∀ (e : Exo) (ρ : Rho) (S : Stv), Evs E.K E.cl E.xc RO ρ S (dO E e) (evO E.cb ρ S e)
  | .none, ρ, S => fun σ F H L e s W Q p => by
    unfold evO at p
    exact p none F H L (.refl _ _ _) s rfl
  | .some e1, ρ, S => fun σ F H L e s W Q p => by
    unfold evO at p
    refine (sE hE e1 ρ S).thn e s (.refl _ _ _) p fun r1 S1 _ v1 F1 H1 L1 n1 s1 e1 x1 p => ?_
    split at p
    · cases dp_int x1
      exact ⟨_, rfl, p _ _ _ _ n1 s1 rfl⟩
    · exact p.elim
theorem sC {E : Env0} (hE : Har E) : ∀ (e : Txo) (ρ : Rho) (S : Stv), ET E.K E.cl E.xc ρ S (dC E e) (evC E.cb ρ S e)
  | .none, ρ, S => fun σ F H L e s W Q p => by
    unfold evC at p
    exact p true F H L (.refl _ _ _) s rfl
  | .some t, ρ, S => by
    unfold evC
    exact sT hE t ρ S
theorem sI {E : Env0} (hE : Har E) : ∀ (it : Itr) (ρ : Rho) (S : Stv), Evs E.K E.cl E.xc (RJ E.K E.cl) ρ S (dI E it) (evI E.cb ρ S it)
  | .sq e1, ρ, S => fun σ F H L e s W R p => by
    unfold evI at p
    have h := sE hE e1 ρ S
    by_cases hs : ∃ z S1, evE E.cb ρ S e1 = .ok (.v (.str z)) S1
    · obtain ⟨z, S1, hz⟩ := hs
      refine .inr (h.thn e s (.refl _ _ _) p fun r1 S1' h1 v1 F1 H1 L1 n1 s1 e1 x1 p => ?_)
      rw [hz] at h1
      cases h1
      cases dp_str x1
      exact ⟨z, rfl, p _ _ _ _ n1 s1 jv_s⟩
    · refine .inl (h.thn e s (.refl _ _ _) p fun r1 S1' h1 v1 F1 H1 L1 n1 s1 e1 x1 p => ?_)
      rcases items_ok n1 s1 x1 p with ⟨z, ez, _⟩ | q
      · rw [ez] at h1
        exact absurd ⟨z, _, h1⟩ hs
      · exact q
  | .rg1 a, ρ, S => fun σ F H L e s W R p => by
    unfold evI at p
    refine (sE hE a ρ S).thn e s (.refl _ _ _) p fun r1 S1 _ v1 F1 H1 L1 n1 s1 e1 x1 p => ?_
    split at p
    · split at p
      · rename_i hi
        cases dp_int x1
        exact ⟨_, rfl, by omega, by omega, p _ _ _ _ n1 s1 jv_r⟩
      · exact p.elim
    · exact p.elim
  | .rg2 a b, ρ, S => fun σ F H L e s W R p => by
    unfold evI at p
    refine (sE hE a ρ S).thn e s (.refl _ _ _) p fun r1 S1 _ v1 F1 H1 L1 n1 s1 e1 x1 p => ?_
    refine (sE hE b ρ S1).thn e1 s1 n1 p fun r2 S2 _ v2 F2 H2 L2 n2 s2 e2 x2 p => ?_
    split at p
    · split at p
      · rename_i hi
        cases dp_int x1
        cases dp_int x2
        exact ⟨_, _, rfl, ⟨by omega, by omega, by omega, by omega⟩, p _ _ _ _ (n1.trans n2) s2 jv_r⟩
      · exact p.elim
    · exact p.elim
  | .enu e1, ρ, S => fun σ F H L e s W R p => by
    unfold evI at p
    refine (sE hE e1 ρ S).thn e s (.refl _ _ _) p fun r1 S1 _ v1 F1 H1 L1 n1 s1 e1 x1 p => ?_
    obtain ⟨a, xs, rfl, h1, h2⟩ := enu_ok n1 s1 x1 p
    exact ⟨a, xs, rfl, h1, h2⟩
  | .rev e1, ρ, S => fun σ F H L e s W R p => by
    unfold evI at p
    refine (sE hE e1 ρ S).thn e s (.refl _ _ _) p fun r1 S1 _ v1 F1 H1 L1 n1 s1 e1 x1 p => ?_
    exact rev_ok n1 s1 x1 p
end
end VM
end

section
set_option Elab.async false
set_option linter.all false
set_option maxRecDepth 100000
set_option maxHeartbeats 4000000
namespace VM
open PySem PySem.Spec PyProof.Rows L2 DL

/-! ## statements -/
def sFldV (cl : Nat → Addr) (ta tv : TE) (f : Str) : TS := fun D σ H => tv σ H fun y H1 => ta σ H1 fun x H2 => ∃ a c dx fs, x = .ref a ∧ H2 a = some (.ins (cl c) dx fs) ∧ fs.length < 1000 ∧ D.nx σ (upd H2 a (.ins (cl c) dx (putF f y fs)))
def rAug : Bop → V → V → Hp → VK → Prop
  | .add => fun x y H Q => ∃ i j, x = .int i ∧ y = .int j ∧ Q (.int (i + j)) H
  | .sub => fun x y H Q => ∃ i j, x = .int i ∧ y = .int j ∧ Q (.int (i - j)) H
  | _ => fun _ _ _ _ => False
def sFldAugV (cl : Nat → Addr) (ta tv : TE) (o : Bop) (f : Str) : TS := fun D σ H => ta σ H fun x H1 => ∃ a c dx fs v, x = .ref a ∧ H1 a = some (.ins (cl c) dx fs) ∧ fs.lookup f = some v ∧
  tv σ H1 fun y H2 => rAug o v y H2 fun z H3 => ∃ dx' fs', H3 a = some (.ins (cl c) dx' fs') ∧ fs'.length < 1000 ∧ D.nx σ (upd H3 a (.ins (cl c) dx' (putF f z fs')))
def tipV : Bop → TIp
  | .add => ipI fun i j => i + j
  | .sub => ipI fun i j => i - j
  | _ => fun _ _ _ _ => False
def dS (E : Env0) : VM.St → WXK → TS
  | .nop, _ => tNext
  | .seq a b, W => tSeq (dS E a W) (dS E b W)
  | .asg g e, W => tAsg (dE E e W) (dG E.K g)
  | .aug i o e, W => tAug i (dE E e W) (tipV o)
  | .ite c a b, W => tIfS (dT E c W) (dS E a W) (dS E b W)
  | .for_ g it b _, W => tFor (dI E it W) (dG E.K g) (dS E b W)
  | .whl c b _, W => tWhile (dT E c W) (dS E b W)
  | .ret e, W => tRet (dE E e W)
  | .retn, _ => tRetN
  | .brk, _ => tBreak
  | .cnt, _ => tCont
  | .exp e, W => tDrop (dE E e W)
  | .seti o i e, W => fun D σ H => tAsg (dE E e W) (gSub (dE E o W) (dE E i W) rSetL) D σ H ∨ sDPut (dE E o W) (dE E i W) (dE E e W) D σ H
  | .setf m o e, W => sFldV E.cl (dE E o W) (dE E e W) m
  | .augf m o b e, W => sFldAugV E.cl (dE E o W) (dE E e W) b m
  | .sett o es e, W => sDPut (dE E o W) (tTup (dA E es W)) (dE E e W)
  | .bad, _ => fun _ _ _ => False

def PF (K : PySem.W.Frag) (cl : Nat → Addr) (xc : XCl) (out : Fl) (L : List Addr) (F H : Hp) (W : WXK) (D : Ends) : Prop := match out with
  | .nx ρ' S' => ∀ σ' F' H' L', Nx L F H L' F' H' → EOk K F' L' σ' ρ' → SV K cl F' H' L' S' → D.nx σ' H'
  | .rt r S' => ∀ v F' H' L', Nx L F H L' F' H' → SV K cl F' H' L' S' → RV K cl L' F' H H' v r → D.rt v H'
  | .bk ρ' S' => ∀ σ' F' H' L', Nx L F H L' F' H' → EOk K F' L' σ' ρ' → SV K cl F' H' L' S' → D.bk σ' H'
  | .ct ρ' S' => ∀ σ' F' H' L', Nx L F H L' F' H' → EOk K F' L' σ' ρ' → SV K cl F' H' L' S' → D.ct σ' H'
  | .ex c fs ρ' S' => ∀ d σ' F' H' L', Nx L F H L' F' H' → EOk K F' L' σ' ρ' → SV K cl F' H' L' S' → XOk K F' H H' fs d → W (xc c) d σ' H'
  | .bad => False
section
variable {α γ δ : Type} {K : PySem.W.Frag} {cl : Nat → Addr} {xc : XCl} {Ra : List Addr → Hp → Hp → Hp → γ → δ → Prop} {ρ : Rho} {S S1 : Stv} {W : WXK} {σ : L2.St} {L L1 L0 : List Addr} {F F0 F1 H H0 H1 Hx : Hp} {D : Ends} {x y : V} {rx ry : Rv}
theorem PF.shift {out : Fl} (n : Nx L F H L1 F1 H1) (p : PF K cl xc out L F H W D) : PF K cl xc out L1 F1 H1 W D := by
  cases out with
  | nx ρ' S' => exact fun σ' F' H' L' n' e' s' => p σ' F' H' L' (n.trans n') e' s'
  | rt r S' => exact fun v F' H' L' n' s' r' => p v F' H' L' (n.trans n') s' (r'.back n)
  | bk ρ' S' => exact fun σ' F' H' L' n' e' s' => p σ' F' H' L' (n.trans n') e' s'
  | ct ρ' S' => exact fun σ' F' H' L' n' e' s' => p σ' F' H' L' (n.trans n') e' s'
  | ex c fs ρ' S' => exact fun d σ' F' H' L' n' e' s' x' => p d σ' F' H' L' (n.trans n') e' s' (x'.back n)
  | bad => exact p
theorem Evs.thnS {ta : WXK → L2.St → Hp → (γ → Hp → Prop) → Prop} {o : Out δ} {f : δ → Stv → Fl} {Q1 : γ → Hp → Prop} (h : Evs K cl xc Ra ρ S1 ta o) (E : EOk K F1 L1 σ ρ) (s : SV K cl F1 H1 L1 S1) (n : Nx L F H L1 F1 H1) (p : PF K cl xc (o.fl ρ f) L F H W D)
    (k : ∀ r S2, o = .ok r S2 → ∀ v F2 H2 L2, Nx L1 F1 H1 L2 F2 H2 → SV K cl F2 H2 L2 S2 → EOk K F2 L2 σ ρ → Ra L2 F2 H1 H2 v r → PF K cl xc (f r S2) L F H W D → Q1 v H2) : ta W σ H1 Q1 := by
  refine h σ F1 H1 L1 E s W Q1 ?_
  cases o with
  | ok r S2 => exact fun v F2 H2 L2 n2 s2 r2 => k r S2 rfl v F2 H2 L2 n2 s2 (n2.eok E) r2 p
  | ex c fs S' => exact fun d F' H' L' n' s' x' => p d σ F' H' L' (n.trans n') (n'.eok E) s' (x'.back n)
  | bad => exact p.elim
def ES (K : PySem.W.Frag) (cl : Nat → Addr) (xc : XCl) (ρ : Rho) (S : Stv) (ts : WXK → TS) (out : Fl) : Prop := ∀ σ F H L, EOk K F L σ ρ → SV K cl F H L S → ∀ (W : WXK) (D : Ends), PF K cl xc out L F H W D → ts W D σ H
theorem put_fs {m : Str} {v : V} {e : En} : ∀ {vs : List (Str × V)} {fs : List (Str × En)}, vs.map (·.1) = fs.map (·.1) → EnA K F L (vs.map (·.2)) (fs.map (·.2)) → EnOk K F L e (some v) → (putF m v vs).map (·.1) = (putFE m e fs).map (·.1) ∧ EnA K F L ((putF m v vs).map (·.2)) ((putFE m e fs).map (·.2))
  | [], [], _, _, h => ⟨rfl, ena_one h⟩
  | (a, w) :: vs, (b, e') :: fs, hn, h, he => by
    simp only [List.map_cons, List.cons.injEq] at hn
    obtain ⟨rfl, hn⟩ := hn
    have ht : EnA K F L (vs.map (·.2)) (fs.map (·.2)) := ⟨by have := h.1; simpa using this, fun i e he => h.2 (i + 1) e he⟩
    have hh : EnOk K F L e' (some w) := by
      obtain ⟨o, ho, hq⟩ := h.2 0 e' rfl
      cases ho
      exact hq
    unfold putF putFE
    dsimp only
    split
    · exact ⟨by simp [hn], ena_cons he ht⟩
    · obtain ⟨i1, i2⟩ := put_fs (m := m) hn ht he
      exact ⟨by simp [i1], ena_cons hh i2⟩
  | [], _ :: _, hn, _, _ => by cases hn
  | _ :: _, [], hn, _, _ => by cases hn
theorem prd_len {α β : Type} {P : α → β → Prop} : ∀ {xs : List α} {ys : List β}, Paired P xs ys → xs.length = ys.length
  | _, _, .nil => rfl
  | _, _, .cons _ t => by simp [prd_len t]
theorem prd_app {α β : Type} {P : α → β → Prop} : ∀ {xs xs' : List α} {ys ys' : List β}, Paired P xs ys → Paired P xs' ys' → Paired P (xs ++ xs') (ys ++ ys')
  | _, _, _, _, .nil, h => h
  | _, _, _, _, .cons a t, h => .cons a (prd_app t h)
theorem put_prd {κ : Type} [DecidableEq κ] {key : PyData → Option κ} {k : κ} {w : V} {d e : PyData} (hk : key d = some k) (hw : Dp K F w e) {hs : List (κ × V)} {kvs : List (PyData × PyData)} (h : Paired (fun (p : κ × V) (q : PyData × PyData) => key q.1 = some p.1 ∧ Dp K F p.2 q.2) hs kvs) :
    Paired (fun (p : κ × V) (q : PyData × PyData) => key q.1 = some p.1 ∧ Dp K F p.2 q.2) (putK hs k w) (if kvs.any (fun p => decide (key p.1 = some k)) = true then kvs.map (fun p => if key p.1 = some k then (p.1, e) else p) else kvs ++ [(d, e)]) := by
  have e1 : ∀ {hs : List (κ × V)} {kvs : List (PyData × PyData)}, Paired (fun (p : κ × V) (q : PyData × PyData) => key q.1 = some p.1 ∧ Dp K F p.2 q.2) hs kvs → (kvs.any fun p => decide (key p.1 = some k)) = (hs.any fun p => decide (p.1 = k)) := by
    intro hs kvs h
    induction h with
    | nil => rfl
    | cons a t ih =>
      rw [List.any_cons, List.any_cons, ih, a.1]
      congr 1
      rw [Bool.eq_iff_iff]
      simp
  have e2 : ∀ {hs : List (κ × V)} {kvs : List (PyData × PyData)}, Paired (fun (p : κ × V) (q : PyData × PyData) => key q.1 = some p.1 ∧ Dp K F p.2 q.2) hs kvs → Paired (fun (p : κ × V) (q : PyData × PyData) => key q.1 = some p.1 ∧ Dp K F p.2 q.2) (hs.map fun p => if p.1 = k then (p.1, w) else p) (kvs.map fun p => if key p.1 = some k then (p.1, e) else p) := by
    intro hs kvs h
    induction h with
    | nil => exact .nil
    | @cons p q ps qs a t ih =>
      refine .cons ?_ ih
      dsimp only
      by_cases hp : p.1 = k
      · rw [if_pos hp, if_pos (by rw [a.1, hp])]
        exact ⟨a.1, hw⟩
      · rw [if_neg hp, if_neg (by rw [a.1]; simpa using hp)]
        exact a
  unfold putK
  rw [e1 h]
  split
  · exact e2 h
  · exact prd_app h (.cons ⟨hk, hw⟩ .nil)
theorem whileN_more {t : Rho → Stv → Out Bool} {f : Rho → Stv → Fl} {ks : List Nat} {n0 : Nat} (h : whileF t f ks n0 ρ S ≠ .bad) : ∃ n, whileF t f ks n0 ρ S = whileN t f ks n0 n ρ S := by
  unfold whileF at h ⊢
  split
  · rename_i hn
    exact ⟨_, rfl⟩
  · rename_i hn
    rw [dif_neg hn] at h
    exact absurd rfl h
/-! ### stores -/
theorem set_k {n : Nat} {a : Addr} {kvs kvs' : List (PyData × PyData)} {d e : PyData} {v w : V} {Q : Hp → Prop} (s : SV K cl F H L S) (hx : RV K cl L F Hx H x (.mu n)) (hm : S[n]? = some (.dct false kvs)) (hd : Dp K F v d) (hw : Dp K F w e) (hl : kvs.length < big) (hp : putD false kvs d e = some kvs')
    (q : ∀ H', Nx L F H L F H' → SV K cl F H' L (S.set n (.dct false kvs')) → Q H') : ∃ a H4, x = .ref a ∧ DPut H a v w H4 ∧ Q H4 := by
  obtain ⟨a, rfl, ha⟩ := hx
  obtain ⟨_, h2⟩ := s.st _ a ha
  obtain ⟨_, o, ho, hk, rfl, hpr⟩ := h2 _ hm (by nofun)
  obtain ⟨k, ek, rfl⟩ := Option.map_eq_some_iff.mp hp
  obtain ⟨n1, s1⟩ := put_cell s ha hm (by nofun) (show CellOk K cl F L (.dK (putK hk k w)) (.dct false _) from ⟨_, rfl, put_prd ek hw hpr⟩)
  exact ⟨a, _, rfl, .inl ⟨hk, k, ho, keyK_v hd ek, by rw [prd_len hpr]; exact bigL' hl, rfl⟩, q _ n1 s1⟩
theorem set_ok {n : Nat} {d : PyData} {en : En} {S' : Stv} {v w : V} {Q : Hp → Prop} (s : SV K cl F H L S) (hx : RV K cl L F Hx H x (.mu n)) (hd : Dp K F v d) (hw : EnOk K F L en (some w)) (h : setiO n d en S = some S')
    (q : ∀ H', Nx L F H L F H' → SV K cl F H' L S' → Q H') : ((¬ ∃ kvs, S[n]? = some (.dct false kvs)) → rSetL x v w H Q) ∧ ((∃ kvs, S[n]? = some (.dct false kvs)) → ∃ a H4, x = .ref a ∧ DPut H a v w H4 ∧ Q H4) := by
  unfold setiO at h
  split at h
  · rename_i ds hm
    split at h
    · rename_i i d'
      obtain ⟨j, hj, rfl⟩ := Option.map_eq_some_iff.mp h
      obtain ⟨a, ws, rfl, ha, ho, hds⟩ := mu_lst s hx hm
      obtain ⟨w', ew, hw'⟩ := hw
      cases ew
      cases hd
      obtain ⟨n1, s1⟩ := put_cell (c' := .lst (ds.set j d')) s ha hm (by nofun) ⟨_, rfl, dpa_set j hds hw'⟩
      exact ⟨fun _ => ⟨a, ws, i, j, rfl, rfl, ho, by rw [dpa_len hds]; exact hj, q _ n1 s1⟩, fun ⟨_, z⟩ => by rw [hm] at z; cases z⟩
    · cases h
  · rename_i es hm
    split at h
    · rename_i i
      obtain ⟨j, hj, rfl⟩ := Option.map_eq_some_iff.mp h
      obtain ⟨a, ws, rfl, ha, ho, hds⟩ := mu_lse s hx hm
      cases hd
      obtain ⟨n1, s1⟩ := put_cell (c' := .lse (es.set j en)) s ha hm (by nofun) ⟨_, rfl, ena_set j hds hw⟩
      exact ⟨fun _ => ⟨a, ws, i, j, rfl, rfl, ho, by rw [hds.1]; exact hj, q _ n1 s1⟩, fun ⟨_, z⟩ => by rw [hm] at z; cases z⟩
    · cases h
  · rename_i kvs hm
    split at h
    · rename_i e
      split at h
      · rename_i hl
        obtain ⟨kvs', hp, rfl⟩ := Option.map_eq_some_iff.mp h
        obtain ⟨w', ew, hw'⟩ := hw
        cases ew
        exact ⟨fun z => absurd ⟨_, hm⟩ z, fun _ => set_k (a := 0) s hx hm hd hw' hl hp q⟩
      · cases h
    · cases h
  · cases h
theorem fld_ok {n c : Nat} {m : Str} {en : En} {fs : List (Str × En)} {w : V} {Q : Hp → Prop} (s : SV K cl F H L S) (hx : RV K cl L F Hx H x (.mu n)) (hm : S[n]? = some (.obj c fs)) (hw : EnOk K F L en (some w)) (hl : fs.length < 1000)
    (q : ∀ H', Nx L F H L F H' → SV K cl F H' L (S.set n (.obj c (putFE m en fs))) → Q H') : ∃ a dx ws, x = .ref a ∧ H a = some (.ins (cl c) dx ws) ∧ ws.length < 1000 ∧ Q (upd H a (.ins (cl c) dx (putF m w ws))) := by
  obtain ⟨a, dx, ws, rfl, ha, ho, hn, hd⟩ := mu_obj s hx hm
  obtain ⟨p1, p2⟩ := put_fs (m := m) hn hd hw
  obtain ⟨n1, s1⟩ := put_cell (c' := .obj c (putFE m en fs)) s ha hm (by nofun) ⟨dx, _, rfl, p1, p2⟩
  refine ⟨a, dx, ws, rfl, ho, ?_, q _ n1 s1⟩
  have := congrArg List.length hn
  rw [List.length_map, List.length_map] at this
  omega
end

/-! ## the machine does what the statement computes -/
open Classical in
theorem sS {E : Env0} (hE : Har E) : ∀ (st : VM.St) (ρ : Rho) (S : Stv), ES E.K E.cl E.xc ρ S (dS E st) (exec E.cb st ρ S)
  | .nop, ρ, S => fun σ F H L e s W D p => p σ F H L (.refl _ _ _) e s
  | .bad, ρ, S => fun σ F H L e s W D p => by
    unfold exec at p
    exact p.elim
  | .seq a b, ρ, S => fun σ F H L e s W D p => by
    unfold exec at p
    refine sS hE a ρ S σ F H L e s W { D with nx := dS E b W D } ?_
    cases h : exec E.cb a ρ S with
    | nx ρ1 S1 =>
      rw [h] at p
      exact fun σ' F' H' L' n' e' s' => sS hE b ρ1 S1 σ' F' H' L' e' s' W D (PF.shift n' p)
    | rt r S' => rw [h] at p; exact p
    | bk ρ' S' => rw [h] at p; exact p
    | ct ρ' S' => rw [h] at p; exact p
    | ex c fs ρ' S' => rw [h] at p; exact p
    | bad => rw [h] at p; exact p.elim
  | .asg g ex, ρ, S => fun σ F H L e s W D p => by
    unfold exec at p
    refine (sE hE ex ρ S).thnS e s (.refl _ _ _) p fun r1 S1 _ v1 F1 H1 L1 n1 s1 e1 x1 p => ?_
    split at p
    · rename_i ρ1 hb
      obtain ⟨L2, F2, n2, s2, en⟩ := rv_en n1 s1 x1
      exact tgt_ok hb s2.sub (n2.eok e) en fun σ' e' => p σ' _ _ _ n2 e' s2
    · exact p.elim
  | .aug i o ex, ρ, S => fun σ F H L e s W D p => by
    unfold exec at p
    split at p
    · rename_i x hx
      obtain ⟨ov, ho, v, rfl, hv⟩ := e i _ hx
      cases hv
      refine ⟨_, ho, ?_⟩
      refine (sE hE ex ρ S).thnS e s (.refl _ _ _) p fun r1 S1 _ v1 F1 H1 L1 n1 s1 e1 x1 p => ?_
      split at p
      · rename_i j _
        cases dp_int x1
        split at p
        · rename_i z hz
          have go : ∀ z', z = z' → D.nx (σ.set i (some (.int z'))) H1 := fun z' ez => by
            subst ez
            exact p _ _ _ _ n1 (e1.set i (e := .dt (.int z)) ⟨_, rfl, .int _⟩) s1
          cases o with
          | add => cases hz; exact ⟨x, j, rfl, rfl, go _ rfl⟩
          | sub => cases hz; exact ⟨x, j, rfl, rfl, go _ rfl⟩
          | _ => cases hz
        · exact p.elim
      · exact p.elim
    · exact p.elim
  | .ite c a b, ρ, S => fun σ F H L e s W D p => by
    unfold exec at p
    refine (sT hE c ρ S).thnS e s (.refl _ _ _) p fun k S1 _ k' F1 H1 L1 n1 s1 e1 x1 p => ?_
    have x1 : k' = k := x1
    subst x1
    split at p
    · rename_i hk
      rw [if_pos hk]
      exact sS hE a ρ S1 σ F1 H1 L1 e1 s1 W D (PF.shift n1 p)
    · rename_i hk
      rw [if_neg hk]
      exact sS hE b ρ S1 σ F1 H1 L1 e1 s1 W D (PF.shift n1 p)
  | .for_ g it b ks, ρ, S => fun σ F H L e s W D p => by
    unfold exec at p
    refine (sI hE it ρ S).thnS e s (.refl _ _ _) p fun is S1 hi J F1 H1 L1 n1 s1 e1 hJ p => ?_
    have ck1 := evI_chk hi
    have p := PF.shift n1 p
    have hlen : L1.length = S1.length := s1.len
    refine ⟨fun i m σ' H' => m = is.1.length - i ∧ i ≤ is.1.length ∧ ∃ F' L' ρ' S', Nx L1 F1 H1 L' F' H' ∧ EOk E.K F' L' σ' ρ' ∧ SV E.K E.cl F' H' L' S' ∧ chk is.2 S' ∧ PF E.K E.cl E.xc (loopF (fun e ρ S => match bindE g e ρ with
      | some ρ1 => exec E.cb b ρ1 S
      | none => .bad) is.2 ks S1.length (is.1.drop i) ρ' S') L1 F1 H1 W D, ⟨_, rfl, Nat.zero_le _, F1, L1, ρ, S1, .refl _ _ _, e1, s1, ck1, p⟩, ?_⟩
    rintro i m σ' H' ⟨rfl, hil, F', L', ρ', S', n', e', s', ck, pl⟩
    obtain ⟨R, eL, fR⟩ := n'.ex
    subst eL
    by_cases hlt : i < is.1.length
    · obtain ⟨go, yl⟩ := hJ.go F' H' R S' i n'.fx s' ck hlt
      rw [List.drop_eq_getElem_cons hlt] at pl
      unfold loopF at pl
      refine .inr ⟨go, fun σ2 H2 => ∃ F2 L2 ρ2 S2, Nx L1 F1 H1 L2 F2 H2 ∧ EOk E.K F2 L2 σ2 ρ2 ∧ SV E.K E.cl F2 H2 L2 S2 ∧ chk is.2 S2 ∧ PF E.K E.cl E.xc (loopF (fun e ρ S => match bindE g e ρ with
        | some ρ1 => exec E.cb b ρ1 S
        | none => .bad) is.2 ks S1.length (is.1.drop (i + 1)) ρ2 S2) L1 F1 H1 W D, fun σ2 H2 n2 => ⟨_, by omega, rfl, by omega, n2⟩, fun x H2 y => ?_⟩
      obtain ⟨F3, en, n3, s3, he, hxe⟩ := yl x H2 y
      rw [List.getElem?_eq_getElem hlt] at he
      cases he
      cases hb : bindE g is.1[i] ρ' with
      | none => simp only [hb] at pl; exact pl.elim
      | some ρ1 =>
        simp only [hb] at pl
        refine tgt_ok hb s3.sub (n3.eok e') hxe fun σ3 e3 => ?_
        refine sS hE b ρ1 S' σ3 F3 H2 (L1 ++ R) e3 s3 W _ ?_
        have n13 := n'.trans n3
        have turn : ∀ {ρ2 S2}, PF E.K E.cl E.xc (if chk is.2 (trim S1.length (kill ks ρ2) S2) then loopF (fun e ρ S => match bindE g e ρ with
            | some ρ1 => exec E.cb b ρ1 S
            | none => .bad) is.2 ks S1.length (is.1.drop (i + 1)) (kill ks ρ2) (trim S1.length (kill ks ρ2) S2) else .bad) L1 F1 H1 W D → ∀ σ' F' H' L', Nx (L1 ++ R) F3 H2 L' F' H' → EOk E.K F' L' σ' ρ2 → SV E.K E.cl F' H' L' S2 → ∃ F2 L2 ρ2 S2, Nx L1 F1 H1 L2 F2 H' ∧ EOk E.K F2 L2 σ' ρ2 ∧ SV E.K E.cl F2 H' L2 S2 ∧ chk is.2 S2 ∧ PF E.K E.cl E.xc (loopF (fun e ρ S => match bindE g e ρ with
            | some ρ1 => exec E.cb b ρ1 S
            | none => .bad) is.2 ks S1.length (is.1.drop (i + 1)) ρ2 S2) L1 F1 H1 W D := by
          intro ρ2 S2 pc σ' F' H' L' n4 e4 s4
          split at pc
          · rename_i hck
            obtain ⟨L5, n5, e5, s5, _⟩ := trim_ok (n13.trans n4) (kill_ok (ks := ks) e4) s4
            rw [hlen] at s5
            exact ⟨F', L5, _, _, n5, e5, s5, hck, pc⟩
          · exact pc.elim
        cases hr : exec E.cb b ρ1 S' with
        | nx ρ2 S2 =>
          simp only [hr] at pl
          exact turn pl
        | ct ρ2 S2 =>
          simp only [hr] at pl
          exact turn pl
        | bk ρ2 S2 =>
          simp only [hr] at pl
          exact fun σ' F' H' L' n4 e4 s4 => pl σ' F' H' L' (n13.trans n4) e4 s4
        | rt r S2 =>
          simp only [hr] at pl
          exact fun v F' H' L' n4 s4 r4 => pl v F' H' L' (n13.trans n4) s4 (r4.back n13)
        | ex c fs ρ2 S2 =>
          simp only [hr] at pl
          exact fun d σ' F' H' L' n4 e4 s4 x4 => pl d σ' F' H' L' (n13.trans n4) e4 s4 (x4.back n13)
        | bad => simp only [hr] at pl; exact pl.elim
    · have ei : i = is.1.length := by omega
      subst ei
      rw [List.drop_length] at pl
      unfold loopF at pl
      exact .inl ⟨hJ.stop F' H' R S' n'.fx s' ck, pl σ' F' H' _ n' e' s'⟩
  | .whl c b ks, ρ, S => fun σ F H L e s W D p => by
    unfold exec at p
    have hlen : L.length = S.length := s.len
    obtain ⟨m0, hm0⟩ := whileN_more (ρ := ρ) (S := S) (t := fun ρ S => evT E.cb ρ S c) (f := fun ρ S => exec E.cb b ρ S) (ks := ks) (n0 := S.length) (fun z => by rw [z] at p; exact p)
    rw [hm0] at p
    refine ⟨fun m σ' H' => ∃ F' L' ρ' S', Nx L F H L' F' H' ∧ EOk E.K F' L' σ' ρ' ∧ SV E.K E.cl F' H' L' S' ∧ PF E.K E.cl E.xc (whileN (fun ρ S => evT E.cb ρ S c) (fun ρ S => exec E.cb b ρ S) ks S.length m ρ' S') L F H W D, ⟨m0, F, L, ρ, S, .refl _ _ _, e, s, p⟩, ?_⟩
    rintro m σ' H' ⟨F', L', ρ', S', n', e', s', pl⟩
    cases m with
    | zero => exact pl.elim
    | succ m =>
      unfold whileN at pl
      refine (sT hE c ρ' S').thnS e' s' n' pl fun k S1 _ k' F1 H1 L1 n1 s1 e1 x1 pl => ?_
      have x1 : k' = k := x1
      subst x1
      have n01 := n'.trans n1
      split at pl
      · rename_i hk
        rw [if_pos hk]
        refine ⟨fun σ2 H2 => ∃ F2 L2 ρ2 S2, Nx L F H L2 F2 H2 ∧ EOk E.K F2 L2 σ2 ρ2 ∧ SV E.K E.cl F2 H2 L2 S2 ∧ PF E.K E.cl E.xc (whileN (fun ρ S => evT E.cb ρ S c) (fun ρ S => exec E.cb b ρ S) ks S.length m ρ2 S2) L F H W D, fun σ2 H2 n2 => ⟨m, by omega, n2⟩, ?_⟩
        refine sS hE b ρ' S1 σ' F1 H1 L1 e1 s1 W _ ?_
        have turn : ∀ {ρ2 S2}, PF E.K E.cl E.xc (whileN (fun ρ S => evT E.cb ρ S c) (fun ρ S => exec E.cb b ρ S) ks S.length m (kill ks ρ2) (trim S.length (kill ks ρ2) S2)) L F H W D → ∀ σ' F' H' L', Nx L1 F1 H1 L' F' H' → EOk E.K F' L' σ' ρ2 → SV E.K E.cl F' H' L' S2 → ∃ F2 L2 ρ2 S2, Nx L F H L2 F2 H' ∧ EOk E.K F2 L2 σ' ρ2 ∧ SV E.K E.cl F2 H' L2 S2 ∧ PF E.K E.cl E.xc (whileN (fun ρ S => evT E.cb ρ S c) (fun ρ S => exec E.cb b ρ S) ks S.length m ρ2 S2) L F H W D := by
          intro ρ2 S2 pc σ' F' H' L' n4 e4 s4
          obtain ⟨L5, n5, e5, s5, _⟩ := trim_ok (n01.trans n4) (kill_ok (ks := ks) e4) s4
          rw [hlen] at s5
          exact ⟨F', L5, _, _, n5, e5, s5, pc⟩
        cases hr : exec E.cb b ρ' S1 with
        | nx ρ2 S2 => simp only [hr] at pl; exact turn pl
        | ct ρ2 S2 => simp only [hr] at pl; exact turn pl
        | bk ρ2 S2 =>
          simp only [hr] at pl
          exact fun σ' F' H' L' n4 e4 s4 => pl σ' F' H' L' (n01.trans n4) e4 s4
        | rt r S2 =>
          simp only [hr] at pl
          exact fun v F' H' L' n4 s4 r4 => pl v F' H' L' (n01.trans n4) s4 (r4.back n01)
        | ex c fs ρ2 S2 =>
          simp only [hr] at pl
          exact fun d σ' F' H' L' n4 e4 s4 x4 => pl d σ' F' H' L' (n01.trans n4) e4 s4 (x4.back n01)
        | bad => simp only [hr] at pl; exact pl.elim
      · rename_i hk
        rw [if_neg hk]
        exact pl σ' F1 H1 L1 n01 e1 s1
  | .ret ex, ρ, S => fun σ F H L e s W D p => by
    unfold exec at p
    exact (sE hE ex ρ S).thnS e s (.refl _ _ _) p fun r1 S1 _ v1 F1 H1 L1 n1 s1 e1 x1 p => p v1 F1 H1 L1 n1 s1 x1
  | .retn, ρ, S => fun σ F H L e s W D p => p .non F H L (.refl _ _ _) s (show Dp E.K F .non .none from .non)
  | .brk, ρ, S => fun σ F H L e s W D p => p σ F H L (.refl _ _ _) e s
  | .cnt, ρ, S => fun σ F H L e s W D p => p σ F H L (.refl _ _ _) e s
  | .exp ex, ρ, S => fun σ F H L e s W D p => by
    unfold exec at p
    exact (sE hE ex ρ S).thnS e s (.refl _ _ _) p fun r1 S1 _ v1 F1 H1 L1 n1 s1 e1 x1 p => p σ F1 H1 L1 n1 e1 s1
  | .seti o i ex, ρ, S => fun σ F H L e s W D p => by
    unfold exec at p
    have he := sE hE ex ρ S
    by_cases hd : ∃ x S1 n S2 z S3 kvs, evE E.cb ρ S ex = .ok x S1 ∧ evE E.cb ρ (rvE x S1).2 o = .ok (.mu n) S2 ∧ evE E.cb ρ S2 i = .ok z S3 ∧ S3[n]? = some (.dct false kvs)
    · refine .inr (he.thnS e s (.refl _ _ _) p fun r1 S1 h1 v1 F1 H1 L1 n1 s1 e1 x1 p => ?_)
      obtain ⟨L2, F2, n2, s2, en⟩ := rv_en n1 s1 x1
      refine (sE hE o ρ _).thnS (n2.eok e) s2 n2 p fun r3 S3 h3 v3 F3 H3 L3 n3 s3 e3 x3 p => ?_
      refine (sE hE i ρ _).thnS e3 s3 (n2.trans n3) p fun r4 S4 h4 v4 F4 H4 L4 n4 s4 e4 x4 p => ?_
      split at p
      · rename_i m d _ _
        split at p
        · rename_i S5 hS5
          obtain ⟨x, S1', n, S2', z, S3', kvs, g1, g2, g3, g4⟩ := hd
          rw [h1] at g1
          cases g1
          rw [h3] at g2
          cases g2
          rw [h4] at g3
          cases g3
          have x3' := x3.fwd n4
          have q := (set_ok (Q := fun H' => D.nx σ H') s4 x3' x4 (n4.enok (n3.enok en)) hS5 fun H' n' s' => p σ _ _ _ (((n2.trans n3).trans n4).trans n') (n'.eok e4) s').2 ⟨kvs, g4⟩
          exact q
        · exact p.elim
      · exact p.elim
    · refine .inl (he.thnS e s (.refl _ _ _) p fun r1 S1 h1 v1 F1 H1 L1 n1 s1 e1 x1 p => ?_)
      obtain ⟨L2, F2, n2, s2, en⟩ := rv_en n1 s1 x1
      refine (sE hE o ρ _).thnS (n2.eok e) s2 n2 p fun r3 S3 h3 v3 F3 H3 L3 n3 s3 e3 x3 p => ?_
      refine (sE hE i ρ _).thnS e3 s3 (n2.trans n3) p fun r4 S4 h4 v4 F4 H4 L4 n4 s4 e4 x4 p => ?_
      split at p
      · rename_i m d _ _
        split at p
        · rename_i S5 hS5
          have x3' := x3.fwd n4
          refine (set_ok (Q := fun H' => D.nx σ H') s4 x3' x4 (n4.enok (n3.enok en)) hS5 fun H' n' s' => p σ _ _ _ (((n2.trans n3).trans n4).trans n') (n'.eok e4) s').1 ?_
          rintro ⟨kvs, hk⟩
          exact hd ⟨_, _, _, _, _, _, kvs, h1, h3, h4, hk⟩
        · exact p.elim
      · exact p.elim
  | .setf m o ex, ρ, S => fun σ F H L e s W D p => by
    unfold exec at p
    refine (sE hE ex ρ S).thnS e s (.refl _ _ _) p fun r1 S1 _ v1 F1 H1 L1 n1 s1 e1 x1 p => ?_
    obtain ⟨L2, F2, n2, s2, en⟩ := rv_en n1 s1 x1
    refine (sE hE o ρ _).thnS (n2.eok e) s2 n2 p fun r3 S3 _ v3 F3 H3 L3 n3 s3 e3 x3 p => ?_
    split at p
    · split at p
      · rename_i c fs hm
        split at p
        · rename_i hl
          obtain ⟨a, dx, ws, h1, h2, h3, h4⟩ := fld_ok (Q := fun H' => D.nx σ H') s3 x3 hm (n3.enok en) hl fun H' n' s' => p σ _ _ _ ((n2.trans n3).trans n') (n'.eok e3) s'
          exact ⟨a, c, dx, ws, h1, h2, h3, h4⟩
        · exact p.elim
      · exact p.elim
    · exact p.elim
  | .augf m o b ex, ρ, S => fun σ F H L e s W D p => by
    unfold exec at p
    refine (sE hE o ρ S).thnS e s (.refl _ _ _) p fun r1 S1 h1 v1 F1 H1 L1 n1 s1 e1 x1 p => ?_
    split at p
    · rename_i n _
      split at p
      · rename_i c fs hm
        split at p
        · rename_i x hl
          obtain ⟨a, dx, ws, ea, ha, ho, hn, hd⟩ := mu_obj s1 x1 hm
          obtain ⟨v, hv, w, ew, hw⟩ := (fs_lookup (m := m) hn hd).1 _ hl
          cases ew
          cases hw
          refine ⟨a, c, dx, ws, _, ea, ho, hv, ?_⟩
          refine (sE hE ex ρ S1).thnS e1 s1 n1 p fun r2 S2 h2 v2 F2 H2 L2 n2 s2 e2 x2 p => ?_
          split at p
          · rename_i j _
            cases dp_int x2
            split at p
            · rename_i z c' fs' hz hm2
              split at p
              · rename_i hl2
                rw [hl2.2] at hm2
                obtain ⟨a2, dx2, ws2, ea2, h3, h4, h5⟩ := fld_ok (m := m) (Q := fun H' => D.nx σ H') (w := .int z) s2 (x1.fwd n2) hm2 (en := .dt (.int z)) ⟨_, rfl, .int _⟩ hl2.1 fun H' n' s' => p σ _ _ _ ((n1.trans n2).trans n') (n'.eok e2) s'
                rw [ea] at ea2
                cases ea2
                cases b with
                | add => cases hz; exact ⟨_, _, rfl, rfl, dx2, ws2, h3, h4, h5⟩
                | sub => cases hz; exact ⟨_, _, rfl, rfl, dx2, ws2, h3, h4, h5⟩
                | _ => cases hz
              · exact p.elim
            · exact p.elim
          · exact p.elim
        · exact p.elim
      · exact p.elim
    · exact p.elim
  | .sett o es ex, ρ, S => fun σ F H L e s W D p => by
    unfold exec at p
    refine (sE hE ex ρ S).thnS e s (.refl _ _ _) p fun r1 S1 h1 v1 F1 H1 L1 n1 s1 e1 x1 p => ?_
    obtain ⟨L2, F2, n2, s2, en⟩ := rv_en n1 s1 x1
    refine (sE hE o ρ _).thnS (n2.eok e) s2 n2 p fun r3 S3 h3 v3 F3 H3 L3 n3 s3 e3 x3 p => ?_
    refine (sA hE es ρ _).thnS e3 s3 (n2.trans n3) p fun ens S4 h4 vs F4 H4 L4 n4 s4 e4 x4 p => ?_
    split at p
    case h_2 => exact p.elim
    rename_i n _
    split at p
    case h_2 => exact p.elim
    rename_i v hv
    split at p
    case h_2 => exact p.elim
    rename_i ds hds
    · split at p
      · rename_i kvs hm
        split at p
        · rename_i hl
          split at p
          · rename_i kvs' hp
            have hd := ena_dps x4 hds
            refine ⟨by rw [dpa_len hd]; exact bigL hl.2, fun q hq => ?_⟩
            obtain ⟨n5, s5, d5⟩ := nx_tup s4 hq hd
            obtain ⟨a, ea, ha⟩ := (x3.fwd n4).fwd n5
            obtain ⟨_, h2⟩ := s5.st _ a ha
            obtain ⟨_, ob, ho, hk, rfl, hpr⟩ := h2 _ hm (by nofun)
            obtain ⟨k, ek, rfl⟩ := Option.map_eq_some_iff.mp hp
            have en5 := n5.enok (n4.enok (n3.enok en))
            rw [hv] at en5
            obtain ⟨w, ew, hw⟩ := en5
            cases ew
            obtain ⟨n6, s6⟩ := put_cell s5 ha hm (by nofun) (show CellOk E.K E.cl _ L4 (.dT (putK hk k _)) (.dct true _) from ⟨_, rfl, put_prd ek hw hpr⟩)
            have hks := keyKs_v hd (show keyKs ds = some k from ek)
            subst hks
            exact ⟨a, _, ea, .inr ⟨hk, k, q, ho, rfl, upd_same, by rw [prd_len hpr]; exact bigL' hl.1, rfl⟩, p σ _ _ _ ((((n2.trans n3).trans n4).trans n5).trans n6) (n6.eok (n5.eok e4)) s6⟩
          · exact p.elim
        · exact p.elim
      · exact p.elim
end VM
end

section
set_option Elab.async false
set_option linter.all false
set_option maxRecDepth 100000
set_option maxHeartbeats 4000000
namespace VM
open PySem PySem.Spec PyProof.Rows L2 DL

section
variable {K : PySem.W.Frag} {cl : Nat → Addr} {xc : XCl} {L : List Addr} {F H : Hp} {W : WXK} {σ : L2.St} {Q : VK}
theorem trim0 {L' : List Addr} {F' H' : Hp} {S' : Stv} (n : Nx L F H L' F' H') (s : SV K cl F' H' L' S') : ∃ L2, Nx L F H L2 F' H' ∧ SV K cl F' H' L2 (trim L.length [] S') ∧ ∀ a ∈ L2, a ∈ L' := by
  obtain ⟨L2, a, _, b, c⟩ := trim_ok (σ := []) (ρ := []) n (fun i e h => by simp at h) s
  exact ⟨L2, a, b, c⟩
theorem fin_ok {out : Fl} {S : Stv} (s0 : SV K cl F H L S) (p : Pst K cl xc (RV K cl) (finF S.length out) L F H W [] Q) (hW : ∀ c d σ σ' H', W c d σ H' → W c d σ' H') : PF K cl xc out L F H W { nx := fun _ H' => Q .non H', rt := Q } := by
  rw [← s0.len] at p
  have drop : ∀ {r : Rv} {S' : Stv}, Pst K cl xc (RV K cl) (drop0 L.length r S') L F H W [] Q → ∀ v F' H' L', Nx L F H L' F' H' → SV K cl F' H' L' S' → RV K cl L' F' H H' v r → Q v H' := by
    intro r S' p v F' H' L' n s hr
    cases r with
    | v d =>
      obtain ⟨L2, n2, s2, _⟩ := trim0 n s
      exact p v F' H' L2 n2 s2 hr
    | nw c =>
      unfold drop0 at p
      simp only at p
      split at p
      · rename_i hf
        obtain ⟨a, o, rfl, h0, h1, h2, h3, h4⟩ := hr
        unfold trim at p
        split at p
        · exact p _ F' H' L' n s ⟨a, o, rfl, h0, h1, h2, h3, h4⟩
        · split at p
          · rename_i hh
            rw [Bool.and_eq_true] at hh
            exact p _ F' H' _ (nx_take n) (take_sv hh.2 s) ⟨a, o, rfl, h0, fun z => h1 (List.mem_of_mem_take z), h2, h3, fit_cell hf h4⟩
          · exact p _ F' H' L' n s ⟨a, o, rfl, h0, h1, h2, h3, h4⟩
      · exact p v F' H' L' n s hr
    | mu k =>
      unfold drop0 at p
      simp only at p
      obtain ⟨a, rfl, ha⟩ := hr
      split at p
      · rename_i hk
        unfold trim at p
        split at p
        · exact p _ F' H' L' n s ⟨a, rfl, ha⟩
        · split at p
          · rename_i hh
            rw [Bool.and_eq_true] at hh
            exact p _ F' H' _ (nx_take n) (take_sv hh.2 s) ⟨a, rfl, take_get ha hk⟩
          · exact p _ F' H' L' n s ⟨a, rfl, ha⟩
      · rename_i hk
        split at p
        · exact p.elim
        · rename_i c hg hc
          split at p
          · rename_i hf
            obtain ⟨f0, o, h1, h2⟩ := (s.st k a ha).2 c hc hg
            have h0 : H a = none := by
              obtain ⟨_, R, rfl, fr⟩ := n
              rw [List.getElem?_append_right (by omega)] at ha
              exact fr a (List.mem_of_getElem? ha)
            have hn : a ∉ L'.take L.length := fun z => by
              obtain ⟨j, hj⟩ := List.getElem?_of_mem z
              rw [List.getElem?_take] at hj
              split at hj
              · have e1 := List.getElem?_eq_some_iff.mp hj
                have e2 := List.getElem?_eq_some_iff.mp ha
                have : j = k := (List.getElem_inj s.nd).mp (e1.2.trans e2.2.symm)
                omega
              · cases hj
            exact p _ F' H' _ (nx_take n) (take_sv hf.2 s) ⟨a, o, rfl, h0, hn, f0, h1, fit_cell hf.1 h2⟩
          · exact p _ F' H' L' n s ⟨a, rfl, ha⟩
        · exact p.elim
  cases out with
  | nx ρ' S' => exact fun σ' F' H' L' n e s => drop (r := .v .none) (S' := S') p .non F' H' L' n s (show Dp K F' .non .none from .non)
  | rt r S' => exact fun v F' H' L' n s hr => drop (r := r) (S' := S') p v F' H' L' n s hr
  | bk ρ' S' => exact p.elim
  | ct ρ' S' => exact p.elim
  | ex c fs ρ' S' =>
    intro d σ' F' H' L' n e s x
    obtain ⟨L2, n2, s2, _⟩ := trim0 n s
    exact hW _ _ _ _ _ (p d F' H' L2 n2 s2 x)
  | bad => exact p.elim
end
theorem run_ar {tb : Nat → Fd} {n g : Nat} {es : List En} {S : Stv} (h : run tb n g es S ≠ .bad) : es.length = (tb g).args := by
  cases n with
  | zero => exact absurd rfl h
  | succ n =>
    rw [run_succ] at h
    unfold runF at h
    split at h
    · assumption
    · exact absurd rfl h
noncomputable def envV (K : PySem.W.Frag) (cl : Nat → Addr) (xc : XCl) (V0 : Nat → V) (tb : Nat → Fd) (n : Nat) : Env0 := ⟨K, cl, xc, V0, fun g => (tb g).args, cbOf tb n⟩
theorem harV {K : PySem.W.Frag} {cl : Nat → Addr} {xc : XCl} {V0 : Nat → V} {tb : Nat → Fd} (n : Nat) : Har (envV K cl xc V0 tb n) := ⟨fun b g es S h => by
  cases b with
  | true =>
    cases n with
    | zero => exact absurd rfl h
    | succ n => exact run_ar h
  | false => exact run_ar h⟩
/-- a def keeps its promise, a level higher than the defs that it calls -/
theorem fun_V {P : Program} {w : World} {K : PySem.W.Frag} {mg : Str → Option Value} {base : Heap} {cl : Nat → Addr} {xc : XCl} {V0 : Nat → V} {tb : Nat → Fd} {x qual : Str} {st : Stmt} {f : Addr} {fd : FuncData} {N ps : List Str} {n g : Nat}
    (F : Fun K x qual st f fd) (S : FnScope N ps (defScope st)) (hn : ps.length = (tb g).args) (hm : N.length = (tb g).args + (tb g).more)
    (hbody : ∀ (cdv : Value) (A : Around) (outer : List Env) (s : Shared) (H : Hp) (E : XK), Room (n + 1) (A.deeper (envOfC qual (defScope st) s.heap.objs.size f cdv)) →
      PSs (cxOf CX0 P w K mg base N qual (defScope st) f cdv A outer s H E).nox (defBody st) (dS (envV K cl xc V0 tb n) (tb g).body (fun c d _ H' => E c d H'))) :
    FnOk P w K mg base CX0 (n + 1 + 1) f fd ps (spV K cl xc (tb g).args (run tb (n + 1) g)) := by
  refine F.ok S (fun vs H Q E h => h.1.trans hn.symm) (fun cdv A outer s H vs Q E hr h => ⟨_, hbody cdv A outer s H E hr, ?_⟩)
  obtain ⟨hl, F0, L, es, S0, he, s0, p⟩ := h
  rw [run_succ] at p
  unfold runF at p
  split at p
  case isFalse => exact p.elim
  rename_i hes
  refine sS (harV n) (tb g).body _ S0 (L2.start N vs) F0 H L ?_ s0 _ _ (fin_ok s0 p fun c d σ σ' H' h => h)
  intro i en hi
  unfold L2.start
  have hlen : (vs.map some).length = (tb g).args := by simp [hl]
  rw [List.getElem?_append] at hi ⊢
  rw [hlen]
  rw [hes] at hi
  split at hi
  · rename_i hlt
    rw [if_pos hlt]
    exact he.2 i en hi
  · rename_i hlt
    rw [if_neg hlt]
    rw [hl, hm, Nat.add_sub_cancel_left]
    rw [List.getElem?_replicate] at hi ⊢
    split at hi
    · rename_i h2
      rw [if_pos h2]
      cases hi
      exact ⟨none, rfl, trivial⟩
    · cases hi
theorem fun_Vm {P : Program} {w : World} {K : PySem.W.Frag} {mg : Str → Option Value} {base : Heap} {cl : Nat → Addr} {xc : XCl} {tb : Nat → Fd} {f : Addr} {fd : FuncData} {ps : List Str} {n g k : Nat} : FnOk P w K mg base CX0 k f fd ps (spV K cl xc n (runm tb 0 g)) :=
  ⟨fun vs H Q E q => by
    obtain ⟨_, _, _, _, _, _, _, p⟩ := q
    exact p.elim, fun A outer s H args us vs Q E hr he hb hv q => by
    obtain ⟨_, _, _, _, _, _, _, p⟩ := q
    exact p.elim⟩
theorem fun_V0 {P : Program} {w : World} {K : PySem.W.Frag} {mg : Str → Option Value} {base : Heap} {cl : Nat → Addr} {xc : XCl} {tb : Nat → Fd} {f : Addr} {fd : FuncData} {ps : List Str} {n g k : Nat} : FnOk P w K mg base CX0 k f fd ps (spV K cl xc n (run tb 0 g)) :=
  ⟨fun vs H Q E q => by
    obtain ⟨_, _, _, _, _, _, _, p⟩ := q
    exact p.elim, fun A outer s H args us vs Q E hr he hb hv q => by
    obtain ⟨_, _, _, _, _, _, _, p⟩ := q
    exact p.elim⟩
/-- the law's call -/
theorem law_V {K : PySem.W.Frag} {cl : Nat → Addr} {xc : XCl} {G : List En → Stv → Out Rv} {H : Hp} {a : Addr} {ns : List Int} {E : XK} (hS : SqL K H a (ns.map V.int)) (g : G [.dt (.list (ns.map PyData.int))] [] = .ok (.v (.bool true)) []) : spV K cl xc 1 G [.ref a] H (fun v _ => v = .bl true) E :=
  ⟨rfl, H, [], _, [], ena_one (e := .dt (.list (ns.map PyData.int))) ⟨_, rfl, .lst hS (dpa_ints ns)⟩, .nil (Same.refl _), by
    rw [g]
    intro v F' H' L' n s r
    have r' : Dp K F' v (.bool true) := r
    cases r'
    rfl⟩
/-- law's: a list of at most 63 ints is handed in, True comes out -/
def spL (K : PySem.W.Frag) : Sp := fun vs H Q _ => ∃ (a : Addr) (ns : List Int), vs = [.ref a] ∧ ns.length ≤ 63 ∧ SqL K H a (ns.map V.int) ∧ ∀ H', Q (.bl true) H'
theorem law_ok {P : Program} {w : World} {K : PySem.W.Frag} {mg : Str → Option Value} {base : Heap} {cl : Nat → Addr} {xc : XCl} {G : List En → Stv → Out Rv} {f : Addr} {fd : FuncData} {ps : List Str} {k : Nat} (F : FnOk P w K mg base CX0 k f fd ps (spV K cl xc 1 G))
    (h : ∀ ns : List Int, ns.length ≤ 63 → G [.dt (.list (ns.map PyData.int))] [] = .ok (.v (.bool true)) []) : FnOk P w K mg base CX0 k f fd ps (spL K) := by
  have imp : ∀ vs H Q E, spL K vs H Q E → spV K cl xc 1 G vs H Q E := by
    rintro vs H Q E ⟨a, ns, rfl, hl, hS, q⟩
    refine ⟨rfl, H, [], _, [], ena_one (e := .dt (.list (ns.map PyData.int))) ⟨_, rfl, .lst hS (dpa_ints ns)⟩, .nil (Same.refl _), ?_⟩
    rw [h ns hl]
    intro v F' H' L' n s r
    have r' : Dp K F' v (.bool true) := r
    cases r'
    exact q H'
  exact ⟨fun vs H Q E z => F.len vs H Q E (imp _ _ _ _ z), fun A outer s H args us vs Q E hr he hb hv q => F.run A outer s H args us vs Q E hr he hb hv (imp _ _ _ _ q)⟩
/-! ## the rules of the text, in the terms' own words -/
theorem PE.or {X : Cx} {e : Expr} {t u : TE} (h : PE X e t) (h' : PE X e u) : PE X e (fun σ H Q => t σ H Q ∨ u σ H Q) := ⟨fun pins s σ H Q I q => q.elim (h.run pins s σ H Q I) (h'.run pins s σ H Q I)⟩
theorem PS.or {X : Cx} {e : Stmt} {t u : TS} (h : PS X e t) (h' : PS X e u) : PS X e (fun D σ H => t D σ H ∨ u D σ H) := ⟨fun pins s σ H D I q => q.elim (h.run pins s σ H D I) (h'.run pins s σ H D I)⟩
theorem PI.or {X : Cx} {tg e : Expr} {t u : TI} (h : PI X tg e t) (h' : PI X tg e u) : PI X tg e (fun σ H R => t σ H R ∨ u σ H R) := ⟨fun pins s σ H R I q => q.elim (h.run pins s σ H R I) (h'.run pins s σ H R I)⟩
section
variable {X : Cx} {K : PySem.W.Frag}
theorem pi_all {tg l : Expr} {tl : TE} (hX : X.K = K) (hl : PE X l tl) : PI X tg l (iAll K tl) := PI.or (pi_seqK hX hl) (pi_str hl)
theorem pe_glb {x : Str} {pos : Pos} {v : V} {d : PyData} (hg : Gl X x) (h : ∃ u, X.mg x = some u ∧ RelV v u ∧ KDat K v d) (hd : (x == ("__debug__" : Str)) = false := by decide) : PE X (.Name x pos) (tGlb K v d) := by
  obtain ⟨u, h1, h2, h3⟩ := h
  have := pe_glob (pos := pos) hg h1 h2 (hd := hd)
  exact ⟨fun pins s σ H Q I q => this.run pins s σ H Q I (q h3)⟩
theorem pe_fldV {cl : Nat → Addr} {e : Expr} {ta : TE} {f : Str} {pos : Pos} (hX : X.K = K) (hc : ∀ c, Cls K (cl c)) (hn : ∀ c, NoAttr K (cl c) f) (he : PE X e ta) (hb : attributeBase e f X.env (eval e X.env) = eval e X.env) : PE X (.Attribute e f pos) (tFldV cl ta f) := by
  subst hX
  refine ⟨fun pins s σ H Q I h => ?_⟩
  refine attr_of hb (L2.thn (he.run pins s σ H _ I h) fun u s1 ⟨x, H1, I1, rx, a, c, dx, fs, v, ex, ea, l, q⟩ => ?_)
  subst ex
  obtain rfl : u = Value.ref a := rx
  exact getattr_ok I1 ea (hc c) (hn c) l fun u' s2 I2 ru => ⟨v, H1, I2, ru, q⟩
theorem ps_fldV {cl : Nat → Addr} {o value : Expr} {ta tv : TE} {f : Str} {pos pos' : Pos} (hX : X.K = K) (hc : ∀ c, Cls K (cl c)) (hn : ∀ c, NoAttr K (cl c) f) (ha : PE X o ta) (hv : PE X value tv) (hs : swapsWith value (some (.Attribute o f pos')) pos.line X.env = pure false) : PS X (.Assign [.Attribute o f pos'] value pos) (sFldV cl ta tv f) := by
  subst hX
  refine ⟨fun pins s σ H D I h => ?_⟩
  refine plainObj_wpAny_Assign_Attribute (L2.thn (hv.run pins s σ H _ I h) fun u s1 ⟨y, H1, I1, ry, q⟩ => L2.thn (ha.run pins s1 σ H1 _ I1 q) fun ov s2 ⟨x, H2, I2, rx, a, c, dx, fs, ex, ea, l, q2⟩ => ?_) hs
  subst ex
  obtain rfl : ov = Value.ref a := rx
  exact setattr_ok I2 ea (hc c) (hn c) l ry fun s3 I3 => ⟨σ, _, I3, q2⟩
theorem in_aug : ∀ o, o = .add ∨ o = .sub → InOp X (bopA o) (rAug o)
  | .add, _ => in_add
  | .sub, _ => in_sub
  | .mul, h => by rcases h with h | h <;> cases h
  | .mod, h => by rcases h with h | h <;> cases h
  | .fdiv, h => by rcases h with h | h <;> cases h
  | .pow, h => by rcases h with h | h <;> cases h
theorem ps_augfV {cl : Nat → Addr} {o value : Expr} {ta tv : TE} {f : Str} {pos tpos : Pos} {op : Operator} {b : Bop} (hX : X.K = K) (hc : ∀ c, Cls K (cl c)) (hn : ∀ c, NoAttr K (cl c) f) (ha : PE X o ta) (hv : PE X value tv) (hop : InOp X op (rAug b)) : PS X (.AugAssign (.Attribute o f tpos) op value pos) (sFldAugV cl ta tv b f) := by
  subst hX
  refine ⟨fun pins s σ H D I h => ?_⟩
  refine wpAny_AugAssign_AttributeAny (L2.thn (ha.run pins s σ H _ I h) fun ov s1 ⟨x, H1, I1, rx, a, c, dx, fs, v, ex, ea, l, q⟩ => ?_)
  subst ex
  obtain rfl : ov = Value.ref a := rx
  refine getattr_ok I1 ea (hc c) (hn c) l fun u s2 I2 ru => L2.thn (hv.run pins s2 σ H1 _ I2 q) fun w3 s3 ⟨y, H2, I3, ry, q3⟩ => L2.thn (hop pins s3 σ H2 v y u w3 _ I3 ru ry q3) fun w4 s4 ⟨z, H3, I4, rz, dx', fs', ea', l', q4⟩ => ?_
  exact setattr_ok I4 ea' (hc c) (hn c) l' rz fun s5 I5 => ⟨σ, _, I5, q4⟩
theorem mt_indexK {X : Cx} {K : PySem.W.Frag} (hX : X.K = K) : MtR X "list.index" (rIndex K) := by
  subst hX
  exact mt_index
theorem hu65 {k : Nat} {A : Around} (hr : Room k A) : A.units + 65 < cLine := by have := hr.un; omega
theorem hu1 {k : Nat} {A : Around} (hr : Room k A) : A.units + 1 < cLine := by have := hr.un; omega
/-! what no script reaches -/
theorem pe_bad {e : Expr} : PE X e (fun _ _ _ => False) := ⟨fun _ _ _ _ _ _ h => h.elim⟩
theorem ps_bad {e : Stmt} : PS X e (fun _ _ _ => False) := ⟨fun _ _ _ _ _ _ h => h.elim⟩
theorem pt_bad {e : Expr} {t : TT} (h : ∀ σ H Q, ¬ t σ H Q) : PT X e t := ⟨fun _ _ σ H Q _ q => absurd q (h σ H Q)⟩
theorem pi_bad {tg e : Expr} {t : TI} (h : ∀ σ H R, ¬ t σ H R) : PI X tg e t := ⟨fun _ _ σ H R _ q => absurd q (h σ H R)⟩
/-! more built-ins -/
theorem call_boolK (h : X.K = K) : CallR X (.type "bool") (rBi K .bool) := by
  subst h
  intro pins s σ H xs us Q I r q
  rcases q with q | q
  · exact call_bool1 pins s σ H xs us Q I r q
  · exact call_boolL pins s σ H xs us Q I r q
theorem cr_sumK (h : X.K = K) (hc : X.calm = true) : CallR X (.builtin "sum") (rBi K .sum) := by subst h; exact cr_sum hc
theorem cr_anyK (h : X.K = K) (hc : X.calm = true) : CallR X (.builtin "any") (rBi K .any) := by subst h; exact cr_any hc
theorem cr_allK (h : X.K = K) (hc : X.calm = true) : CallR X (.builtin "all") (rBi K .all) := by subst h; exact cr_all hc
theorem pi_enumK {e : Expr} {te : TA} {p pos tpos : Pos} {elts : List Expr} {kk : Nat} (h : X.K = K) (hg : Gl X "enumerate") (hm : X.mg "enumerate" = none) (ha : PA X [e] te) (hs : starEach [e] X.env = [(false, eval e X.env)] := by rfl) :
    PI X (.Tuple elts kk tpos) (.Call (.Name "enumerate" p) [e] [] pos) (iEnum K te) := by subst h; exact pi_enum hg hm ha hs
theorem pi_revK {tg e : Expr} {te : TE} {p pos : Pos} (h : X.K = K) (hg : Gl X "reversed") (hm : X.mg "reversed" = none) (he : PE X e te) (hs : starEach [e] X.env = (false, eval e X.env) :: starEach [] X.env := by rfl) : PI X tg (.Call (.Name "reversed" p) [e] [] pos) (RT.iRevA K te) := by subst h; exact RT.pi_revA hg hm he hs
theorem pa_starK {e : Expr} {p : Pos} {es : List Expr} {te : TE} {t : TA} (h : X.K = K) (he : PE X e te) (hr : PA X es t) (hs : starEach (.Starred e p :: es) X.env = (true, eval e X.env) :: starEach es X.env := by rfl) : PA X (.Starred e p :: es) (StX.tStar K te t) := by subst h; exact StX.pa_star he hr hs
/-! calls with keywords -/
def LenA (t : TA) (n : Nat) : Prop := ∀ σ H Q, t σ H (fun vs H' => vs.length = n ∧ Q vs H') = t σ H Q
theorem lena_nil : LenA tNil 0 := fun σ H Q => by simp [tNil]
theorem lena_cons {te : TE} {t : TA} {n : Nat} (h : LenA t n) : LenA (tCons te t) (n + 1) := fun σ H Q => by
  have e : (fun x H1 => t σ H1 fun xs H2 => (x :: xs).length = n + 1 ∧ Q (x :: xs) H2) = fun x H1 => t σ H1 fun xs H2 => Q (x :: xs) H2 := by
    funext x H1
    rw [← h σ H1 fun xs H2 => Q (x :: xs) H2]
    congr 1
    funext xs H2
    simp
  unfold tCons
  rw [e]
theorem pe_callKw {CX : CXT} {k n : Nat} {f : Addr} {fd : FuncData} {ps ks : List Str} {sp : Sp} {E : XK} {x : Str} {p pos : Pos} {e : Expr} {es : List Expr} {kws : List Keyword} {t tk : TA} {g : List Value → List Value → List Value} {gV : List V → List V → List V}
    (F : FnOk X.prog X.w X.K X.mg X.base CX k f fd ps sp) (hr : Room k X.A) (hg : Gl X x) (hm : X.mg x = some (.ref f)) (hk : PySem.W.keepIn X.K (.ref f) = true) (hb : KBn X.K fd ps n ks g gV) (hx : Passes CX X E)
    (ha : PA X (e :: es) t) (hkw : PK X kws tk) (la : LenA t n) (lk : LenA tk ks.length) (hall : (backToKw pos (keywordEach kws X.env)).all (·.1.isSome) = true := by rfl) (hks : (backToKw pos (keywordEach kws X.env)).filterMap (·.1) = ks := by rfl)
    (hdb : (x == ("__debug__" : Str)) = false := by decide) (he : starEach (e :: es) X.env = (false, eval e X.env) :: starEach es X.env := by rfl)
    (hpl : ((backTo pos (starEach (e :: es) X.env)).any (·.1) || (backToKw pos (keywordEach kws X.env)).any (·.1.isNone)) = false := by rfl) :
    PE X (.Call (.Name x p) (e :: es) kws pos) (tCallK sp gV E t tk) := by
  have h := pe_callN (p := p) F hr hg hm hk hb hx ha hkw hall hks hdb he hpl
  refine ⟨fun pins s σ H Q I q => h.run pins s σ H Q I ?_⟩
  unfold tCallK at q
  unfold L2.tCallN
  rw [← la] at q ⊢
  have e2 : (fun vs H1 => vs.length = n ∧ tk σ H1 fun zs H2 => vs.length = n ∧ zs.length = ks.length ∧ sp (gV vs zs) H2 Q E) = fun vs H1 => vs.length = n ∧ tk σ H1 fun zs H2 => sp (gV vs zs) H2 Q E := by
    funext vs H1
    refine propext ⟨fun ⟨a, b⟩ => ⟨a, ?_⟩, fun ⟨a, b⟩ => ⟨a, ?_⟩⟩
    · rw [← lk]
      have e3 : (fun zs H2 => vs.length = n ∧ zs.length = ks.length ∧ sp (gV vs zs) H2 Q E) = fun zs H2 => zs.length = ks.length ∧ sp (gV vs zs) H2 Q E := by
        funext zs H2
        simp [a]
      rw [e3] at b
      exact b
    · rw [← lk] at b
      have e3 : (fun zs H2 => vs.length = n ∧ zs.length = ks.length ∧ sp (gV vs zs) H2 Q E) = fun zs H2 => zs.length = ks.length ∧ sp (gV vs zs) H2 Q E := by
        funext zs H2
        simp [a]
      rw [e3]
      exact b
  rw [e2]
  exact q
theorem kbn_app {fd : FuncData} {ps ks : List Str} {n : Nat} (h : ∀ (s : Shared) (us ws : List Value), K.In s.heap → us.length = n → ws.length = ks.length → BindsTo s fd ⟨us, ks.zip ws⟩ (ps.zip (us ++ ws))) : KBn K fd ps n ks (fun us ws => us ++ ws) (fun vs zs => vs ++ zs) := ⟨h, fun r1 r2 => r1.append r2⟩
theorem pe_eq {e : Expr} {t t' : TE} (h : PE X e t) (q : t' = t) : PE X e t' := q ▸ h
end
end VM
end

section
set_option Elab.async false
set_option linter.all false
set_option maxRecDepth 100000
set_option maxHeartbeats 4000000
/-! the evaluator's equations with named continuations: simp walks them without going under a lambda -/
namespace VM
open PySem PySem.Spec PyProof.Rows L2 DL
noncomputable section
variable {cb : CB} {ρ : Rho} {S : Stv}
@[simp] theorem evE_con (cb : CB) (ρ : Rho) (S : Stv) (d : PyData) : evE cb ρ S (.con d) = if isC d = true then okD d S else .bad := rfl
@[simp] theorem evE_glb (cb : CB) (ρ : Rho) (S : Stv) (k : Nat) (d : PyData) : evE cb ρ S (.glb k d) = okD d S := rfl
def varR (e : Option En) (S : Stv) : Out Rv := match e with
  | some (.dt d) => .ok (.v d) S
  | some (.mu n) => .ok (.mu n) S
  | _ => .bad
@[simp] theorem varR_dt (d : PyData) (S : Stv) : varR (some (.dt d)) S = .ok (.v d) S := rfl
@[simp] theorem varR_mu (n : Nat) (S : Stv) : varR (some (.mu n)) S = .ok (.mu n) S := rfl
@[simp] theorem evE_var (cb : CB) (ρ : Rho) (S : Stv) (i : Nat) : evE cb ρ S (.var i) = varR ρ[i]? S := rfl
def kBin2 (o : Bop) (x : Rv) : Rv → Stv → Out Rv := fun y S => binR o x y S
@[simp] theorem kBin2_ap (o : Bop) (x : Rv) (y : Rv) (S : Stv) : kBin2 o x y S = binR o x y S := rfl
def kBin1 (cb : CB) (ρ : Rho) (o : Bop) (b : Ex) : Rv → Stv → Out Rv := fun x S => (evE cb ρ S b).bind (kBin2 o x)
@[simp] theorem kBin1_ap (cb : CB) (ρ : Rho) (o : Bop) (b : Ex) (x : Rv) (S : Stv) : kBin1 cb ρ o b x S = (evE cb ρ S b).bind (kBin2 o x) := rfl
@[simp] theorem evE_bin (cb : CB) (ρ : Rho) (S : Stv) (o : Bop) (a b : Ex) : evE cb ρ S (.bin o a b) = (evE cb ρ S a).bind (kBin1 cb ρ o b) := rfl
def negR (x : Rv) (S : Stv) : Out Rv := match x with
  | .v (.int i) => okD (.int (-i)) S
  | _ => .bad
@[simp] theorem negR_int (i : Int) (S : Stv) : negR (.v (.int i)) S = .ok (.v (.int (-i))) S := rfl
@[simp] theorem evE_neg (cb : CB) (ρ : Rho) (S : Stv) (a : Ex) : evE cb ρ S (.neg a) = (evE cb ρ S a).bind negR := rfl
def kNot2  : Bool → Stv → Out Rv := fun b S => okD (.bool (!b)) S
@[simp] theorem kNot2_ap  (b : Bool) (S : Stv) : kNot2  b S = okD (.bool (!b)) S := rfl
def kNot1  : Rv → Stv → Out Rv := fun x S => (truO x S).bind kNot2
@[simp] theorem kNot1_ap  (x : Rv) (S : Stv) : kNot1  x S = (truO x S).bind kNot2 := rfl
@[simp] theorem evE_not (cb : CB) (ρ : Rho) (S : Stv) (a : Ex) : evE cb ρ S (.not a) = (evE cb ρ S a).bind kNot1 := rfl
def kAnd2 (cb : CB) (ρ : Rho) (b : Ex) (x : Rv) : Bool → Stv → Out Rv := fun k S => if k = true then evE cb ρ S b else .ok x S
@[simp] theorem kAnd2_ap (cb : CB) (ρ : Rho) (b : Ex) (x : Rv) (k : Bool) (S : Stv) : kAnd2 cb ρ b x k S = if k = true then evE cb ρ S b else .ok x S := rfl
def kAnd1 (cb : CB) (ρ : Rho) (b : Ex) : Rv → Stv → Out Rv := fun x S => (truO x S).bind (kAnd2 cb ρ b x)
@[simp] theorem kAnd1_ap (cb : CB) (ρ : Rho) (b : Ex) (x : Rv) (S : Stv) : kAnd1 cb ρ b x S = (truO x S).bind (kAnd2 cb ρ b x) := rfl
@[simp] theorem evE_and (cb : CB) (ρ : Rho) (S : Stv) (a b : Ex) : evE cb ρ S (.and a b) = (evE cb ρ S a).bind (kAnd1 cb ρ b) := rfl
def kOr2 (cb : CB) (ρ : Rho) (b : Ex) (x : Rv) : Bool → Stv → Out Rv := fun k S => if k = true then .ok x S else evE cb ρ S b
@[simp] theorem kOr2_ap (cb : CB) (ρ : Rho) (b : Ex) (x : Rv) (k : Bool) (S : Stv) : kOr2 cb ρ b x k S = if k = true then .ok x S else evE cb ρ S b := rfl
def kOr1 (cb : CB) (ρ : Rho) (b : Ex) : Rv → Stv → Out Rv := fun x S => (truO x S).bind (kOr2 cb ρ b x)
@[simp] theorem kOr1_ap (cb : CB) (ρ : Rho) (b : Ex) (x : Rv) (S : Stv) : kOr1 cb ρ b x S = (truO x S).bind (kOr2 cb ρ b x) := rfl
@[simp] theorem evE_or (cb : CB) (ρ : Rho) (S : Stv) (a b : Ex) : evE cb ρ S (.or a b) = (evE cb ρ S a).bind (kOr1 cb ρ b) := rfl
def kIfe (cb : CB) (ρ : Rho) (a b : Ex) : Bool → Stv → Out Rv := fun k S => if k = true then evE cb ρ S a else evE cb ρ S b
@[simp] theorem kIfe_ap (cb : CB) (ρ : Rho) (a b : Ex) (k : Bool) (S : Stv) : kIfe cb ρ a b k S = if k = true then evE cb ρ S a else evE cb ρ S b := rfl
@[simp] theorem evE_ife (cb : CB) (ρ : Rho) (S : Stv) (c : Tx) (a b : Ex) : evE cb ρ S (.ife c a b) = (evT cb ρ S c).bind (kIfe cb ρ a b) := rfl
def kBl  : Bool → Stv → Out Rv := fun k S => okD (.bool k) S
@[simp] theorem kBl_ap  (k : Bool) (S : Stv) : kBl  k S = okD (.bool k) S := rfl
def kCmp2 (o : Cop) (x : Rv) : Rv → Stv → Out Rv := fun y S => (cmpO o x y S).bind kBl
@[simp] theorem kCmp2_ap (o : Cop) (x : Rv) (y : Rv) (S : Stv) : kCmp2 o x y S = (cmpO o x y S).bind kBl := rfl
def kCmp1 (cb : CB) (ρ : Rho) (o : Cop) (b : Ex) : Rv → Stv → Out Rv := fun x S => (evE cb ρ S b).bind (kCmp2 o x)
@[simp] theorem kCmp1_ap (cb : CB) (ρ : Rho) (o : Cop) (b : Ex) (x : Rv) (S : Stv) : kCmp1 cb ρ o b x S = (evE cb ρ S b).bind (kCmp2 o x) := rfl
@[simp] theorem evE_cmp (cb : CB) (ρ : Rho) (S : Stv) (o : Cop) (a b : Ex) : evE cb ρ S (.cmp o a b) = (evE cb ρ S a).bind (kCmp1 cb ρ o b) := rfl
def kChn3 (cb : CB) (ρ : Rho) (o' : Cop) (y : Rv) (c : Ex) : Bool → Stv → Out Rv := fun k S => if k = true then (evE cb ρ S c).bind (kCmp2 o' y) else okD (.bool false) S
@[simp] theorem kChn3_ap (cb : CB) (ρ : Rho) (o' : Cop) (y : Rv) (c : Ex) (k : Bool) (S : Stv) : kChn3 cb ρ o' y c k S = if k = true then (evE cb ρ S c).bind (kCmp2 o' y) else okD (.bool false) S := rfl
def kChn2 (cb : CB) (ρ : Rho) (o o' : Cop) (x : Rv) (c : Ex) : Rv → Stv → Out Rv := fun y S => (cmpO o x y S).bind (kChn3 cb ρ o' y c)
@[simp] theorem kChn2_ap (cb : CB) (ρ : Rho) (o o' : Cop) (x : Rv) (c : Ex) (y : Rv) (S : Stv) : kChn2 cb ρ o o' x c y S = (cmpO o x y S).bind (kChn3 cb ρ o' y c) := rfl
def kChn1 (cb : CB) (ρ : Rho) (o o' : Cop) (b c : Ex) : Rv → Stv → Out Rv := fun x S => (evE cb ρ S b).bind (kChn2 cb ρ o o' x c)
@[simp] theorem kChn1_ap (cb : CB) (ρ : Rho) (o o' : Cop) (b c : Ex) (x : Rv) (S : Stv) : kChn1 cb ρ o o' b c x S = (evE cb ρ S b).bind (kChn2 cb ρ o o' x c) := rfl
@[simp] theorem evE_chn (cb : CB) (ρ : Rho) (S : Stv) (o o' : Cop) (a b c : Ex) : evE cb ρ S (.chn o o' a b c) = (evE cb ρ S a).bind (kChn1 cb ρ o o' b c) := rfl
def tupR (ens : List En) (S : Stv) : Out Rv := if ens.length ≤ big then match enDs ens with
    | some ds => okD (.tuple ds) S
    | none => .bad
    else .bad
def lstN (ens : List En) (S : Stv) : Out Rv := if ens.length ≤ big then match enDs ens with
    | some ds => .ok (.nw (.lst ds)) S
    | none => .ok (.nw (.lse ens)) S
    else .bad
@[simp] theorem tupR_eq (ens : List En) (S : Stv) : tupR ens S = if ens.length ≤ big then match enDs ens with
    | some ds => okD (.tuple ds) S
    | none => .bad
    else .bad := rfl
@[simp] theorem lstN_eq (ens : List En) (S : Stv) : lstN ens S = if ens.length ≤ big then match enDs ens with
    | some ds => .ok (.nw (.lst ds)) S
    | none => .ok (.nw (.lse ens)) S
    else .bad := rfl
@[simp] theorem evE_tup (cb : CB) (ρ : Rho) (S : Stv) (es : Exs) : evE cb ρ S (.tup es) = (evA cb ρ S es).bind tupR := rfl
@[simp] theorem evE_lst (cb : CB) (ρ : Rho) (S : Stv) (es : Exs) : evE cb ρ S (.lst es) = (evA cb ρ S es).bind lstN := rfl
@[simp] theorem evE_dnw (cb : CB) (ρ : Rho) (S : Stv) (t : Bool) : evE cb ρ S (.dnw t) = .ok (.nw (.dct t [])) S := rfl
def kIdx2 (x : Rv) : Rv → Stv → Out Rv := fun y S => idxO x y S
@[simp] theorem kIdx2_ap (x : Rv) (y : Rv) (S : Stv) : kIdx2 x y S = idxO x y S := rfl
def kIdx1 (cb : CB) (ρ : Rho) (i : Ex) : Rv → Stv → Out Rv := fun x S => (evE cb ρ S i).bind (kIdx2 x)
@[simp] theorem kIdx1_ap (cb : CB) (ρ : Rho) (i : Ex) (x : Rv) (S : Stv) : kIdx1 cb ρ i x S = (evE cb ρ S i).bind (kIdx2 x) := rfl
@[simp] theorem evE_idx (cb : CB) (ρ : Rho) (S : Stv) (a i : Ex) : evE cb ρ S (.idx a i) = (evE cb ρ S a).bind (kIdx1 cb ρ i) := rfl
def kSlc3 (x : Rv) (l : Option Int) : Option Int → Stv → Out Rv := fun h S => slcO x l h S
@[simp] theorem kSlc3_ap (x : Rv) (l : Option Int) (h : Option Int) (S : Stv) : kSlc3 x l h S = slcO x l h S := rfl
def kSlc2 (cb : CB) (ρ : Rho) (hi : Exo) (x : Rv) : Option Int → Stv → Out Rv := fun l S => (evO cb ρ S hi).bind (kSlc3 x l)
@[simp] theorem kSlc2_ap (cb : CB) (ρ : Rho) (hi : Exo) (x : Rv) (l : Option Int) (S : Stv) : kSlc2 cb ρ hi x l S = (evO cb ρ S hi).bind (kSlc3 x l) := rfl
def kSlc1 (cb : CB) (ρ : Rho) (lo hi : Exo) : Rv → Stv → Out Rv := fun x S => (evO cb ρ S lo).bind (kSlc2 cb ρ hi x)
@[simp] theorem kSlc1_ap (cb : CB) (ρ : Rho) (lo hi : Exo) (x : Rv) (S : Stv) : kSlc1 cb ρ lo hi x S = (evO cb ρ S lo).bind (kSlc2 cb ρ hi x) := rfl
@[simp] theorem evE_slc (cb : CB) (ρ : Rho) (S : Stv) (a : Ex) (lo hi : Exo) : evE cb ρ S (.slc a lo hi) = (evE cb ρ S a).bind (kSlc1 cb ρ lo hi) := rfl
def kCall (cb : CB1) (f : Nat) : List En → Stv → Out Rv := fun ens S => callC cb f ens S
@[simp] theorem kCall_ap (cb : CB1) (f : Nat) (ens : List En) (S : Stv) : kCall cb f ens S = callC cb f ens S := rfl
@[simp] theorem evE_call (cb : CB) (ρ : Rho) (S : Stv) (f : Nat) (es : Exs) : evE cb ρ S (.call f es) = (evA cb ρ S es).bind (kCall (cb false) f) := rfl
def kMth2 (cb : CB1) (f n : Nat) : List En → Stv → Out Rv := fun ens S => callC cb f (.mu n :: ens) S
@[simp] theorem kMth2_ap (cb : CB1) (f n : Nat) (ens : List En) (S : Stv) : kMth2 cb f n ens S = callC cb f (.mu n :: ens) S := rfl
def mthR (cb : CB) (ρ : Rho) (c f : Nat) (m : Str) (es : Exs) (x : Rv) (S : Stv) : Out Rv := match x with
    | .mu n => match S[n]? with
      | some (.obj c' fs) => if c' = c ∧ fs.lookup m = none then (evA cb ρ S es).bind (kMth2 (cb false) f n) else .bad
      | _ => .bad
    | _ => .bad
@[simp] theorem mthR_mu (cb : CB) (ρ : Rho) (c f : Nat) (m : Str) (es : Exs) (n : Nat) (S : Stv) : mthR cb ρ c f m es (.mu n) S = match S[n]? with
      | some (.obj c' fs) => if c' = c ∧ fs.lookup m = none then (evA cb ρ S es).bind (kMth2 (cb false) f n) else .bad
      | _ => .bad := rfl
@[simp] theorem evE_mth (cb : CB) (ρ : Rho) (S : Stv) (c f : Nat) (m : Str) (o : Ex) (es : Exs) : evE cb ρ S (.mth c f m o es) = (evE cb ρ S o).bind (mthR cb ρ c f m es) := rfl
def kMak2 (n : Nat) : Rv → Stv → Out Rv := fun r S => match r with
    | .v .none => .ok (.mu n) S
    | _ => .bad
@[simp] theorem kMak2_none (n : Nat) (S : Stv) : kMak2 n (.v .none) S = .ok (.mu n) S := rfl
def kMak1 (cb : CB1) (c f : Nat) : List En → Stv → Out Rv := fun ens S => (callC cb f (.mu S.length :: ens) (S ++ [.obj c []])).bind (kMak2 S.length)
@[simp] theorem kMak1_ap (cb : CB1) (c f : Nat) (ens : List En) (S : Stv) : kMak1 cb c f ens S = (callC cb f (.mu S.length :: ens) (S ++ [.obj c []])).bind (kMak2 S.length) := rfl
@[simp] theorem evE_mak (cb : CB) (ρ : Rho) (S : Stv) (c f : Nat) (es : Exs) : evE cb ρ S (.mak c f es) = (evA cb ρ S es).bind (kMak1 (cb true) c f) := rfl
def fldR (m : Str) (x : Rv) (S : Stv) : Out Rv := match x with
    | .mu n => match S[n]? with
      | some (.obj _ fs) => match fs.lookup m with
        | some (.dt d) => okD d S
        | some (.mu k) => .ok (.mu k) S
        | _ => .bad
      | _ => .bad
    | _ => .bad
@[simp] theorem fldR_mu (m : Str) (n : Nat) (S : Stv) : fldR m (.mu n) S = match S[n]? with
      | some (.obj _ fs) => match fs.lookup m with
        | some (.dt d) => okD d S
        | some (.mu k) => .ok (.mu k) S
        | _ => .bad
      | _ => .bad := rfl
def isiR (T : String) (x : Rv) (S : Stv) : Out Rv := match x with
    | .v d => match kitB (tyD d) T with
      | some b => okD (.bool b) S
      | none => .bad
    | .nw (.lst _) => match kitB "list" T with
      | some b => okD (.bool b) S
      | none => .bad
    | .mu n => match S[n]? with
      | some (.lst _) => match kitB "list" T with
        | some b => okD (.bool b) S
        | none => .bad
      | _ => .bad
    | _ => .bad
@[simp] theorem isiR_v (T : String) (d : PyData) (S : Stv) : isiR T (.v d) S = match kitB (tyD d) T with
      | some b => okD (.bool b) S
      | none => .bad := rfl
@[simp] theorem evE_fld (cb : CB) (ρ : Rho) (S : Stv) (m : Str) (o : Ex) : evE cb ρ S (.fld m o) = (evE cb ρ S o).bind (fldR m) := rfl
@[simp] theorem evE_isi (cb : CB) (ρ : Rho) (S : Stv) (T : String) (a : Ex) : evE cb ρ S (.isi T a) = (evE cb ρ S a).bind (isiR T) := rfl
def kBi (b : Bif) : List Rv → Stv → Out Rv := fun xs S => biO b xs S
@[simp] theorem kBi_ap (b : Bif) (xs : List Rv) (S : Stv) : kBi b xs S = biO b xs S := rfl
@[simp] theorem evE_bi (cb : CB) (ρ : Rho) (S : Stv) (b : Bif) (es : Exs) : evE cb ρ S (.bi b es) = (evR cb ρ S es).bind (kBi b) := rfl
def kBm2 (b : Bmt) (x : Rv) : List Rv → Stv → Out Rv := fun xs S => bmO b x xs S
@[simp] theorem kBm2_ap (b : Bmt) (x : Rv) (xs : List Rv) (S : Stv) : kBm2 b x xs S = bmO b x xs S := rfl
def kBm1 (cb : CB) (ρ : Rho) (b : Bmt) (es : Exs) : Rv → Stv → Out Rv := fun x S => if (bmT b x S && bmA b es) = true then (evR cb ρ S es).bind (kBm2 b x) else .bad
@[simp] theorem kBm1_ap (cb : CB) (ρ : Rho) (b : Bmt) (es : Exs) (x : Rv) (S : Stv) : kBm1 cb ρ b es x S = if (bmT b x S && bmA b es) = true then (evR cb ρ S es).bind (kBm2 b x) else .bad := rfl
@[simp] theorem evE_bm (cb : CB) (ρ : Rho) (S : Stv) (b : Bmt) (o : Ex) (es : Exs) : evE cb ρ S (.bm b o es) = (evE cb ρ S o).bind (kBm1 cb ρ b es) := rfl
def lcT (cb : CB) (c : Txo) : Rho → Stv → Out Bool := fun ρ S => evC cb ρ S c
def lcE (cb : CB) (e : Ex) : Rho → Stv → Out Rv := fun ρ S => evE cb ρ S e
@[simp] theorem lcT_ap (cb : CB) (c : Txo) (ρ : Rho) (S : Stv) : lcT cb c ρ S = evC cb ρ S c := rfl
@[simp] theorem lcE_ap (cb : CB) (e : Ex) (ρ : Rho) (S : Stv) : lcE cb e ρ S = evE cb ρ S e := rfl
def kLc2  : List PyData → Stv → Out Rv := fun ds S => .ok (.nw (.lst ds)) S
@[simp] theorem kLc2_ap  (ds : List PyData) (S : Stv) : kLc2  ds S = .ok (.nw (.lst ds)) S := rfl
def kLc1 (cb : CB) (ρ : Rho) (ws : List Nat) (g : Tgt) (c : Txo) (e : Ex) : Items → Stv → Out Rv := fun is S => if is.1.length ≤ big ∧ tgIn g ws = true then (lcF (lcT cb c) (lcE cb e) (bindE g) is.2 S.length (wipeR ρ ws) is.1 [] S).bind kLc2 else .bad
@[simp] theorem kLc1_ap (cb : CB) (ρ : Rho) (ws : List Nat) (g : Tgt) (c : Txo) (e : Ex) (is : Items) (S : Stv) : kLc1 cb ρ ws g c e is S = if is.1.length ≤ big ∧ tgIn g ws = true then (lcF (lcT cb c) (lcE cb e) (bindE g) is.2 S.length (wipeR ρ ws) is.1 [] S).bind kLc2 else .bad := rfl
@[simp] theorem evE_lc (cb : CB) (ρ : Rho) (S : Stv) (ws : List Nat) (g : Tgt) (it : Itr) (c : Txo) (e : Ex) : evE cb ρ S (.lc ws g it c e) = (evI cb ρ S it).bind (kLc1 cb ρ ws g c e) := rfl
def kLrg2 (x : Option Int) (t : Bool) : Rv → Stv → Out Rv := fun y S => match x.getD 0, y with
    | i, .v (.int j) => if -1000000 ≤ i ∧ i ≤ 1000000 ∧ -1000000 ≤ j ∧ j ≤ 1000000 then (if t = true then okD (.tuple (rngD i (j - i).toNat)) S else .ok (.nw (.lst (rngD i (j - i).toNat))) S) else .bad
    | _, _ => .bad
@[simp] theorem kLrg2_ap (x : Option Int) (t : Bool) (j : Int) (S : Stv) : kLrg2 x t (.v (.int j)) S = if -1000000 ≤ x.getD 0 ∧ x.getD 0 ≤ 1000000 ∧ -1000000 ≤ j ∧ j ≤ 1000000 then (if t = true then okD (.tuple (rngD (x.getD 0) (j - x.getD 0).toNat)) S else .ok (.nw (.lst (rngD (x.getD 0) (j - x.getD 0).toNat))) S) else .bad := rfl
def kLrg1 (cb : CB) (ρ : Rho) (b : Ex) (t : Bool) : Option Int → Stv → Out Rv := fun x S => (evE cb ρ S b).bind (kLrg2 x t)
@[simp] theorem kLrg1_ap (cb : CB) (ρ : Rho) (b : Ex) (t : Bool) (x : Option Int) (S : Stv) : kLrg1 cb ρ b t x S = (evE cb ρ S b).bind (kLrg2 x t) := rfl
@[simp] theorem evE_lrg (cb : CB) (ρ : Rho) (S : Stv) (a : Exo) (b : Ex) (t : Bool) : evE cb ρ S (.lrg a b t) = (evO cb ρ S a).bind (kLrg1 cb ρ b t) := rfl
def ownR (x : Rv) (S : Stv) : Out Rv := match x with
    | .nw .gone => .bad
    | .nw c => .ok (.mu S.length) (S ++ [c])
    | _ => .bad
@[simp] theorem ownR_lst (ds : List PyData) (S : Stv) : ownR (.nw (.lst ds)) S = .ok (.mu S.length) (S ++ [.lst ds]) := rfl
@[simp] theorem ownR_lse (ds : List En) (S : Stv) : ownR (.nw (.lse ds)) S = .ok (.mu S.length) (S ++ [.lse ds]) := rfl
@[simp] theorem ownR_dct (t : Bool) (ds : List (PyData × PyData)) (S : Stv) : ownR (.nw (.dct t ds)) S = .ok (.mu S.length) (S ++ [.dct t ds]) := rfl
@[simp] theorem ownR_obj (c : Nat) (ds : List (Str × En)) (S : Stv) : ownR (.nw (.obj c ds)) S = .ok (.mu S.length) (S ++ [.obj c ds]) := rfl
@[simp] theorem evE_own (cb : CB) (ρ : Rho) (S : Stv) (e : Ex) : evE cb ρ S (.own e) = (evE cb ρ S e).bind ownR := rfl
@[simp] theorem evT_val (cb : CB) (ρ : Rho) (S : Stv) (e : Ex) : evT cb ρ S (.val e) = (evE cb ρ S e).bind truO := rfl
def kTn  : Bool → Stv → Out Bool := fun b S => .ok (!b) S
@[simp] theorem kTn_ap  (b : Bool) (S : Stv) : kTn  b S = .ok (!b) S := rfl
@[simp] theorem evT_not (cb : CB) (ρ : Rho) (S : Stv) (a : Tx) : evT cb ρ S (.not a) = (evT cb ρ S a).bind kTn := rfl
def kTa (cb : CB) (ρ : Rho) (b : Tx) : Bool → Stv → Out Bool := fun k S => if k = true then evT cb ρ S b else .ok false S
@[simp] theorem kTa_ap (cb : CB) (ρ : Rho) (b : Tx) (k : Bool) (S : Stv) : kTa cb ρ b k S = if k = true then evT cb ρ S b else .ok false S := rfl
@[simp] theorem evT_and (cb : CB) (ρ : Rho) (S : Stv) (a b : Tx) : evT cb ρ S (.and a b) = (evT cb ρ S a).bind (kTa cb ρ b) := rfl
def kTo (cb : CB) (ρ : Rho) (b : Tx) : Bool → Stv → Out Bool := fun k S => if k = true then .ok true S else evT cb ρ S b
@[simp] theorem kTo_ap (cb : CB) (ρ : Rho) (b : Tx) (k : Bool) (S : Stv) : kTo cb ρ b k S = if k = true then .ok true S else evT cb ρ S b := rfl
@[simp] theorem evT_or (cb : CB) (ρ : Rho) (S : Stv) (a b : Tx) : evT cb ρ S (.or a b) = (evT cb ρ S a).bind (kTo cb ρ b) := rfl
def kTc2 (o : Cop) (x : Rv) : Rv → Stv → Out Bool := fun y S => cmpO o x y S
@[simp] theorem kTc2_ap (o : Cop) (x : Rv) (y : Rv) (S : Stv) : kTc2 o x y S = cmpO o x y S := rfl
def kTc1 (cb : CB) (ρ : Rho) (o : Cop) (b : Ex) : Rv → Stv → Out Bool := fun x S => (evE cb ρ S b).bind (kTc2 o x)
@[simp] theorem kTc1_ap (cb : CB) (ρ : Rho) (o : Cop) (b : Ex) (x : Rv) (S : Stv) : kTc1 cb ρ o b x S = (evE cb ρ S b).bind (kTc2 o x) := rfl
@[simp] theorem evT_cmp (cb : CB) (ρ : Rho) (S : Stv) (o : Cop) (a b : Ex) : evT cb ρ S (.cmp o a b) = (evE cb ρ S a).bind (kTc1 cb ρ o b) := rfl
def kTh3 (cb : CB) (ρ : Rho) (o' : Cop) (y : Rv) (c : Ex) : Bool → Stv → Out Bool := fun k S => if k = true then (evE cb ρ S c).bind (kTc2 o' y) else .ok false S
@[simp] theorem kTh3_ap (cb : CB) (ρ : Rho) (o' : Cop) (y : Rv) (c : Ex) (k : Bool) (S : Stv) : kTh3 cb ρ o' y c k S = if k = true then (evE cb ρ S c).bind (kTc2 o' y) else .ok false S := rfl
def kTh2 (cb : CB) (ρ : Rho) (o o' : Cop) (x : Rv) (c : Ex) : Rv → Stv → Out Bool := fun y S => (cmpO o x y S).bind (kTh3 cb ρ o' y c)
@[simp] theorem kTh2_ap (cb : CB) (ρ : Rho) (o o' : Cop) (x : Rv) (c : Ex) (y : Rv) (S : Stv) : kTh2 cb ρ o o' x c y S = (cmpO o x y S).bind (kTh3 cb ρ o' y c) := rfl
def kTh1 (cb : CB) (ρ : Rho) (o o' : Cop) (b c : Ex) : Rv → Stv → Out Bool := fun x S => (evE cb ρ S b).bind (kTh2 cb ρ o o' x c)
@[simp] theorem kTh1_ap (cb : CB) (ρ : Rho) (o o' : Cop) (b c : Ex) (x : Rv) (S : Stv) : kTh1 cb ρ o o' b c x S = (evE cb ρ S b).bind (kTh2 cb ρ o o' x c) := rfl
@[simp] theorem evT_chn (cb : CB) (ρ : Rho) (S : Stv) (o o' : Cop) (a b c : Ex) : evT cb ρ S (.chn o o' a b c) = (evE cb ρ S a).bind (kTh1 cb ρ o o' b c) := rfl
@[simp] theorem evA_nil (cb : CB) (ρ : Rho) (S : Stv)  : evA cb ρ S .nil = .ok [] S := rfl
def kA2 (e : En) : List En → Stv → Out (List En) := fun xs S => .ok (e :: xs) S
@[simp] theorem kA2_ap (e : En) (xs : List En) (S : Stv) : kA2 e xs S = .ok (e :: xs) S := rfl
def kA1 (cb : CB) (ρ : Rho) (es : Exs) : Rv → Stv → Out (List En) := fun x S => (evA cb ρ (rvE x S).2 es).bind (kA2 (rvE x S).1)
@[simp] theorem kA1_ap (cb : CB) (ρ : Rho) (es : Exs) (x : Rv) (S : Stv) : kA1 cb ρ es x S = (evA cb ρ (rvE x S).2 es).bind (kA2 (rvE x S).1) := rfl
@[simp] theorem evA_cons (cb : CB) (ρ : Rho) (S : Stv) (e : Ex) (es : Exs) : evA cb ρ S (.cons e es) = (evE cb ρ S e).bind (kA1 cb ρ es) := rfl
@[simp] theorem evE_bad (cb : CB) (ρ : Rho) (S : Stv) : evE cb ρ S .bad = .bad := rfl
@[simp] theorem ex_bad (cb : CB) (ρ : Rho) (S : Stv) : exec cb .bad ρ S = .bad := rfl
@[simp] theorem evE_its (cb : CB) (ρ : Rho) (S : Stv) (e : Ex) : evE cb ρ S (.its e) = (evE cb ρ S e).bind itsO := rfl
@[simp] theorem evE_ddc (cb : CB) (ρ : Rho) (S : Stv) (kvs : List (Str × Str)) : evE cb ρ S (.ddc kvs) = if 0 < kvs.length ∧ kvs.length ≤ 15 ∧ (kvs.map (·.1)).Nodup then .ok (.nw (.dct false (kvs.map fun p => (.str p.1, .str p.2)))) S else .bad := rfl
def kDg3 (y z : Rv) : Rv → Stv → Out Rv := fun r S => dgtO y z r S
@[simp] theorem kDg3_ap (y z r : Rv) (S : Stv) : kDg3 y z r S = dgtO y z r S := rfl
def kDg2 (cb : CB) (ρ : Rho) (x : Ex) (y : Rv) : Rv → Stv → Out Rv := fun z S => (evE cb ρ S x).bind (kDg3 y z)
@[simp] theorem kDg2_ap (cb : CB) (ρ : Rho) (x : Ex) (y z : Rv) (S : Stv) : kDg2 cb ρ x y z S = (evE cb ρ S x).bind (kDg3 y z) := rfl
def kDg1 (cb : CB) (ρ : Rho) (k x : Ex) : Rv → Stv → Out Rv := fun y S => if dctB y S = true then (evE cb ρ S k).bind (kDg2 cb ρ x y) else .bad
@[simp] theorem kDg1_ap (cb : CB) (ρ : Rho) (k x : Ex) (y : Rv) (S : Stv) : kDg1 cb ρ k x y S = if dctB y S = true then (evE cb ρ S k).bind (kDg2 cb ρ x y) else .bad := rfl
@[simp] theorem evE_dgt (cb : CB) (ρ : Rho) (S : Stv) (o k x : Ex) : evE cb ρ S (.dgt o k x) = (evE cb ρ S o).bind (kDg1 cb ρ k x) := rfl
@[simp] theorem evI_enu (cb : CB) (ρ : Rho) (S : Stv) (e : Ex) : evI cb ρ S (.enu e) = (evE cb ρ S e).bind enuO := rfl
@[simp] theorem evI_rev (cb : CB) (ρ : Rho) (S : Stv) (e : Ex) : evI cb ρ S (.rev e) = (evE cb ρ S e).bind revO := rfl
def kStar2 (ys : List En) : List En → Stv → Out (List En) := fun xs S => .ok (ys ++ xs) S
@[simp] theorem kStar2_ap (ys xs : List En) (S : Stv) : kStar2 ys xs S = .ok (ys ++ xs) S := rfl
def starR (cb : CB) (ρ : Rho) (es : Exs) (S : Stv) : Option (List En) → Out (List En)
  | some ys => (evA cb ρ S es).bind (kStar2 ys)
  | none => .bad
@[simp] theorem starR_some (cb : CB) (ρ : Rho) (es : Exs) (S : Stv) (ys : List En) : starR cb ρ es S (some ys) = (evA cb ρ S es).bind (kStar2 ys) := rfl
def kStar1 (cb : CB) (ρ : Rho) (es : Exs) : Rv → Stv → Out (List En) := fun x S => starR cb ρ es S (strO x S)
@[simp] theorem kStar1_ap (cb : CB) (ρ : Rho) (es : Exs) (x : Rv) (S : Stv) : kStar1 cb ρ es x S = starR cb ρ es S (strO x S) := rfl
@[simp] theorem evA_star (cb : CB) (ρ : Rho) (S : Stv) (e : Ex) (es : Exs) : evA cb ρ S (.star e es) = (evE cb ρ S e).bind (kStar1 cb ρ es) := by
  show (evE cb ρ S e).bind _ = (evE cb ρ S e).bind _
  congr 1
@[simp] theorem evR_nil (cb : CB) (ρ : Rho) (S : Stv)  : evR cb ρ S .nil = .ok [] S := rfl
def kR2 (e : Rv) : List Rv → Stv → Out (List Rv) := fun xs S => .ok (e :: xs) S
@[simp] theorem kR2_ap (e : Rv) (xs : List Rv) (S : Stv) : kR2 e xs S = .ok (e :: xs) S := rfl
def kR1 (cb : CB) (ρ : Rho) (es : Exs) : Rv → Stv → Out (List Rv) := fun x S => (evR cb ρ S es).bind (kR2 x)
@[simp] theorem kR1_ap (cb : CB) (ρ : Rho) (es : Exs) (x : Rv) (S : Stv) : kR1 cb ρ es x S = (evR cb ρ S es).bind (kR2 x) := rfl
@[simp] theorem evR_cons (cb : CB) (ρ : Rho) (S : Stv) (e : Ex) (es : Exs) : evR cb ρ S (.cons e es) = (evE cb ρ S e).bind (kR1 cb ρ es) := rfl
@[simp] theorem evO_none (cb : CB) (ρ : Rho) (S : Stv)  : evO cb ρ S .none = .ok none S := rfl
def kO (x : Rv) (S : Stv) : Out (Option Int) := match x with
    | .v (.int i) => .ok (some i) S
    | _ => .bad
@[simp] theorem kO_int (i : Int) (S : Stv) : kO (.v (.int i)) S = .ok (some i) S := rfl
@[simp] theorem evO_some (cb : CB) (ρ : Rho) (S : Stv) (e : Ex) : evO cb ρ S (.some e) = (evE cb ρ S e).bind kO := rfl
@[simp] theorem evC_none (cb : CB) (ρ : Rho) (S : Stv)  : evC cb ρ S .none = .ok true S := rfl
@[simp] theorem evC_some (cb : CB) (ρ : Rho) (S : Stv) (t : Tx) : evC cb ρ S (.some t) = evT cb ρ S t := rfl
@[simp] theorem evI_sq (cb : CB) (ρ : Rho) (S : Stv) (e : Ex) : evI cb ρ S (.sq e) = (evE cb ρ S e).bind itemsO := rfl
def kI1 (x : Rv) (S : Stv) : Out Items := match x with
    | .v (.int i) => if -1000000000 ≤ i ∧ i ≤ 1000000000 then .ok ((rngD 0 i.toNat).map .dt, none) S else .bad
    | _ => .bad
@[simp] theorem kI1_int (i : Int) (S : Stv) : kI1 (.v (.int i)) S = if -1000000000 ≤ i ∧ i ≤ 1000000000 then .ok ((rngD 0 i.toNat).map .dt, none) S else .bad := rfl
def kI2 (x y : Rv) (S : Stv) : Out Items := match x, y with
    | .v (.int i), .v (.int j) => if -1000000000 ≤ i ∧ i ≤ 1000000000 ∧ -1000000000 ≤ j ∧ j ≤ 1000000000 then .ok ((rngD i (j - i).toNat).map .dt, none) S else .bad
    | _, _ => .bad
@[simp] theorem kI2_int (i j : Int) (S : Stv) : kI2 (.v (.int i)) (.v (.int j)) S = if -1000000000 ≤ i ∧ i ≤ 1000000000 ∧ -1000000000 ≤ j ∧ j ≤ 1000000000 then .ok ((rngD i (j - i).toNat).map .dt, none) S else .bad := rfl
@[simp] theorem evI_rg1 (cb : CB) (ρ : Rho) (S : Stv) (a : Ex) : evI cb ρ S (.rg1 a) = (evE cb ρ S a).bind kI1 := rfl
def kI3 (cb : CB) (ρ : Rho) (b : Ex) : Rv → Stv → Out Items := fun x S => (evE cb ρ S b).bind (kI2 x)
@[simp] theorem kI3_ap (cb : CB) (ρ : Rho) (b : Ex) (x : Rv) (S : Stv) : kI3 cb ρ b x S = (evE cb ρ S b).bind (kI2 x) := rfl
@[simp] theorem evI_rg2 (cb : CB) (ρ : Rho) (S : Stv) (a b : Ex) : evI cb ρ S (.rg2 a b) = (evE cb ρ S a).bind (kI3 cb ρ b) := rfl
@[simp] theorem ex_nop (cb : CB) (ρ : Rho) (S : Stv)  : exec cb .nop ρ S = .nx ρ S := rfl
def kSeq (cb : CB) (b : St) : Rho → Stv → Fl := fun ρ S => exec cb b ρ S
@[simp] theorem kSeq_ap (cb : CB) (b : St) (ρ : Rho) (S : Stv) : kSeq cb b ρ S = exec cb b ρ S := rfl
@[simp] theorem ex_seq (cb : CB) (ρ : Rho) (S : Stv) (a b : St) : exec cb (.seq a b) ρ S = (exec cb a ρ S).seq (kSeq cb b) := rfl
def asgR (o : Option Rho) (S : Stv) : Fl := match o with
    | some ρ1 => .nx ρ1 S
    | none => .bad
@[simp] theorem asgR_some (ρ : Rho) (S : Stv) : asgR (some ρ) S = .nx ρ S := rfl
def kAsg (g : Tgt) (ρ : Rho) : Rv → Stv → Fl := fun x S => asgR (bindE g (rvE x S).1 ρ) (rvE x S).2
@[simp] theorem kAsg_ap (g : Tgt) (ρ : Rho) (x : Rv) (S : Stv) : kAsg g ρ x S = asgR (bindE g (rvE x S).1 ρ) (rvE x S).2 := rfl
@[simp] theorem ex_asg (cb : CB) (ρ : Rho) (S : Stv) (g : Tgt) (e : Ex) : exec cb (.asg g e) ρ S = (evE cb ρ S e).fl ρ (kAsg g ρ) := rfl
def augR (ρ : Rho) (i : Nat) (z : Option Int) (S : Stv) : Fl := match z with
    | some z => .nx (ρ.set i (.dt (.int z))) S
    | none => .bad
@[simp] theorem augR_some (ρ : Rho) (i : Nat) (z : Int) (S : Stv) : augR ρ i (some z) S = .nx (ρ.set i (.dt (.int z))) S := rfl
def kAug (ρ : Rho) (i : Nat) (o : Bop) (x : Int) : Rv → Stv → Fl := fun y S => match y with
    | .v (.int j) => match augI o x j with
      | some z => .nx (ρ.set i (.dt (.int z))) S
      | none => .bad
    | _ => .bad
@[simp] theorem kAug_ap (ρ : Rho) (i : Nat) (o : Bop) (x j : Int) (S : Stv) : kAug ρ i o x (.v (.int j)) S = augR ρ i (augI o x j) S := by unfold kAug augR; rfl
def augS (cb : CB) (ρ : Rho) (S : Stv) (i : Nat) (o : Bop) (e : Ex) (v : Option En) : Fl := match v with
    | some (.dt (.int x)) => (evE cb ρ S e).fl ρ (kAug ρ i o x)
    | _ => .bad
@[simp] theorem augS_int (cb : CB) (ρ : Rho) (S : Stv) (i : Nat) (o : Bop) (e : Ex) (x : Int) : augS cb ρ S i o e (some (.dt (.int x))) = (evE cb ρ S e).fl ρ (kAug ρ i o x) := rfl
@[simp] theorem ex_aug (cb : CB) (ρ : Rho) (S : Stv) (i : Nat) (o : Bop) (e : Ex) : exec cb (.aug i o e) ρ S = augS cb ρ S i o e ρ[i]? := rfl
def kIte (cb : CB) (ρ : Rho) (a b : St) : Bool → Stv → Fl := fun k S => if k = true then exec cb a ρ S else exec cb b ρ S
@[simp] theorem kIte_ap (cb : CB) (ρ : Rho) (a b : St) (k : Bool) (S : Stv) : kIte cb ρ a b k S = if k = true then exec cb a ρ S else exec cb b ρ S := rfl
@[simp] theorem ex_ite (cb : CB) (ρ : Rho) (S : Stv) (c : Tx) (a b : St) : exec cb (.ite c a b) ρ S = (evT cb ρ S c).fl ρ (kIte cb ρ a b) := rfl
def forB (cb : CB) (g : Tgt) (b : St) : En → Rho → Stv → Fl := fun e ρ S => match bindE g e ρ with
    | some ρ1 => exec cb b ρ1 S
    | none => .bad
theorem forB_ap (cb : CB) (g : Tgt) (b : St) (e : En) (ρ : Rho) (S : Stv) : forB cb g b e ρ S = match bindE g e ρ with
    | some ρ1 => exec cb b ρ1 S
    | none => .bad := rfl
@[simp] theorem forB_nm (cb : CB) (i : Nat) (b : St) (e : En) (ρ : Rho) (S : Stv) : forB cb (.nm i) b e ρ S = exec cb b (ρ.set i e) S := rfl
@[simp] theorem forB_tp (cb : CB) (is : List Nat) (b : St) (ds : List PyData) (ρ : Rho) (S : Stv) : forB cb (.tp is) b (.dt (.tuple ds)) ρ S = if ds.length = is.length then exec cb b (bindL is ds ρ) S else .bad := by
  unfold forB bindE
  by_cases h : ds.length = is.length <;> simp [h]
def kFor (cb : CB) (ρ : Rho) (g : Tgt) (b : St) (ks : List Nat) : Items → Stv → Fl := fun is S => loopF (forB cb g b) is.2 ks S.length is.1 ρ S
@[simp] theorem kFor_ap (cb : CB) (ρ : Rho) (g : Tgt) (b : St) (ks : List Nat) (is : Items) (S : Stv) : kFor cb ρ g b ks is S = loopF (forB cb g b) is.2 ks S.length is.1 ρ S := rfl
@[simp] theorem ex_for (cb : CB) (ρ : Rho) (S : Stv) (g : Tgt) (it : Itr) (b : St) (ks : List Nat) : exec cb (.for_ g it b ks) ρ S = (evI cb ρ S it).fl ρ (kFor cb ρ g b ks) := rfl
def whT (cb : CB) (c : Tx) : Rho → Stv → Out Bool := fun ρ S => evT cb ρ S c
@[simp] theorem whT_ap (cb : CB) (c : Tx) (ρ : Rho) (S : Stv) : whT cb c ρ S = evT cb ρ S c := rfl
@[simp] theorem ex_whl (cb : CB) (ρ : Rho) (S : Stv) (c : Tx) (b : St) (ks : List Nat) : exec cb (.whl c b ks) ρ S = whileF (whT cb c) (kSeq cb b) ks S.length ρ S := rfl
def kRet  : Rv → Stv → Fl := fun r S => .rt r S
@[simp] theorem kRet_ap  (r : Rv) (S : Stv) : kRet  r S = .rt r S := rfl
@[simp] theorem ex_ret (cb : CB) (ρ : Rho) (S : Stv) (e : Ex) : exec cb (.ret e) ρ S = (evE cb ρ S e).fl ρ kRet := rfl
@[simp] theorem ex_retn (cb : CB) (ρ : Rho) (S : Stv)  : exec cb .retn ρ S = .rt (.v .none) S := rfl
@[simp] theorem ex_brk (cb : CB) (ρ : Rho) (S : Stv)  : exec cb .brk ρ S = .bk ρ S := rfl
@[simp] theorem ex_cnt (cb : CB) (ρ : Rho) (S : Stv)  : exec cb .cnt ρ S = .ct ρ S := rfl
def kExp (ρ : Rho) : Rv → Stv → Fl := fun r S => .nx ρ S
@[simp] theorem kExp_ap (ρ : Rho) (r : Rv) (S : Stv) : kExp ρ r S = .nx ρ S := rfl
@[simp] theorem ex_exp (cb : CB) (ρ : Rho) (S : Stv) (e : Ex) : exec cb (.exp e) ρ S = (evE cb ρ S e).fl ρ (kExp ρ) := rfl
def setR (ρ : Rho) (o : Option Stv) : Fl := match o with
    | some S => .nx ρ S
    | none => .bad
@[simp] theorem setR_some (ρ : Rho) (S : Stv) : setR ρ (some S) = .nx ρ S := rfl
def kSet3 (ρ : Rho) (en : En) (y : Rv) : Rv → Stv → Fl := fun z S => match y, z with
    | .mu n, .v d => match setiO n d en S with
      | some S4 => .nx ρ S4
      | none => .bad
    | _, _ => .bad
@[simp] theorem kSet3_ap (ρ : Rho) (en : En) (n : Nat) (d : PyData) (S : Stv) : kSet3 ρ en (.mu n) (.v d) S = setR ρ (setiO n d en S) := by unfold kSet3 setR; rfl
def kSet2 (cb : CB) (ρ : Rho) (i : Ex) (en : En) : Rv → Stv → Fl := fun y S => (evE cb ρ S i).fl ρ (kSet3 ρ en y)
@[simp] theorem kSet2_ap (cb : CB) (ρ : Rho) (i : Ex) (en : En) (y : Rv) (S : Stv) : kSet2 cb ρ i en y S = (evE cb ρ S i).fl ρ (kSet3 ρ en y) := rfl
def kSet1 (cb : CB) (ρ : Rho) (o i : Ex) : Rv → Stv → Fl := fun x S => (evE cb ρ (rvE x S).2 o).fl ρ (kSet2 cb ρ i (rvE x S).1)
@[simp] theorem kSet1_ap (cb : CB) (ρ : Rho) (o i : Ex) (x : Rv) (S : Stv) : kSet1 cb ρ o i x S = (evE cb ρ (rvE x S).2 o).fl ρ (kSet2 cb ρ i (rvE x S).1) := rfl
@[simp] theorem ex_seti (cb : CB) (ρ : Rho) (S : Stv) (o i e : Ex) : exec cb (.seti o i e) ρ S = (evE cb ρ S e).fl ρ (kSet1 cb ρ o i) := rfl
def kSf2 (ρ : Rho) (m : Str) (en : En) : Rv → Stv → Fl := fun y S2 => match y with
    | .mu n => match S2[n]? with
      | some (.obj c fs) => if fs.length < 1000 then .nx ρ (S2.set n (.obj c (putFE m en fs))) else .bad
      | _ => .bad
    | _ => .bad
@[simp] theorem kSf2_mu (ρ : Rho) (m : Str) (en : En) (n : Nat) (S : Stv) : kSf2 ρ m en (.mu n) S = match S[n]? with
      | some (.obj c fs) => if fs.length < 1000 then .nx ρ (S.set n (.obj c (putFE m en fs))) else .bad
      | _ => .bad := rfl
def kSf1 (cb : CB) (ρ : Rho) (m : Str) (o : Ex) : Rv → Stv → Fl := fun x S => (evE cb ρ (rvE x S).2 o).fl ρ (kSf2 ρ m (rvE x S).1)
@[simp] theorem kSf1_ap (cb : CB) (ρ : Rho) (m : Str) (o : Ex) (x : Rv) (S : Stv) : kSf1 cb ρ m o x S = (evE cb ρ (rvE x S).2 o).fl ρ (kSf2 ρ m (rvE x S).1) := rfl
@[simp] theorem ex_setf (cb : CB) (ρ : Rho) (S : Stv) (m : Str) (o e : Ex) : exec cb (.setf m o e) ρ S = (evE cb ρ S e).fl ρ (kSf1 cb ρ m o) := rfl
def kSt3 (ρ : Rho) (en : En) (y : Rv) : List En → Stv → Fl := fun ks S3 => match y with
    | .mu n => match en with
      | .dt v => match enDs ks with
        | some ds => match S3[n]? with
          | some (.dct true kvs) => if kvs.length < big ∧ ds.length ≤ big then match putD true kvs (.tuple ds) v with
            | some kvs' => .nx ρ (S3.set n (.dct true kvs'))
            | none => .bad
            else .bad
          | _ => .bad
        | none => .bad
      | _ => .bad
    | _ => .bad
@[simp] theorem kSt3_ap (ρ : Rho) (v : PyData) (n : Nat) (ks : List En) (S3 : Stv) : kSt3 ρ (.dt v) (.mu n) ks S3 = match enDs ks with
        | some ds => match S3[n]? with
          | some (.dct true kvs) => if kvs.length < big ∧ ds.length ≤ big then match putD true kvs (.tuple ds) v with
            | some kvs' => .nx ρ (S3.set n (.dct true kvs'))
            | none => .bad
            else .bad
          | _ => .bad
        | none => .bad := rfl
def kSt2 (cb : CB) (ρ : Rho) (es : Exs) (en : En) : Rv → Stv → Fl := fun y S => (evA cb ρ S es).fl ρ (kSt3 ρ en y)
@[simp] theorem kSt2_ap (cb : CB) (ρ : Rho) (es : Exs) (en : En) (y : Rv) (S : Stv) : kSt2 cb ρ es en y S = (evA cb ρ S es).fl ρ (kSt3 ρ en y) := rfl
def kSt1 (cb : CB) (ρ : Rho) (o : Ex) (es : Exs) : Rv → Stv → Fl := fun x S => (evE cb ρ (rvE x S).2 o).fl ρ (kSt2 cb ρ es (rvE x S).1)
@[simp] theorem kSt1_ap (cb : CB) (ρ : Rho) (o : Ex) (es : Exs) (x : Rv) (S : Stv) : kSt1 cb ρ o es x S = (evE cb ρ (rvE x S).2 o).fl ρ (kSt2 cb ρ es (rvE x S).1) := rfl
@[simp] theorem ex_sett (cb : CB) (ρ : Rho) (S : Stv) (o : Ex) (es : Exs) (e : Ex) : exec cb (.sett o es e) ρ S = (evE cb ρ S e).fl ρ (kSt1 cb ρ o es) := rfl
def kAf2 (ρ : Rho) (m : Str) (b : Bop) (n c : Nat) (x : Int) : Rv → Stv → Fl := fun z S2 => match z with
          | .v (.int j) => match augI b x j, S2[n]? with
            | some w, some (.obj c' fs') => if fs'.length < 1000 ∧ c' = c then .nx ρ (S2.set n (.obj c (putFE m (.dt (.int w)) fs'))) else .bad
            | _, _ => .bad
          | _ => .bad
@[simp] theorem kAf2_ap (ρ : Rho) (m : Str) (b : Bop) (n c : Nat) (x j : Int) (S2 : Stv) : kAf2 ρ m b n c x (.v (.int j)) S2 = match augI b x j, S2[n]? with
            | some w, some (.obj c' fs') => if fs'.length < 1000 ∧ c' = c then .nx ρ (S2.set n (.obj c (putFE m (.dt (.int w)) fs'))) else .bad
            | _, _ => .bad := rfl
def kAf1 (cb : CB) (ρ : Rho) (m : Str) (b : Bop) (e : Ex) : Rv → Stv → Fl := fun y S1 => match y with
    | .mu n => match S1[n]? with
      | some (.obj c fs) => match fs.lookup m with
        | some (.dt (.int x)) => (evE cb ρ S1 e).fl ρ (kAf2 ρ m b n c x)
        | _ => .bad
      | _ => .bad
    | _ => .bad
@[simp] theorem kAf1_mu (cb : CB) (ρ : Rho) (m : Str) (b : Bop) (e : Ex) (n : Nat) (S1 : Stv) : kAf1 cb ρ m b e (.mu n) S1 = match S1[n]? with
      | some (.obj c fs) => match fs.lookup m with
        | some (.dt (.int x)) => (evE cb ρ S1 e).fl ρ (kAf2 ρ m b n c x)
        | _ => .bad
      | _ => .bad := rfl
@[simp] theorem ex_augf (cb : CB) (ρ : Rho) (S : Stv) (m : Str) (o : Ex) (b : Bop) (e : Ex) : exec cb (.augf m o b e) ρ S = (evE cb ρ S o).fl ρ (kAf1 cb ρ m b e) := by
  unfold exec
  congr 1
end
end VM
end

section
set_option linter.all false
set_option maxRecDepth 100000
/-! ways as lists of ends, each with something: the first of each end -/
namespace FM
section
variable {α β γ : Type}
def keys (xs : List (Int × α)) : List Int := xs.map (·.1)
@[simp] theorem keys_nil : keys ([] : List (Int × α)) = [] := rfl
@[simp] theorem keys_cons (w : Int × α) (xs : List (Int × α)) : keys (w :: xs) = w.1 :: keys xs := rfl
@[simp] theorem keys_app (xs ys : List (Int × α)) : keys (xs ++ ys) = keys xs ++ keys ys := by simp [keys]
theorem mem_keys {k : Int} {xs : List (Int × α)} : k ∈ keys xs ↔ ∃ w ∈ xs, w.1 = k := by simp [keys]
def onceF (seen : List Int) : List (Int × α) → List (Int × α)
  | [] => []
  | w :: ws => if w.1 ∈ seen then onceF seen ws else w :: onceF (w.1 :: seen) ws
def once (xs : List (Int × α)) : List (Int × α) := onceF [] xs
theorem onceF_cons (s : List Int) (w : Int × α) (ws : List (Int × α)) : onceF s (w :: ws) = if w.1 ∈ s then onceF s ws else w :: onceF (w.1 :: s) ws := rfl
theorem onceF_congr : ∀ (xs : List (Int × α)) {s t : List Int}, (∀ k, k ∈ s ↔ k ∈ t) → onceF s xs = onceF t xs
  | [], _, _, _ => rfl
  | w :: ws, s, t, h => by
    have h2 : ∀ k, k ∈ w.1 :: s ↔ k ∈ w.1 :: t := fun k => by simp [h]
    unfold onceF
    rw [onceF_congr ws h, onceF_congr ws h2]
    by_cases hw : w.1 ∈ s
    · rw [if_pos hw, if_pos ((h _).mp hw)]
    · rw [if_neg hw, if_neg (fun z => hw ((h _).mpr z))]
theorem onceF_app : ∀ (xs ys : List (Int × α)) (s : List Int), onceF s (xs ++ ys) = onceF s xs ++ onceF (keys xs ++ s) ys
  | [], ys, s => rfl
  | w :: ws, ys, s => by
    rw [List.cons_append, onceF_cons, onceF_cons]
    by_cases hw : w.1 ∈ s
    · rw [if_pos hw, if_pos hw, onceF_app ws ys s]
      congr 1
      exact onceF_congr ys fun k => by
        simp only [keys_cons, List.cons_append, List.mem_cons, List.mem_append]
        refine ⟨fun h => .inr h, fun h => h.elim (fun e => .inr (e ▸ hw)) id⟩
    · rw [if_neg hw, if_neg hw, onceF_app ws ys (w.1 :: s), List.cons_append]
      congr 2
      exact onceF_congr ys fun k => by
        simp only [keys_cons, List.cons_append, List.mem_cons, List.mem_append]
        refine ⟨fun h => ?_, fun h => ?_⟩
        · rcases h with h | h | h
          · exact .inr (.inl h)
          · exact .inl h
          · exact .inr (.inr h)
        · rcases h with h | h | h
          · exact .inr (.inl h)
          · exact .inl h
          · exact .inr (.inr h)
theorem onceF_sub : ∀ {xs : List (Int × α)} {s : List Int}, (∀ k ∈ keys xs, k ∈ s) → onceF s xs = []
  | [], _, _ => rfl
  | w :: ws, s, h => by
    unfold onceF
    rw [if_pos (h _ (by simp)), onceF_sub fun k hk => h k (by simp [hk])]
theorem keys_onceF : ∀ {xs : List (Int × α)} {s : List Int} {k : Int}, k ∈ keys (onceF s xs) ↔ k ∈ keys xs ∧ k ∉ s
  | [], s, k => by simp [onceF]
  | w :: ws, s, k => by
    unfold onceF
    by_cases hw : w.1 ∈ s
    · rw [if_pos hw, keys_onceF]
      simp only [keys_cons, List.mem_cons]
      refine ⟨fun h => ⟨.inr h.1, h.2⟩, fun h => ⟨?_, h.2⟩⟩
      rcases h.1 with e | e
      · exact absurd (e ▸ hw) h.2
      · exact e
    · rw [if_neg hw]
      simp only [keys_cons, List.mem_cons, keys_onceF]
      refine ⟨fun h => ?_, fun h => ?_⟩
      · rcases h with e | e
        · exact ⟨.inl e, e ▸ hw⟩
        · exact ⟨.inr e.1, fun z => e.2 (.inr z)⟩
      · by_cases e : k = w.1
        · exact .inl e
        · rcases h.1 with e' | e'
          · exact absurd e' e
          · exact .inr ⟨e', fun z => z.elim e h.2⟩
theorem keys_once {xs : List (Int × α)} {k : Int} : k ∈ keys (once xs) ↔ k ∈ keys xs := by
  unfold once
  rw [keys_onceF]
  simp
theorem onceF_onceF : ∀ (xs : List (Int × α)) {s t : List Int}, (∀ k ∈ t, k ∈ s) → onceF s (onceF t xs) = onceF s xs
  | [], _, _, _ => rfl
  | w :: ws, s, t, h => by
    by_cases ht : w.1 ∈ t
    · have hs := h _ ht
      show onceF s (if w.1 ∈ t then onceF t ws else w :: onceF (w.1 :: t) ws) = if w.1 ∈ s then onceF s ws else w :: onceF (w.1 :: s) ws
      rw [if_pos ht, if_pos hs, onceF_onceF ws h]
    · show onceF s (if w.1 ∈ t then onceF t ws else w :: onceF (w.1 :: t) ws) = if w.1 ∈ s then onceF s ws else w :: onceF (w.1 :: s) ws
      rw [if_neg ht]
      show (if w.1 ∈ s then onceF s (onceF (w.1 :: t) ws) else w :: onceF (w.1 :: s) (onceF (w.1 :: t) ws)) = _
      by_cases hs : w.1 ∈ s
      · rw [if_pos hs, if_pos hs, onceF_onceF ws (fun k hk => by
          rcases List.mem_cons.mp hk with e | e
          · exact e ▸ hs
          · exact h k e)]
      · rw [if_neg hs, if_neg hs, onceF_onceF ws (fun k hk => by
          rcases List.mem_cons.mp hk with e | e
          · exact e ▸ List.mem_cons_self
          · exact List.mem_cons_of_mem _ (h k e))]
theorem onceF_id : ∀ {xs : List (Int × α)} {s : List Int}, (keys xs).Nodup → (∀ k ∈ keys xs, k ∉ s) → onceF s xs = xs
  | [], _, _, _ => rfl
  | w :: ws, s, hn, h => by
    unfold onceF
    rw [keys_cons, List.nodup_cons] at hn
    rw [if_neg (h _ (by simp)), onceF_id hn.2 fun k hk z => ?_]
    rcases List.mem_cons.mp z with e | e
    · exact hn.1 (e ▸ hk)
    · exact h k (by simp [hk]) e
theorem onceF_nodup : ∀ (xs : List (Int × α)) (s : List Int), (keys (onceF s xs)).Nodup
  | [], _ => .nil
  | w :: ws, s => by
    unfold onceF
    split
    · exact onceF_nodup ws s
    · rw [keys_cons, List.nodup_cons]
      exact ⟨fun h => (keys_onceF.mp h).2 List.mem_cons_self, onceF_nodup ws _⟩
theorem once_nodup (xs : List (Int × α)) : (keys (once xs)).Nodup := onceF_nodup xs []
theorem once_id {xs : List (Int × α)} (h : (keys xs).Nodup) : once xs = xs := onceF_id h fun _ _ => by simp
theorem onceF_map {h : Int × α → Int × β} (hk : ∀ w, (h w).1 = w.1) : ∀ (xs : List (Int × α)) (s : List Int), onceF s (xs.map h) = (onceF s xs).map h
  | [], _ => rfl
  | w :: ws, s => by
    show onceF s (h w :: ws.map h) = _
    unfold onceF
    rw [hk, onceF_map hk, onceF_map hk]
    split <;> rfl
theorem once_map {h : Int × α → Int × β} (hk : ∀ w, (h w).1 = w.1) (xs : List (Int × α)) : once (xs.map h) = (once xs).map h := onceF_map hk xs []
theorem mem_onceF : ∀ {xs : List (Int × α)} {s : List Int} {w : Int × α}, w ∈ onceF s xs → w ∈ xs
  | [], _, _, h => by cases h
  | v :: vs, s, w, h => by
    unfold onceF at h
    split at h
    · exact List.mem_cons_of_mem _ (mem_onceF h)
    · rcases List.mem_cons.mp h with e | e
      · exact e ▸ List.mem_cons_self
      · exact List.mem_cons_of_mem _ (mem_onceF e)
theorem mem_once {xs : List (Int × α)} {w : Int × α} (h : w ∈ once xs) : w ∈ xs := mem_onceF h
/-- alike but for later ones of an end -/
def Eqv (xs ys : List (Int × α)) : Prop := ∀ s, onceF s xs = onceF s ys
theorem Eqv.refl (xs : List (Int × α)) : Eqv xs xs := fun _ => rfl
theorem Eqv.symm {xs ys : List (Int × α)} (h : Eqv xs ys) : Eqv ys xs := fun s => (h s).symm
theorem Eqv.trans {xs ys zs : List (Int × α)} (h : Eqv xs ys) (h' : Eqv ys zs) : Eqv xs zs := fun s => (h s).trans (h' s)
theorem Eqv.keys {xs ys : List (Int × α)} (h : Eqv xs ys) (k : Int) : k ∈ keys xs ↔ k ∈ keys ys := by
  have := h []
  rw [← keys_once (xs := xs), ← keys_once (xs := ys)]
  unfold once
  rw [this]
theorem Eqv.app {xs ys xs' ys' : List (Int × α)} (h : Eqv xs xs') (h' : Eqv ys ys') : Eqv (xs ++ ys) (xs' ++ ys') := fun s => by
  rw [onceF_app, onceF_app, h s, h' _]
  congr 1
  exact onceF_congr _ fun k => by simp [h.keys k]
theorem Eqv.once (xs : List (Int × α)) : Eqv (once xs) xs := fun s => onceF_onceF xs (by simp)
theorem Eqv.eq {xs ys : List (Int × α)} (h : Eqv xs ys) : FM.once xs = FM.once ys := h []
theorem Eqv.flatMap {f g : γ → List (Int × α)} : ∀ {xs : List γ}, (∀ x ∈ xs, Eqv (f x) (g x)) → Eqv (xs.flatMap f) (xs.flatMap g)
  | [], _ => .refl _
  | x :: xs, h => by
    rw [List.flatMap_cons, List.flatMap_cons]
    exact (h x List.mem_cons_self).app (Eqv.flatMap fun y hy => h y (List.mem_cons_of_mem _ hy))
theorem Eqv.drop {xs ys : List (Int × α)} (h : ∀ k ∈ FM.keys ys, k ∈ FM.keys xs) : Eqv (xs ++ ys) xs := fun s => by
  rw [onceF_app, onceF_sub fun k hk => List.mem_append_left _ (h k hk), List.append_nil]
/-- later ones of an end add nothing, if what comes of them has the same ends -/
theorem onceF_bind {f : Int × α → List (Int × β)} (hf : ∀ x y : Int × α, x.1 = y.1 → ∀ k, k ∈ keys (f x) → k ∈ keys (f y)) : ∀ (xs : List (Int × α)) (s t : List Int), (∀ x : Int × α, x.1 ∈ t → ∀ k ∈ keys (f x), k ∈ s) → onceF s ((onceF t xs).flatMap f) = onceF s (xs.flatMap f)
  | [], _, _, _ => rfl
  | w :: ws, s, t, h => by
    by_cases ht : w.1 ∈ t
    · show onceF s ((if w.1 ∈ t then onceF t ws else w :: onceF (w.1 :: t) ws).flatMap f) = _
      rw [if_pos ht, onceF_bind hf ws s t h, List.flatMap_cons, onceF_app, onceF_sub (h w ht), List.nil_append]
      exact onceF_congr _ fun k => by
        rw [List.mem_append]
        exact ⟨.inr, fun z => z.elim (h w ht k) id⟩
    · show onceF s ((if w.1 ∈ t then onceF t ws else w :: onceF (w.1 :: t) ws).flatMap f) = _
      rw [if_neg ht, List.flatMap_cons, List.flatMap_cons, onceF_app, onceF_app, onceF_bind hf ws _ (w.1 :: t)]
      intro x hx k hk
      rw [List.mem_append]
      rcases List.mem_cons.mp hx with e | e
      · exact .inl (hf x w e k hk)
      · exact .inr (h x e k hk)
theorem Eqv.bind {f : Int × α → List (Int × β)} (hf : ∀ x y : Int × α, x.1 = y.1 → ∀ k, k ∈ FM.keys (f x) → k ∈ FM.keys (f y)) (xs : List (Int × α)) : Eqv ((FM.once xs).flatMap f) (xs.flatMap f) := fun s => onceF_bind hf xs s [] (by simp)
end

/-! ## what ways change in the groups -/
inductive Ch where
  | no
  | cl (gs : List Nat)
  | ho (g : Nat) (a b : Int)
  | bo (x y : Ch)
def clr : List Nat → Ch
  | [] => .no
  | g :: gs => .cl (g :: gs)
def both : Ch → Ch → Ch
  | .no, y => y
  | x, .no => x
  | x, y => .bo x y
section
variable {δ : Type} (pr : Int → Int → δ) (nn : δ)
/-- what the groups hold behind a change -/
def Ch.ap : Ch → List δ → List δ
  | .no, h => h
  | .cl gs, h => gs.foldl (fun h g => h.set g nn) h
  | .ho g a b, h => h.set g (pr a b)
  | .bo x y, h => y.ap (x.ap h)
theorem ap_clr (gs : List Nat) (h : List δ) : (clr gs).ap pr nn h = gs.foldl (fun h g => h.set g nn) h := by
  cases gs <;> rfl
theorem ap_both (x y : Ch) (h : List δ) : (both x y).ap pr nn h = y.ap pr nn (x.ap pr nn h) := by
  cases x <;> cases y <;> rfl
theorem foldl_set_len (nn : δ) : ∀ (gs : List Nat) (h : List δ), (gs.foldl (fun h g => h.set g nn) h).length = h.length
  | [], _ => rfl
  | g :: gs, h => by rw [List.foldl_cons, foldl_set_len nn gs, List.length_set]
theorem ap_len : ∀ (c : Ch) (h : List δ), (c.ap pr nn h).length = h.length
  | .no, _ => rfl
  | .cl gs, h => foldl_set_len nn gs h
  | .ho g a b, h => by simp [Ch.ap]
  | .bo x y, h => by rw [Ch.ap, ap_len y, ap_len x]
end

/-! ## pattern trees and their ways -/
inductive PT where
  | st (c : List (Int × Int))
  | em
  | an (nm : String)
  | sq (a b : PT)
  | ch (a b : PT)
  | rp (a : PT) (lo : Nat) (more : Option Nat) (gr : Bool)
  | gr (k : Nat) (a : PT)
  | lk (ahead pos : Bool) (a : PT)
/-- the numbers of the groups in a tree, in the order of the text -/
def PT.grs : PT → List Nat
  | .sq a b => a.grs ++ b.grs
  | .ch a b => a.grs ++ b.grs
  | .rp a _ _ _ => a.grs
  | .gr k a => k :: a.grs
  | .lk _ _ a => a.grs
  | _ => []
abbrev Ws := List (Int × Ch)
def inC (c : List (Int × Int)) (x : Int) : Bool := c.any fun p => decide (p.1 ≤ x) && decide (x < p.2)
def codeAt (cs : List Int) (i : Int) : Option Int := if 0 ≤ i then cs[i.toNat]? else none
def wordC : List (Int × Int) := [(48, 58), (65, 91), (95, 96), (97, 123)]
def lineC : List (Int × Int) := [(10, 11), (13, 14)]
def inO (c : List (Int × Int)) : Option Int → Bool
  | none => false
  | some x => inC c x
def holds (nm : String) (b a : Option Int) : Bool :=
  if nm = "text_start" then b.isNone
  else if nm = "text_end" then a.isNone
  else if nm = "line_start" then b.isNone || inO lineC b
  else if nm = "line_end" then a.isNone || inO lineC a
  else if nm = "word_boundary" then inO wordC b != inO wordC a
  else !(inO wordC b != inO wordC a)
def setW (cs : List Int) (c : List (Int × Int)) (back : Bool) (p : Int) : Ws := match codeAt cs (if back then p - 1 else p) with
  | some x => if inC c x then [(if back then p - 1 else p + 1, .no)] else []
  | none => []
def lnk (xs : Ws) (f : Int → Ws) : Ws := xs.flatMap fun w => (f w.1).map fun v => (v.1, both w.2 v.2)
def chain (xs : Ws) (f : Int → Ws) : Ws := once (lnk xs f)
def furS (gr : Bool) (p : Int) (xs : Ws) (f : Int → Ws) : Ws :=
  if gr then once (lnk (xs.filter fun w => w.1 != p) f) ++ [(p, .no)] else once ((p, .no) :: lnk (xs.filter fun w => w.1 != p) f)
def furW (A : Int → Ws) (gr : Bool) : Nat → Int → Ws
  | 0, p => [(p, .no)]
  | k + 1, p => furS gr p (A p) (furW A gr k)
def seqN (A : Int → Ws) (F : Int → Ws) : Nat → Int → Ws
  | 0 => F
  | n + 1 => fun p => chain (A p) (seqN A F n)
def iterW (gs : List Nat) (ws : Ws) : Ws := ws.map fun w => (w.1, both (clr gs) w.2)
def lookW (pos : Bool) (gs : List Nat) (p : Int) : Ws → Ws
  | [] => if pos then [] else [(p, .no)]
  | w :: _ => if pos then [(p, both (clr gs) w.2)] else []
def groupW (k : Nat) (p : Int) (ws : Ws) : Ws := ws.map fun w => (w.1, both w.2 (.ho k (min p w.1) (max p w.1)))
/-- sorted numbers of groups -/
def srtN (gs : List Nat) : List Nat := gs.mergeSort (fun a b => decide (a ≤ b))
def PT.W (cs : List Int) : PT → Bool → Int → Ws
  | .st c, back, p => setW cs c back p
  | .em, _, p => [(p, .no)]
  | .an nm, _, p => if holds nm (codeAt cs (p - 1)) (codeAt cs p) then [(p, .no)] else []
  | .sq a b, back, p => if back then chain (b.W cs back p) (a.W cs back) else chain (a.W cs back p) (b.W cs back)
  | .ch a b, back, p => once (a.W cs back p ++ b.W cs back p)
  | .rp a lo more g, back, p => seqN (fun p => iterW (srtN a.grs) (a.W cs back p)) (furW (fun p => iterW (srtN a.grs) (a.W cs back p)) g (more.getD (cs.length + 1))) lo p
  | .gr k a, back, p => groupW k p (a.W cs back p)
  | .lk ahead pos a, _, p => lookW pos (srtN a.grs) p (a.W cs (!ahead) p)
end FM
end

section
set_option linter.all false
set_option maxRecDepth 100000
namespace FM
/-! ## where ways end -/
def Rng (L : Int) (back : Bool) (p e : Int) : Prop := 0 ≤ e ∧ e ≤ L ∧ if back then e ≤ p else p ≤ e
theorem Rng.refl {L p : Int} {back : Bool} (h0 : 0 ≤ p) (h : p ≤ L) : Rng L back p p := by
  refine ⟨h0, h, ?_⟩
  cases back <;> simp
theorem Rng.trans {L p e f : Int} {back : Bool} (h : Rng L back p e) (h' : Rng L back e f) : Rng L back p f := by
  obtain ⟨a, b, c⟩ := h
  obtain ⟨a', b', c'⟩ := h'
  refine ⟨a', b', ?_⟩
  cases back <;> simp at * <;> omega
def AllR (L : Int) (back : Bool) (A : Int → Ws) : Prop := ∀ p, 0 ≤ p → p ≤ L → ∀ w ∈ A p, Rng L back p w.1
theorem AllR.lnk {L p : Int} {back : Bool} {xs : Ws} {f : Int → Ws} (hx : ∀ w ∈ xs, Rng L back p w.1) (hf : AllR L back f) : ∀ w ∈ lnk xs f, Rng L back p w.1 := by
  intro w hw
  obtain ⟨x, h1, h2⟩ := List.mem_flatMap.mp hw
  obtain ⟨v, h3, rfl⟩ := List.mem_map.mp h2
  have := hx x h1
  exact this.trans (hf _ this.1 this.2.1 v h3)
theorem AllR.furS {L p : Int} {back g : Bool} {xs : Ws} {f : Int → Ws} (h0 : 0 ≤ p) (h : p ≤ L) (hx : ∀ w ∈ xs, Rng L back p w.1) (hf : AllR L back f) : ∀ w ∈ furS g p xs f, Rng L back p w.1 := by
  intro w hw
  have hl : ∀ w ∈ FM.lnk (xs.filter fun w => w.1 != p) f, Rng L back p w.1 := AllR.lnk (fun w hw => hx w (List.mem_filter.mp hw).1) hf
  unfold FM.furS at hw
  split at hw
  · rcases List.mem_append.mp hw with h1 | h1
    · exact hl _ (mem_once h1)
    · cases List.mem_singleton.mp h1
      exact .refl h0 h
  · rcases List.mem_cons.mp (mem_once hw) with h1 | h1
    · cases h1
      exact .refl h0 h
    · exact hl _ h1
theorem AllR.furW {L : Int} {back g : Bool} {A : Int → Ws} (hA : AllR L back A) : ∀ k, AllR L back (furW A g k)
  | 0 => fun p h0 h w hw => by
    cases List.mem_singleton.mp hw
    exact .refl h0 h
  | k + 1 => fun p h0 h => AllR.furS h0 h (hA p h0 h) (AllR.furW hA k)
theorem AllR.chain {L : Int} {back : Bool} {A F : Int → Ws} (hA : AllR L back A) (hF : AllR L back F) : AllR L back fun p => chain (A p) F := fun p h0 h w hw => AllR.lnk (hA p h0 h) hF w (mem_once hw)
theorem AllR.seqN {L : Int} {back : Bool} {A F : Int → Ws} (hA : AllR L back A) (hF : AllR L back F) : ∀ n, AllR L back (seqN A F n)
  | 0 => hF
  | n + 1 => AllR.chain hA (AllR.seqN hA hF n)
theorem AllR.iterW {L : Int} {back : Bool} {A : Int → Ws} {gs : List Nat} (hA : AllR L back A) : AllR L back fun p => iterW gs (A p) := fun p h0 h w hw => by
  obtain ⟨x, h1, rfl⟩ := List.mem_map.mp hw
  exact hA p h0 h x h1
theorem codeAt_rng {cs : List Int} {i x : Int} (h : codeAt cs i = some x) : 0 ≤ i ∧ i < (cs.length : Int) := by
  unfold codeAt at h
  split at h
  · have := (List.getElem?_eq_some_iff.mp h).1
    omega
  · cases h
theorem W_rng {cs : List Int} : ∀ (T : PT) (back : Bool), AllR cs.length back (T.W cs back)
  | .st c, back => fun p h0 h w hw => by
    unfold PT.W setW at hw
    split at hw
    · rename_i x hx
      have := codeAt_rng hx
      split at hw
      · cases List.mem_singleton.mp hw
        cases back
        · simp at this
          refine ⟨?_, ?_, ?_⟩ <;> simp <;> omega
        · simp at this
          refine ⟨?_, ?_, ?_⟩ <;> simp <;> omega
      · cases hw
    · cases hw
  | .em, back => fun p h0 h w hw => by
    cases List.mem_singleton.mp hw
    exact .refl h0 h
  | .an nm, back => fun p h0 h w hw => by
    unfold PT.W at hw
    split at hw
    · cases List.mem_singleton.mp hw
      exact .refl h0 h
    · cases hw
  | .sq a b, back => fun p h0 h w hw => by
    unfold PT.W at hw
    split at hw
    · exact AllR.chain (W_rng b back) (W_rng a back) p h0 h w hw
    · exact AllR.chain (W_rng a back) (W_rng b back) p h0 h w hw
  | .ch a b, back => fun p h0 h w hw => by
    rcases List.mem_append.mp (mem_once hw) with h1 | h1
    · exact W_rng a back p h0 h w h1
    · exact W_rng b back p h0 h w h1
  | .rp a lo more g, back => AllR.seqN (AllR.iterW (W_rng a back)) (AllR.furW (AllR.iterW (W_rng a back)) _) lo
  | .gr k a, back => fun p h0 h w hw => by
    obtain ⟨x, h1, rfl⟩ := List.mem_map.mp hw
    exact W_rng a back p h0 h x h1
  | .lk ahead pos a, back => fun p h0 h w hw => by
    have : w.1 = p := by
      unfold PT.W at hw
      cases hx : a.W cs (!ahead) p with
      | nil =>
        rw [hx] at hw
        cases pos <;> simp [lookW] at hw
        rw [hw]
      | cons x xs =>
        rw [hx] at hw
        cases pos <;> simp [lookW] at hw
        rw [hw]
    rw [this]
    exact .refl h0 h
/-! ## each end once -/
def AllN (L : Int) (A : Int → Ws) : Prop := ∀ p, 0 ≤ p → p ≤ L → (keys (A p)).Nodup
theorem lnk_ne {L p : Int} {back : Bool} {xs : Ws} {f : Int → Ws} (hx : ∀ w ∈ xs, Rng L back p w.1) (hf : AllR L back f) : p ∉ keys (lnk (xs.filter fun w => w.1 != p) f) := fun h => by
  obtain ⟨w, hw, e⟩ := mem_keys.mp h
  obtain ⟨x, h1, h2⟩ := List.mem_flatMap.mp hw
  obtain ⟨v, h3, rfl⟩ := List.mem_map.mp h2
  obtain ⟨h4, h5⟩ := List.mem_filter.mp h1
  have r := hx x h4
  have r2 := (hf _ r.1 r.2.1 v h3).2.2
  have r3 := r.2.2
  have h5 : x.1 ≠ p := by simpa using h5
  have e : v.1 = p := e
  cases back <;> simp at r2 r3 <;> omega
theorem furS_nodup {L p : Int} {back g : Bool} {xs : Ws} {f : Int → Ws} (hx : ∀ w ∈ xs, Rng L back p w.1) (hf : AllR L back f) : (keys (furS g p xs f)).Nodup := by
  unfold furS
  split
  · rw [keys_app, List.nodup_append]
    refine ⟨once_nodup _, by simp [keys], fun a ha b hb e => ?_⟩
    simp [keys] at hb
    subst e hb
    exact lnk_ne hx hf (keys_once.mp ha)
  · exact once_nodup _
theorem furW_nodup {L : Int} {back g : Bool} {A : Int → Ws} (hA : AllR L back A) : ∀ k, AllN L (furW A g k)
  | 0 => fun p _ _ => by simp [furW, keys]
  | k + 1 => fun p h0 h => furS_nodup (hA p h0 h) (AllR.furW hA k)
theorem keys_iterW (gs : List Nat) (ws : Ws) : keys (iterW gs ws) = keys ws := by simp [keys, iterW]
theorem keys_groupW (k : Nat) (p : Int) (ws : Ws) : keys (groupW k p ws) = keys ws := by simp [keys, groupW]
theorem W_nodup {cs : List Int} : ∀ (T : PT) (back : Bool), AllN cs.length (T.W cs back)
  | .st c, back => fun p h0 h => by
    unfold PT.W setW
    split
    · split <;> simp [keys]
    · simp [keys]
  | .em, back => fun p h0 h => by simp [PT.W, keys]
  | .an nm, back => fun p h0 h => by
    unfold PT.W
    split <;> simp [keys]
  | .sq a b, back => fun p h0 h => by
    unfold PT.W
    split <;> exact once_nodup _
  | .ch a b, back => fun p h0 h => once_nodup _
  | .rp a lo more g, back => fun p h0 h => by
    unfold PT.W
    cases lo with
    | zero => exact furW_nodup (AllR.iterW (W_rng a back)) _ p h0 h
    | succ lo => exact once_nodup _
  | .gr k a, back => fun p h0 h => by
    unfold PT.W
    rw [keys_groupW]
    exact W_nodup a back p h0 h
  | .lk ahead pos a, back => fun p h0 h => by
    unfold PT.W
    cases a.W cs (!ahead) p <;> cases pos <;> simp [lookW, keys]
/-! ## as many further iterations as there is room for -/
def dist (L : Int) (back : Bool) (p : Int) : Int := if back then p else L - p
theorem dist_lt {L p e : Int} {back : Bool} (h : Rng L back p e) (hn : e ≠ p) : dist L back e < dist L back p := by
  have := h.2.2
  unfold dist
  cases back <;> simp at * <;> omega
theorem dist_nn {L p : Int} {back : Bool} (h0 : 0 ≤ p) (h : p ≤ L) : 0 ≤ dist L back p := by
  unfold dist
  cases back <;> simp <;> omega
theorem lnk_congr {xs : Ws} {f f' : Int → Ws} (h : ∀ w ∈ xs, f w.1 = f' w.1) : lnk xs f = lnk xs f' := by
  unfold lnk
  induction xs with
  | nil => rfl
  | cons w xs ih =>
    rw [List.flatMap_cons, List.flatMap_cons, h w List.mem_cons_self, ih fun w' hw => h w' (List.mem_cons_of_mem _ hw)]
theorem furS_congr {g : Bool} {p : Int} {xs : Ws} {f f' : Int → Ws} (h : ∀ w ∈ xs, w.1 ≠ p → f w.1 = f' w.1) : furS g p xs f = furS g p xs f' := by
  unfold furS
  rw [lnk_congr (f := f) (f' := f') fun w hw => h w (List.mem_filter.mp hw).1 (by simpa using (List.mem_filter.mp hw).2)]
theorem furS_none {g : Bool} {p : Int} {xs : Ws} {f : Int → Ws} (h : ∀ w ∈ xs, w.1 = p) : furS g p xs f = [(p, .no)] := by
  have e : (xs.filter fun w => w.1 != p) = [] := List.filter_eq_nil_iff.mpr fun w hw => by simp [h w hw]
  unfold furS
  rw [e]
  cases g <;> rfl
theorem furW_stab {L : Int} {back g : Bool} {A : Int → Ws} (hA : AllR L back A) : ∀ (d : Nat) (p : Int), 0 ≤ p → p ≤ L → dist L back p ≤ d → ∀ k, d ≤ k → furW A g k p = furW A g d p
  | 0, p, h0, h, hd, k, hk => by
    cases k with
    | zero => rfl
    | succ k =>
      refine furS_none fun w hw => ?_
      by_cases e : w.1 = p
      · exact e
      · have r := hA p h0 h w hw
        have := dist_lt r e
        have := dist_nn (back := back) r.1 r.2.1
        omega
  | d + 1, p, h0, h, hd, k, hk => by
    cases k with
    | zero => omega
    | succ k =>
      refine furS_congr fun w hw e => ?_
      have r := hA p h0 h w hw
      have := dist_lt r e
      have := dist_nn (back := back) r.1 r.2.1
      exact furW_stab hA d w.1 r.1 r.2.1 (by omega) k (by omega)
/-- further iterations: how many are left, -1 if there is no bound -/
def fur (L : Nat) (A : Int → Ws) (g : Bool) (left : Int) (p : Int) : Ws := furW A g (if left < 0 then L + 1 else left.toNat) p
theorem fur_zero {L : Nat} {A : Int → Ws} {g : Bool} {p : Int} : fur L A g 0 p = [(p, .no)] := rfl
theorem fur_step {L : Nat} {A : Int → Ws} {g back : Bool} {left p : Int} (hA : AllR L back A) (h0 : 0 ≤ p) (h : p ≤ L) (hl : left ≠ 0) (hl2 : -1 ≤ left) : fur L A g left p = furS g p (A p) (fur L A g (max (left - 1) (-1))) := by
  unfold fur
  by_cases hn : left < 0
  · rw [if_pos hn]
    refine furS_congr fun w hw e => ?_
    rw [if_pos (by omega)]
    have r := hA p h0 h w hw
    have := dist_lt r e
    have hd : dist (L : Int) back p ≤ L := by
      unfold dist
      cases back <;> simp <;> omega
    have := dist_nn (back := back) r.1 r.2.1
    rw [furW_stab hA L w.1 r.1 r.2.1 (by omega) (L + 1) (by omega)]
  · rw [if_neg hn]
    obtain ⟨k, rfl⟩ : ∃ k : Nat, left = ((k + 1 : Nat) : Int) := ⟨(left - 1).toNat, by omega⟩
    have e : max (((k + 1 : Nat) : Int) - 1) (-1) = (k : Int) := by omega
    rw [e, if_neg (by omega)]
    rfl
/-! ## with what the groups hold -/
section
variable {δ : Type} (pr : Int → Int → δ) (nn : δ)
abbrev Gw (δ : Type) := Int × List δ
def wg (ws : Ws) (h : List δ) : List (Gw δ) := ws.map fun w => (w.1, w.2.ap pr nn h)
theorem keys_wg (ws : Ws) (h : List δ) : keys (wg pr nn ws h) = keys ws := by simp [keys, wg]
def blk (gs : List Nat) (h : List δ) : List δ := gs.foldl (fun h g => h.set g nn) h
theorem wg_once (ws : Ws) (h : List δ) : wg pr nn (once ws) h = once (wg pr nn ws h) := (once_map (h := fun w : Int × Ch => (w.1, w.2.ap pr nn h)) (fun _ => rfl) ws).symm
theorem wg_lnk (xs : Ws) (f : Int → Ws) (h : List δ) : wg pr nn (lnk xs f) h = (wg pr nn xs h).flatMap fun w => wg pr nn (f w.1) w.2 := by
  unfold wg lnk
  rw [List.map_flatMap, List.flatMap_map]
  congr 1
  funext w
  rw [List.map_map]
  refine List.map_congr_left fun v _ => ?_
  simp [ap_both]
theorem wg_iter (gs : List Nat) (ws : Ws) (h : List δ) : wg pr nn (iterW gs ws) h = wg pr nn ws (blk nn gs h) := by
  unfold wg iterW
  rw [List.map_map]
  refine List.map_congr_left fun v _ => ?_
  simp [ap_both, ap_clr, blk]
theorem wg_filter (ws : Ws) (h : List δ) (p : Int) : wg pr nn (ws.filter fun w => w.1 != p) h = (wg pr nn ws h).filter fun w => w.1 != p := by
  unfold wg
  rw [List.filter_map]
  rfl
/-- the ways of a tree from some ways -/
def SP (cs : List Int) (T : PT) (back : Bool) (starts : List (Gw δ)) : List (Gw δ) := once (starts.flatMap fun w => wg pr nn (T.W cs back w.1) w.2)
theorem wg_keys_dep (F : Int → Ws) : ∀ x y : Gw δ, x.1 = y.1 → ∀ k, k ∈ keys (wg pr nn (F x.1) x.2) → k ∈ keys (wg pr nn (F y.1) y.2) := fun x y e k => by
  rw [keys_wg, keys_wg, e]
  exact id
theorem SP_two {cs : List Int} {a b : PT} {T : PT} {back : Bool} (hT : ∀ p, T.W cs back p = chain (a.W cs back p) (b.W cs back)) (starts : List (Gw δ)) : SP pr nn cs b back (SP pr nn cs a back starts) = SP pr nn cs T back starts := by
  unfold SP
  rw [((Eqv.bind (wg_keys_dep pr nn (b.W cs back)) _)).eq, List.flatMap_assoc]
  refine (Eqv.flatMap fun w _ => ?_).eq
  rw [hT]
  unfold chain
  rw [wg_once, wg_lnk]
  exact (Eqv.once _).symm
theorem SP_one {cs : List Int} {T : PT} {back : Bool} {p : Int} {h : List δ} (h0 : 0 ≤ p) (hp : p ≤ cs.length) : SP pr nn cs T back [(p, h)] = wg pr nn (T.W cs back p) h := by
  unfold SP
  simp only [List.flatMap_cons, List.flatMap_nil, List.append_nil]
  refine once_id ?_
  rw [keys_wg]
  exact W_nodup T back p h0 hp
/-! ## the walk through the further iterations -/
def visit (A : Int → Ws) (g : Bool) : Nat → Int → Gw δ → List (Int × Int) × List (Gw δ) → List (Int × Int) × List (Gw δ)
  | 0, _, _, sf => sf
  | n + 1, left, w, (seen, found) =>
    if (w.1, left) ∈ seen then (seen, found)
    else
      let r := if left ≠ 0 then (wg pr nn (A w.1) w.2).foldl (fun sf one => if one.1 ≠ w.1 then visit A g n (max (left - 1) (-1)) one sf else sf) (seen ++ [(w.1, left)], if g then found else found ++ [w])
        else (seen ++ [(w.1, left)], if g then found else found ++ [w])
      (r.1, if g then r.2 ++ [w] else r.2)
variable {L : Nat} {A : Int → Ws} {g back : Bool}
def Full (L : Nat) (A : Int → Ws) (g : Bool) (found : List (Gw δ)) (q : Int × Int) : Prop := ∀ k ∈ keys (fur L A g q.2 q.1), k ∈ keys found
theorem Full.mono {f f' : List (Gw δ)} {q : Int × Int} (h : ∀ k ∈ keys f, k ∈ keys f') (hf : Full L A g f q) : Full L A g f' q := fun k hk => h k (hf k hk)
theorem visit_ok (hA : AllR L back A) : ∀ (n : Nat) (left : Int) (w : Gw δ) (seen : List (Int × Int)) (found : List (Gw δ)), 0 ≤ w.1 → w.1 ≤ L → dist L back w.1 < n → -1 ≤ left →
    (∀ q ∈ seen, dist L back w.1 < dist L back q.1 ∨ Full L A g found q) →
    Eqv (visit pr nn A g n left w (seen, found)).2 (found ++ wg pr nn (fur L A g left w.1) w.2) ∧ ∀ q ∈ (visit pr nn A g n left w (seen, found)).1, q ∈ seen ∨ Full L A g (visit pr nn A g n left w (seen, found)).2 q
  | 0, left, w, seen, found, h0, h, hd, _, _ => by
    have := dist_nn (back := back) h0 h
    omega
  | n + 1, left, w, seen, found, h0, h, hd, hl, hi => by
    unfold visit
    by_cases hs : (w.1, left) ∈ seen
    · rw [if_pos hs]
      refine ⟨(Eqv.drop fun k hk => ?_).symm, fun q hq => .inl hq⟩
      rw [keys_wg] at hk
      rcases hi _ hs with h1 | h1
      · exact absurd h1 (by simp)
      · exact h1 k hk
    · rw [if_neg hs]
      obtain ⟨f1, hf1⟩ : ∃ f1, f1 = if g then found else found ++ [w] := ⟨_, rfl⟩
      have kf1 : ∀ k ∈ keys found, k ∈ keys f1 := fun k hk => by
        rw [hf1]
        split
        · exact hk
        · rw [keys_app]; exact List.mem_append_left _ hk
      rw [← hf1]
      by_cases hz : left = 0
      · subst hz
        rw [if_neg (by simp)]
        refine ⟨?_, fun q hq => ?_⟩
        · show Eqv (if g then f1 ++ [w] else f1) _
          rw [hf1, fur_zero]
          cases g <;> exact .refl _
        · have hk : ∀ k ∈ keys f1, k ∈ keys (if g then f1 ++ [w] else f1) := fun k hk => by
            split
            · rw [keys_app]; exact List.mem_append_left _ hk
            · exact hk
          rcases List.mem_append.mp hq with h1 | h1
          · exact .inl h1
          · cases List.mem_singleton.mp h1
            refine .inr fun k hk => ?_
            rw [fur_zero] at hk
            have : k = w.1 := by simpa [keys] using hk
            subst this
            show w.1 ∈ keys (if g then f1 ++ [w] else f1)
            rw [hf1]
            cases g <;> simp
      · rw [if_pos hz]
        -- the loop
        have loop : ∀ (ys : List (Gw δ)) (s : List (Int × Int)) (f : List (Gw δ)), (∀ y ∈ ys, Rng L back w.1 y.1) → (∀ q ∈ s, q = (w.1, left) ∨ dist L back w.1 < dist L back q.1 ∨ Full L A g f q) →
            Eqv (ys.foldl (fun sf one => if one.1 ≠ w.1 then visit pr nn A g n (max (left - 1) (-1)) one sf else sf) (s, f)).2 (f ++ (ys.filter fun y => y.1 != w.1).flatMap fun y => wg pr nn (fur L A g (max (left - 1) (-1)) y.1) y.2) ∧
            ∀ q ∈ (ys.foldl (fun sf one => if one.1 ≠ w.1 then visit pr nn A g n (max (left - 1) (-1)) one sf else sf) (s, f)).1, q ∈ s ∨ Full L A g (ys.foldl (fun sf one => if one.1 ≠ w.1 then visit pr nn A g n (max (left - 1) (-1)) one sf else sf) (s, f)).2 q := by
          intro ys
          induction ys with
          | nil => exact fun s f _ _ => ⟨by simp; exact .refl _, fun q hq => .inl hq⟩
          | cons y ys ih =>
            intro s f hy hI
            rw [List.foldl_cons]
            by_cases hyw : y.1 = w.1
            · rw [if_neg (by simp [hyw]), List.filter_cons, if_neg (by simp [hyw])]
              exact ih s f (fun y' h' => hy y' (List.mem_cons_of_mem _ h')) hI
            · rw [if_pos hyw, List.filter_cons, if_pos (by simp [hyw]), List.flatMap_cons]
              have ry := hy y List.mem_cons_self
              have dl := dist_lt ry hyw
              obtain ⟨v1, v2⟩ := visit_ok hA n (max (left - 1) (-1)) y s f ry.1 ry.2.1 (by omega) (by omega) fun q hq => by
                rcases hI q hq with e | e | e
                · exact .inl (by rw [e]; exact dl)
                · exact .inl (by omega)
                · exact .inr e
              generalize hv : visit pr nn A g n (max (left - 1) (-1)) y (s, f) = sf at v1 v2 ⊢
              obtain ⟨s', f'⟩ := sf
              have kk : ∀ k ∈ keys f, k ∈ keys f' := fun k hk => (v1.keys k).mpr (by rw [keys_app]; exact List.mem_append_left _ hk)
              obtain ⟨i1, i2⟩ := ih s' f' (fun y' h' => hy y' (List.mem_cons_of_mem _ h')) fun q hq => by
                rcases v2 q hq with e | e
                · rcases hI q e with e | e | e
                  · exact .inl e
                  · exact .inr (.inl e)
                  · exact .inr (.inr (e.mono kk))
                · exact .inr (.inr e)
              refine ⟨i1.trans ?_, fun q hq => ?_⟩
              · rw [← List.append_assoc]
                exact v1.app (.refl _)
              · rcases i2 q hq with e | e
                · rcases v2 q e with e | e
                  · exact .inl e
                  · exact .inr (e.mono fun k hk => (i1.keys k).mpr (by rw [keys_app]; exact List.mem_append_left _ hk))
                · exact .inr e
        have hys : ∀ y ∈ wg pr nn (A w.1) w.2, Rng L back w.1 y.1 := fun y hy => by
          obtain ⟨x, hx, rfl⟩ := List.mem_map.mp hy
          exact hA _ h0 h x hx
        obtain ⟨l1, l2⟩ := loop (wg pr nn (A w.1) w.2) (seen ++ [(w.1, left)]) f1 hys fun q hq => by
          rcases List.mem_append.mp hq with e | e
          · rcases hi q e with e | e
            · exact .inr (.inl e)
            · exact .inr (.inr (e.mono kf1))
          · exact .inl (List.mem_singleton.mp e)
        generalize (wg pr nn (A w.1) w.2).foldl (fun sf one => if one.1 ≠ w.1 then visit pr nn A g n (max (left - 1) (-1)) one sf else sf) (seen ++ [(w.1, left)], f1) = sf at l1 l2 ⊢
        obtain ⟨s2, f2⟩ := sf
        simp only at l1 l2 ⊢
        rw [← wg_filter] at l1
        rw [← wg_lnk pr nn] at l1
        have main : Eqv (if g then f2 ++ [w] else f2) (found ++ wg pr nn (fur L A g left w.1) w.2) := by
          rw [fur_step hA h0 h hz hl]
          unfold furS
          cases g with
          | true =>
            rw [if_pos rfl, if_pos rfl]
            rw [if_pos rfl] at hf1
            subst hf1
            have e : wg pr nn (once (lnk ((A w.1).filter fun w_1 => w_1.1 != w.1) (fur L A true (max (left - 1) (-1)))) ++ [(w.1, Ch.no)]) w.2 = once (wg pr nn (lnk ((A w.1).filter fun w_1 => w_1.1 != w.1) (fur L A true (max (left - 1) (-1)))) w.2) ++ [w] := by
              rw [← wg_once]
              simp [wg, Ch.ap]
            rw [e, ← List.append_assoc]
            exact (l1.trans ((Eqv.refl _).app (Eqv.once _).symm)).app (.refl _)
          | false =>
            rw [if_neg (by simp), if_neg (by simp)]
            rw [if_neg (by simp)] at hf1
            subst hf1
            rw [wg_once]
            have e : wg pr nn ((w.1, Ch.no) :: lnk ((A w.1).filter fun w_1 => w_1.1 != w.1) (fur L A false (max (left - 1) (-1)))) w.2 = w :: wg pr nn (lnk ((A w.1).filter fun w_1 => w_1.1 != w.1) (fur L A false (max (left - 1) (-1)))) w.2 := by
              simp [wg, Ch.ap]
            rw [e]
            refine l1.trans ?_
            rw [List.append_assoc]
            exact (Eqv.refl _).app (Eqv.once _).symm
        refine ⟨main, fun q hq => ?_⟩
        have k2 : ∀ k ∈ keys f2, k ∈ keys (if g then f2 ++ [w] else f2) := fun k hk => by
          split
          · rw [keys_app]; exact List.mem_append_left _ hk
          · exact hk
        rcases l2 q hq with e | e
        · rcases List.mem_append.mp e with e | e
          · exact .inl e
          · cases List.mem_singleton.mp e
            refine .inr fun k hk => (main.keys k).mpr ?_
            rw [keys_app, keys_wg]
            exact List.mem_append_right _ hk
        · exact .inr (e.mono k2)
/-- several visits, one behind another -/
theorem visits_ok (hA : AllR L back A) (n : Nat) (left : Int) (hl : -1 ≤ left) (hn : L < n) : ∀ (ws : List (Gw δ)) (s : List (Int × Int)) (f : List (Gw δ)), (∀ w ∈ ws, 0 ≤ w.1 ∧ w.1 ≤ L) → (∀ q ∈ s, Full L A g f q) →
    Eqv (ws.foldl (fun sf w => visit pr nn A g n left w sf) (s, f)).2 (f ++ ws.flatMap fun w => wg pr nn (fur L A g left w.1) w.2)
  | [], s, f, _, _ => by simp; exact .refl _
  | w :: ws, s, f, hw, hs => by
    have hw0 := hw w List.mem_cons_self
    have hd : dist (L : Int) back w.1 < n := by
      unfold dist
      cases back <;> simp <;> omega
    obtain ⟨v1, v2⟩ := visit_ok pr nn hA n left w s f hw0.1 hw0.2 hd hl fun q hq => .inr (hs q hq)
    rw [List.foldl_cons, List.flatMap_cons]
    generalize visit pr nn A g n left w (s, f) = sf at v1 v2 ⊢
    obtain ⟨s', f'⟩ := sf
    have i := visits_ok hA n left hl hn ws s' f' (fun y hy => hw y (List.mem_cons_of_mem _ hy)) fun q hq => by
      rcases v2 q hq with e | e
      · exact (hs q e).mono fun k hk => (v1.keys k).mpr (by rw [keys_app]; exact List.mem_append_left _ hk)
      · exact e
    rw [← List.append_assoc]
    exact i.trans (v1.app (.refl _))
/-- the least number of iterations, one behind another -/
def runs (A : Int → Ws) : Nat → List (Gw δ) → List (Gw δ)
  | 0, X => X
  | n + 1, X => runs A n (once (X.flatMap fun w => wg pr nn (A w.1) w.2))
theorem runs_ok (A F : Int → Ws) : ∀ (n : Nat) (X : List (Gw δ)), Eqv ((runs pr nn A n X).flatMap fun w => wg pr nn (F w.1) w.2) (X.flatMap fun w => wg pr nn (seqN A F n w.1) w.2)
  | 0, X => .refl _
  | n + 1, X => by
    refine (runs_ok A F n _).trans ((Eqv.bind (wg_keys_dep pr nn (seqN A F n)) _).trans ?_)
    rw [List.flatMap_assoc]
    refine Eqv.flatMap fun w _ => ?_
    show Eqv _ (wg pr nn (chain (A w.1) (seqN A F n)) w.2)
    unfold chain
    rw [wg_once, wg_lnk]
    exact (Eqv.once _).symm
theorem runs_rng {X : List (Gw δ)} (hA : AllR L back A) : ∀ (n : Nat) (X : List (Gw δ)), (∀ w ∈ X, 0 ≤ w.1 ∧ w.1 ≤ L) → ∀ w ∈ runs pr nn A n X, 0 ≤ w.1 ∧ w.1 ≤ L
  | 0, X, h => h
  | n + 1, X, h => runs_rng (X := X) hA n _ fun w hw => by
    obtain ⟨x, h1, h2⟩ := List.mem_flatMap.mp (mem_once hw)
    obtain ⟨v, h3, rfl⟩ := List.mem_map.mp h2
    have r := hA _ (h x h1).1 (h x h1).2 v h3
    exact ⟨r.1, r.2.1⟩
end
end FM
end

section
set_option linter.all false
set_option maxRecDepth 100000
namespace FM
/-! ## plans -/
inductive Rw where
  | st (c : List (Int × Int)) (back : Bool)
  | em
  | an (nm : String)
  | ss (a b : Nat)
  | cc (a b : Nat)
  | it (gs : List Nat) (i : Nat)
  | fu (a b : Nat) (g : Bool)
  | gp (k i : Nat)
  | lo (pos : Bool) (gs : List Nat) (i : Nat)
/-- rows of further iterations: a the iteration's row, o where they begin -/
def furR (a o : Nat) (g : Bool) : Nat → List Rw
  | 0 => [.em]
  | k + 1 => furR a o g k ++ [.fu a (o + k) g]
def seqR (a o : Nat) : Nat → List Rw
  | 0 => []
  | k + 1 => seqR a o k ++ [.ss a (o + k)]
theorem furR_len (a o : Nat) (g : Bool) : ∀ k, (furR a o g k).length = k + 1
  | 0 => rfl
  | k + 1 => by simp [furR, furR_len a o g k]
theorem seqR_len (a o : Nat) : ∀ k, (seqR a o k).length = k
  | 0 => rfl
  | k + 1 => by simp [seqR, seqR_len a o k]
/-- behind the iteration's row a -/
def repR (a : Nat) (g : Bool) (more : Option Nat) (lo : Nat) : List Rw := match more with
  | none => .fu a (a + 1) g :: seqR a (a + 1) lo
  | some k => furR a (a + 1) g k ++ seqR a (a + 1 + k) lo
theorem repR_len (a : Nat) (g : Bool) (more : Option Nat) (lo : Nat) : (repR a g more lo).length = more.getD 0 + 1 + lo := by
  cases more with
  | none => simp [repR, seqR_len]; omega
  | some k => simp [repR, seqR_len, furR_len]
def PT.plan : PT → Bool → Nat → List Rw
  | .st c, back, _ => [.st c back]
  | .em, _, _ => [.em]
  | .an nm, _, _ => [.an nm]
  | .sq a b, back, o => a.plan back o ++ b.plan back (o + (a.plan back o).length) ++ [if back then .ss (o + (a.plan back o).length + (b.plan back (o + (a.plan back o).length)).length - 1) (o + (a.plan back o).length - 1) else .ss (o + (a.plan back o).length - 1) (o + (a.plan back o).length + (b.plan back (o + (a.plan back o).length)).length - 1)]
  | .ch a b, back, o => a.plan back o ++ b.plan back (o + (a.plan back o).length) ++ [.cc (o + (a.plan back o).length - 1) (o + (a.plan back o).length + (b.plan back (o + (a.plan back o).length)).length - 1)]
  | .rp a lo more g, back, o => a.plan back o ++ [.it (srtN a.grs) (o + (a.plan back o).length - 1)] ++ repR (o + (a.plan back o).length) g more lo
  | .gr k a, back, o => a.plan back o ++ [.gp k (o + (a.plan back o).length - 1)]
  | .lk ahead pos a, _, o => a.plan (!ahead) o ++ [.lo pos (srtN a.grs) (o + (a.plan (!ahead) o).length - 1)]
theorem plan_pos : ∀ (T : PT) (back : Bool) (o : Nat), 0 < (T.plan back o).length := by
  intro T back o
  cases T <;> simp [PT.plan] <;> omega
/-! ## what solves a goal -/
def InL (cs : List Int) (p : Int) : Prop := 0 ≤ p ∧ p ≤ cs.length
inductive Sol (R : List Rw) (cs : List Int) : Nat → Nat → Int → Ws → Prop where
  | st {n i : Nat} {p : Int} {c : List (Int × Int)} {b : Bool} (hp : InL cs p) (h : R[i]? = some (.st c b)) : Sol R cs (n + 1) i p (setW cs c b p)
  | em {n i : Nat} {p : Int} (hp : InL cs p) (h : R[i]? = some .em) : Sol R cs (n + 1) i p [(p, .no)]
  | an {n i : Nat} {p : Int} {nm : String} (hp : InL cs p) (h : R[i]? = some (.an nm)) : Sol R cs (n + 1) i p (if holds nm (codeAt cs (p - 1)) (codeAt cs p) then [(p, .no)] else [])
  | ss {n i a b : Nat} {p : Int} {xs : Ws} {f : Int → Ws} (hp : InL cs p) (h : R[i]? = some (.ss a b)) (h1 : Sol R cs n a p xs) (h2 : ∀ w ∈ xs, Sol R cs n b w.1 (f w.1)) (hl : xs.length ≤ cs.length + 1) : Sol R cs (n + 1) i p (chain xs f)
  | fu {n i a b : Nat} {p : Int} {g : Bool} {xs : Ws} {f : Int → Ws} (hp : InL cs p) (h : R[i]? = some (.fu a b g)) (h1 : Sol R cs n a p xs) (h2 : ∀ w ∈ xs, w.1 ≠ p → Sol R cs n b w.1 (f w.1)) (hl : xs.length ≤ cs.length + 1) (hn : p ∉ keys (lnk (xs.filter fun w => w.1 != p) f)) : Sol R cs (n + 1) i p (furS g p xs f)
  | cc {n i a b : Nat} {p : Int} {xs ys : Ws} (hp : InL cs p) (h : R[i]? = some (.cc a b)) (h1 : Sol R cs n a p xs) (h2 : Sol R cs n b p ys) : Sol R cs (n + 1) i p (once (xs ++ ys))
  | it {n i a : Nat} {p : Int} {gs : List Nat} {xs : Ws} (hp : InL cs p) (h : R[i]? = some (.it gs a)) (h1 : Sol R cs n a p xs) : Sol R cs (n + 1) i p (iterW gs xs)
  | gp {n i k a : Nat} {p : Int} {xs : Ws} (hp : InL cs p) (h : R[i]? = some (.gp k a)) (h1 : Sol R cs n a p xs) : Sol R cs (n + 1) i p (groupW k p xs)
  | lo {n i a : Nat} {p : Int} {pos : Bool} {gs : List Nat} {xs : Ws} (hp : InL cs p) (h : R[i]? = some (.lo pos gs a)) (h1 : Sol R cs n a p xs) : Sol R cs (n + 1) i p (lookW pos gs p xs)
theorem Sol.up {R : List Rw} {cs : List Int} {n i : Nat} {p : Int} {ws : Ws} (h : Sol R cs n i p ws) : ∀ m, n ≤ m → Sol R cs m i p ws := by
  induction h with
  | st hp h => intro m hm; cases m with
    | zero => omega
    | succ m => exact .st hp h
  | em hp h => intro m hm; cases m with
    | zero => omega
    | succ m => exact .em hp h
  | an hp h => intro m hm; cases m with
    | zero => omega
    | succ m => exact .an hp h
  | ss hp h h1 h2 hl i1 i2 => intro m hm; cases m with
    | zero => omega
    | succ m => exact .ss hp h (i1 m (by omega)) (fun w hw => i2 w hw m (by omega)) hl
  | fu hp h h1 h2 hl hn i1 i2 => intro m hm; cases m with
    | zero => omega
    | succ m => exact .fu hp h (i1 m (by omega)) (fun w hw e => i2 w hw e m (by omega)) hl hn
  | cc hp h h1 h2 i1 i2 => intro m hm; cases m with
    | zero => omega
    | succ m => exact .cc hp h (i1 m (by omega)) (i2 m (by omega))
  | it hp h h1 i1 => intro m hm; cases m with
    | zero => omega
    | succ m => exact .it hp h (i1 m (by omega))
  | gp hp h h1 i1 => intro m hm; cases m with
    | zero => omega
    | succ m => exact .gp hp h (i1 m (by omega))
  | lo hp h h1 i1 => intro m hm; cases m with
    | zero => omega
    | succ m => exact .lo hp h (i1 m (by omega))
theorem Sol.rng {R : List Rw} {cs : List Int} {n i : Nat} {p : Int} {ws : Ws} (h : Sol R cs n i p ws) : InL cs p := by cases h <;> assumption
theorem Sol.row {R : List Rw} {cs : List Int} {n i : Nat} {p : Int} {ws : Ws} (h : Sol R cs n i p ws) : i < R.length := by
  cases h <;> (rename_i h; exact (List.getElem?_eq_some_iff.mp (by assumption)).1)
/-! ## not too many ends -/
theorem nodup_len : ∀ (N : Nat) (l : List Nat), l.Nodup → (∀ k ∈ l, k < N) → l.length ≤ N
  | 0, [], _, _ => Nat.le_refl _
  | 0, k :: l, _, h => absurd (h k List.mem_cons_self) (by omega)
  | N + 1, l, hn, h => by
    have h1 := nodup_len N (l.filter fun k => k != N) (hn.filter _) fun k hk => by
      obtain ⟨a, b⟩ := List.mem_filter.mp hk
      have := h k a
      have : k ≠ N := by simpa using b
      omega
    have h2 : l.length ≤ (l.filter fun k => k != N).length + 1 := by
      clear h1 h
      induction l with
      | nil => simp
      | cons a l ih =>
        rw [List.nodup_cons] at hn
        by_cases e : a = N
        · subst e
          have : (l.filter fun k => k != a) = l := List.filter_eq_self.mpr fun k hk => by
            have : k ≠ a := fun z => hn.1 (z ▸ hk)
            simpa using this
          rw [List.filter_cons, if_neg (by simp), this, List.length_cons]
          exact Nat.le_refl _
        · rw [List.filter_cons, if_pos (by simpa using e), List.length_cons, List.length_cons]
          have := ih hn.2
          omega
    omega
theorem ends_len {ws : Ws} {L : Nat} (hn : (keys ws).Nodup) (h : ∀ w ∈ ws, 0 ≤ w.1 ∧ w.1 ≤ L) : ws.length ≤ L + 1 := by
  have h1 : ((keys ws).map Int.toNat).Nodup := by
    refine List.pairwise_map.mpr (List.Pairwise.imp_of_mem ?_ hn)
    intro a b ha hb hab e
    obtain ⟨x, hx, rfl⟩ := mem_keys.mp ha
    obtain ⟨y, hy, rfl⟩ := mem_keys.mp hb
    have := h x hx
    have := h y hy
    exact hab (by omega)
  have := nodup_len (L + 1) _ h1 fun k hk => by
    obtain ⟨a, ha, rfl⟩ := List.mem_map.mp hk
    obtain ⟨x, hx, rfl⟩ := mem_keys.mp ha
    have := h x hx
    omega
  simpa [keys] using this
/-! ## a plan solves its tree -/
def PT.hgt (L : Nat) : PT → Nat
  | .sq a b => max (a.hgt L) (b.hgt L) + 1
  | .ch a b => max (a.hgt L) (b.hgt L) + 1
  | .rp a lo more _ => a.hgt L + 1 + (more.getD (L + 1) + 1) + lo
  | .gr _ a => a.hgt L + 1
  | .lk _ _ a => a.hgt L + 1
  | _ => 1
section
variable {R : List Rw} {cs : List Int}
theorem fur_sol {back g : Bool} {A : Int → Ws} {a o h : Nat} (hA : AllR cs.length back A) (hN : AllN cs.length A) (hs : ∀ p, InL cs p → Sol R cs h a p (A p)) : ∀ k, (∀ j, j < k + 1 → R[o + j]? = (furR a o g k)[j]?) → ∀ p, InL cs p → Sol R cs (h + k + 1) (o + k) p (furW A g k p)
  | 0, hr, p, hp => .em hp (hr 0 (by omega))
  | k + 1, hr, p, hp => by
    have hr' : R[o + (k + 1)]? = some (.fu a (o + k) g) := by
      rw [hr (k + 1) (by omega)]
      unfold furR
      rw [List.getElem?_append_right (by rw [furR_len]; omega), furR_len]
      simp
    have ih := fur_sol (g := g) hA hN hs k fun j hj => by
      rw [hr j (by omega)]
      show (furR a o g k ++ _)[j]? = _
      rw [List.getElem?_append_left (by rw [furR_len]; omega)]
    have hx := hA p hp.1 hp.2
    exact .fu hp hr' ((hs p hp).up _ (by omega)) (fun w hw _ => (ih w.1 ⟨(hx w hw).1, (hx w hw).2.1⟩).up _ (by omega)) (ends_len (hN p hp.1 hp.2) fun w hw => ⟨(hx w hw).1, (hx w hw).2.1⟩) (lnk_ne hx (AllR.furW hA k))
theorem furI_sol {back g : Bool} {A : Int → Ws} {a i h : Nat} (hA : AllR cs.length back A) (hN : AllN cs.length A) (hs : ∀ p, InL cs p → Sol R cs h a p (A p)) (hr : R[i]? = some (.fu a i g)) : ∀ (d : Nat) (p : Int), InL cs p → dist cs.length back p ≤ d → Sol R cs (h + d + 1) i p (fur cs.length A g (-1) p)
  | d, p, hp, hd => by
    have hx := hA p hp.1 hp.2
    rw [fur_step hA hp.1 hp.2 (by omega) (by omega), show max ((-1 : Int) - 1) (-1) = -1 by omega]
    have hi : ∀ w ∈ A p, w.1 ≠ p → Sol R cs (h + d) i w.1 (fur cs.length A g (-1) w.1) := fun w hw e => by
      have r := hx w hw
      have := dist_lt r e
      have := dist_nn (back := back) r.1 r.2.1
      cases d with
      | zero => omega
      | succ d => exact furI_sol hA hN hs hr d w.1 ⟨r.1, r.2.1⟩ (by omega)
    exact .fu hp hr ((hs p hp).up _ (by omega)) hi (ends_len (hN p hp.1 hp.2) fun w hw => ⟨(hx w hw).1, (hx w hw).2.1⟩) (lnk_ne hx (AllR.furW hA _))
theorem seq_sol {back : Bool} {A F : Int → Ws} {a o h h' : Nat} (hA : AllR cs.length back A) (hN : AllN cs.length A) (hs : ∀ p, InL cs p → Sol R cs h a p (A p)) (hF : ∀ p, InL cs p → Sol R cs h' o p (F p)) (hh : h ≤ h') : ∀ k, (∀ j, j < k → R[o + 1 + j]? = (seqR a o k)[j]?) → ∀ p, InL cs p → Sol R cs (h' + k) (o + k) p (seqN A F k p)
  | 0, _, p, hp => hF p hp
  | k + 1, hr, p, hp => by
    have hr' : R[o + (k + 1)]? = some (.ss a (o + k)) := by
      rw [show o + (k + 1) = o + 1 + k by omega, hr k (by omega)]
      unfold seqR
      rw [List.getElem?_append_right (by rw [seqR_len]; omega), seqR_len]
      simp
    have ih := seq_sol hA hN hs hF hh k fun j hj => by
      rw [hr j (by omega)]
      show (seqR a o k ++ _)[j]? = _
      rw [List.getElem?_append_left (by rw [seqR_len]; omega)]
    have hx := hA p hp.1 hp.2
    exact .ss (n := h' + k) hp hr' ((hs p hp).up _ (by omega)) (fun w hw => ih w.1 ⟨(hx w hw).1, (hx w hw).2.1⟩) (ends_len (hN p hp.1 hp.2) fun w hw => ⟨(hx w hw).1, (hx w hw).2.1⟩)
def Seg (R : List Rw) (o : Nat) (P : List Rw) : Prop := ∀ j, j < P.length → R[o + j]? = P[j]?
theorem Seg.left {o : Nat} {P Q : List Rw} (h : Seg R o (P ++ Q)) : Seg R o P := fun j hj => by
  rw [h j (by rw [List.length_append]; omega), List.getElem?_append_left hj]
theorem Seg.right {o : Nat} {P Q : List Rw} (h : Seg R o (P ++ Q)) : Seg R (o + P.length) Q := fun j hj => by
  have := h (P.length + j) (by rw [List.length_append]; omega)
  rw [List.getElem?_append_right (by omega), Nat.add_sub_cancel_left] at this
  rw [← this, Nat.add_assoc]
theorem Seg.one {o : Nat} {r : Rw} (h : Seg R o [r]) : R[o]? = some r := h 0 (by simp)
theorem nodup_iter {A : Int → Ws} {gs : List Nat} (h : AllN cs.length A) : AllN cs.length fun p => iterW gs (A p) := fun p h0 h1 => by
  show (keys (iterW gs (A p))).Nodup
  rw [keys_iterW]
  exact h p h0 h1
theorem plan_sol : ∀ (T : PT) (back : Bool) (o : Nat), Seg R o (T.plan back o) → ∀ p, InL cs p → Sol R cs (T.hgt cs.length) (o + (T.plan back o).length - 1) p (T.W cs back p)
  | .st c, back, o, hs, p, hp => .st hp hs.one
  | .em, back, o, hs, p, hp => .em hp hs.one
  | .an nm, back, o, hs, p, hp => .an hp hs.one
  | .sq a b, back, o, hs, p, hp => by
    have pa := plan_pos a back o
    have pb := plan_pos b back (o + (a.plan back o).length)
    have ha := plan_sol a back o hs.left.left
    have hb := plan_sol b back (o + (a.plan back o).length) hs.left.right
    have hr := hs.right.one
    have e : o + (PT.plan (.sq a b) back o).length - 1 = o + (a.plan back o ++ b.plan back (o + (a.plan back o).length)).length := by
      simp [PT.plan]
      omega
    rw [e]
    unfold PT.hgt PT.W
    cases back with
    | true =>
      rw [if_pos rfl] at hr ⊢
      have hx := W_rng b true p hp.1 hp.2
      exact .ss hp hr ((hb p hp).up _ (by omega)) (fun w hw => (ha w.1 ⟨(hx w hw).1, (hx w hw).2.1⟩).up _ (by omega)) (ends_len (W_nodup b true p hp.1 hp.2) fun w hw => ⟨(hx w hw).1, (hx w hw).2.1⟩)
    | false =>
      rw [if_neg (by simp)] at hr ⊢
      have hx := W_rng a false p hp.1 hp.2
      exact .ss hp hr ((ha p hp).up _ (by omega)) (fun w hw => (hb w.1 ⟨(hx w hw).1, (hx w hw).2.1⟩).up _ (by omega)) (ends_len (W_nodup a false p hp.1 hp.2) fun w hw => ⟨(hx w hw).1, (hx w hw).2.1⟩)
  | .ch a b, back, o, hs, p, hp => by
    have ha := plan_sol a back o hs.left.left
    have hb := plan_sol b back (o + (a.plan back o).length) hs.left.right
    have hr := hs.right.one
    have e : o + (PT.plan (.ch a b) back o).length - 1 = o + (a.plan back o ++ b.plan back (o + (a.plan back o).length)).length := by
      simp [PT.plan]
      omega
    rw [e]
    exact .cc hp hr ((ha p hp).up _ (by omega)) ((hb p hp).up _ (by omega))
  | .rp a lo more g, back, o, hs, p, hp => by
    have pa := plan_pos a back o
    have ha := plan_sol a back o hs.left.left
    have hi := hs.left.right.one
    have hq := hs.right
    have e0 : o + (a.plan back o ++ [Rw.it (srtN a.grs) (o + (a.plan back o).length - 1)]).length = o + (a.plan back o).length + 1 := by simp; omega
    rw [e0] at hq
    have e : o + (PT.plan (.rp a lo more g) back o).length - 1 = o + (a.plan back o).length + 1 + more.getD 0 + lo := by
      simp only [PT.plan, List.length_append, repR_len, List.length_cons, List.length_nil]
      omega
    rw [e]
    obtain ⟨i, hi'⟩ : ∃ i, i = o + (a.plan back o).length := ⟨_, rfl⟩
    rw [← hi'] at hq hi ha ⊢
    have hA : AllR cs.length back fun p => iterW (srtN a.grs) (a.W cs back p) := AllR.iterW (W_rng a back)
    have hN : AllN cs.length fun p => iterW (srtN a.grs) (a.W cs back p) := nodup_iter (W_nodup a back)
    have hit : ∀ p, InL cs p → Sol R cs (a.hgt cs.length + 1) i p (iterW (srtN a.grs) (a.W cs back p)) := fun p hp => .it hp hi (ha p hp)
    unfold PT.W PT.hgt
    cases more with
    | none =>
      have h1 : R[i + 1]? = some (.fu i (i + 1) g) := hq 0 (by simp [repR])
      have hF : ∀ p, InL cs p → Sol R cs (a.hgt cs.length + 1 + (cs.length + 1 + 1)) (i + 1) p (furW (fun p => iterW (srtN a.grs) (a.W cs back p)) g (cs.length + 1) p) := fun p hp => by
        have hd : dist (cs.length : Int) back p ≤ (cs.length : Nat) := by
          have := hp.1
          have := hp.2
          unfold dist
          cases back <;> simp <;> omega
        exact (furI_sol hA hN hit h1 cs.length p hp hd).up _ (by omega)
      exact seq_sol hA hN hit hF (by omega) lo (fun j hj => by
        have := hq (j + 1) (by simp [repR, seqR_len]; omega)
        rw [show i + 1 + (j + 1) = i + 1 + 1 + j by omega] at this
        exact this) p hp
    | some k =>
      have hf := fur_sol (o := i + 1) (g := g) hA hN hit k fun j hj => by
        have := hq j (by simp [repR, furR_len, seqR_len]; omega)
        rw [this]
        show (furR i (i + 1) g k ++ seqR i (i + 1 + k) lo)[j]? = _
        rw [List.getElem?_append_left (by rw [furR_len]; omega)]
      have hF : ∀ p, InL cs p → Sol R cs (a.hgt cs.length + 1 + (k + 1)) (i + 1 + k) p (furW (fun p => iterW (srtN a.grs) (a.W cs back p)) g k p) := fun p hp => (hf p hp).up _ (by omega)
      exact seq_sol hA hN hit hF (by omega) lo (fun j hj => by
        have := hq (k + 1 + j) (by simp [repR, furR_len, seqR_len]; omega)
        rw [show i + 1 + (k + 1 + j) = i + 1 + k + 1 + j by omega] at this
        rw [this]
        show (furR i (i + 1) g k ++ seqR i (i + 1 + k) lo)[k + 1 + j]? = _
        rw [List.getElem?_append_right (by rw [furR_len]; omega), furR_len, Nat.add_sub_cancel_left]) p hp
  | .gr k a, back, o, hs, p, hp => by
    have pa := plan_pos a back o
    have ha := plan_sol a back o hs.left
    have hr := hs.right.one
    have e : o + (PT.plan (.gr k a) back o).length - 1 = o + (a.plan back o).length := by
      simp [PT.plan]
    rw [e]
    exact .gp hp hr (ha p hp)
  | .lk ahead pos a, back, o, hs, p, hp => by
    have pa := plan_pos a (!ahead) o
    have ha := plan_sol a (!ahead) o hs.left
    have hr := hs.right.one
    have e : o + (PT.plan (.lk ahead pos a) back o).length - 1 = o + (a.plan (!ahead) o).length := by
      simp [PT.plan]
    rw [e]
    exact .lo hp hr (ha p hp)
theorem root_sol (T : PT) (back : Bool) {p : Int} (hp : InL cs p) : Sol (T.plan back 0) cs (T.hgt cs.length) ((T.plan back 0).length - 1) p (T.W cs back p) := by
  have := plan_sol (R := T.plan back 0) T back 0 (fun j hj => by rw [Nat.zero_add]) p hp
  rw [Nat.zero_add] at this
  exact this
end
end FM
end

section
set_option linter.all false
set_option maxRecDepth 100000
namespace FM
variable {R : List Rw} {cs : List Int}
theorem Sol.det {n : Nat} {i : Nat} {p : Int} {ws : Ws} (h : Sol R cs n i p ws) : ∀ {m : Nat} {ws' : Ws}, Sol R cs m i p ws' → ws = ws' := by
  induction h with
  | st hp h => intro m ws' h'; cases h' <;> simp_all
  | em hp h => intro m ws' h'; cases h' <;> simp_all
  | an hp h => intro m ws' h'; cases h' <;> simp_all
  | @ss n i a b p xs f hp h h1 h2 hl i1 i2 =>
    intro m ws' h'
    cases h' <;> first | (exfalso; simp_all; done) | skip
    rename_i xs' f' h2' hl' q hp' h1'
    rw [h] at q
    cases q
    have e := i1 h1'
    subst e
    unfold chain
    rw [lnk_congr fun w hw => i2 w hw (h2' w hw)]
  | @fu n i a b p g xs f hp h h1 h2 hl hn i1 i2 =>
    intro m ws' h'
    cases h' <;> first | (exfalso; simp_all; done) | skip
    rename_i xs' f' hl' q hp' h1' h2' hn'
    rw [h] at q
    cases q
    have e := i1 h1'
    subst e
    exact furS_congr fun w hw e => i2 w hw e (h2' w hw e)
  | cc hp h h1 h2 i1 i2 =>
    intro m ws' h'
    cases h' <;> first | (exfalso; simp_all; done) | skip
    rename_i q _ h1' h2'
    rw [h] at q
    cases q
    rw [i1 h1', i2 h2']
  | it hp h h1 i1 =>
    intro m ws' h'
    cases h' <;> first | (exfalso; simp_all; done) | skip
    rename_i q _ h1'
    rw [h] at q
    cases q
    rw [i1 h1']
  | gp hp h h1 i1 =>
    intro m ws' h'
    cases h' <;> first | (exfalso; simp_all; done) | skip
    rename_i q _ h1'
    rw [h] at q
    cases q
    rw [i1 h1']
  | lo hp h h1 i1 =>
    intro m ws' h'
    cases h' <;> first | (exfalso; simp_all; done) | skip
    rename_i q _ h1'
    rw [h] at q
    cases q
    rw [i1 h1']
theorem Sol.good {n : Nat} {i : Nat} {p : Int} {ws : Ws} (h : Sol R cs n i p ws) : (keys ws).Nodup ∧ ∀ w ∈ ws, InL cs w.1 := by
  have lk : ∀ {xs : Ws} {f : Int → Ws}, (∀ w ∈ xs, ∀ v ∈ f w.1, InL cs v.1) → ∀ w ∈ lnk xs f, InL cs w.1 := fun hf w hw => by
    obtain ⟨x, h1, h2⟩ := List.mem_flatMap.mp hw
    obtain ⟨v, h3, rfl⟩ := List.mem_map.mp h2
    exact hf x h1 v h3
  induction h with
  | @st n i p c b hp h =>
    refine ⟨W_nodup (.st c) b p hp.1 hp.2, fun w hw => ?_⟩
    have := W_rng (.st c) b p hp.1 hp.2 w hw
    exact ⟨this.1, this.2.1⟩
  | em hp h =>
    refine ⟨by simp [keys], fun w hw => ?_⟩
    cases List.mem_singleton.mp hw
    exact hp
  | @an n i p nm hp h =>
    refine ⟨W_nodup (.an nm) false p hp.1 hp.2, fun w hw => ?_⟩
    have := W_rng (.an nm) false p hp.1 hp.2 w hw
    exact ⟨this.1, this.2.1⟩
  | ss hp h h1 h2 hl i1 i2 => exact ⟨once_nodup _, fun w hw => lk (fun w hw => (i2 w hw).2) w (mem_once hw)⟩
  | @fu n i a b p g xs f hp h h1 h2 hl hn i1 i2 =>
    have hm : ∀ w ∈ lnk (xs.filter fun w => w.1 != p) f, InL cs w.1 := lk fun w hw => (i2 w (List.mem_filter.mp hw).1 (by simpa using (List.mem_filter.mp hw).2)).2
    unfold furS
    split
    · refine ⟨?_, fun w hw => ?_⟩
      · rw [keys_app, List.nodup_append]
        refine ⟨once_nodup _, by simp [keys], fun a ha b hb e => ?_⟩
        simp [keys] at hb
        subst e hb
        exact hn (keys_once.mp ha)
      · rcases List.mem_append.mp hw with h | h
        · exact hm w (mem_once h)
        · cases List.mem_singleton.mp h
          exact hp
    · refine ⟨once_nodup _, fun w hw => ?_⟩
      rcases List.mem_cons.mp (mem_once hw) with h | h
      · cases h
        exact hp
      · exact hm w h
  | cc hp h h1 h2 i1 i2 =>
    refine ⟨once_nodup _, fun w hw => ?_⟩
    rcases List.mem_append.mp (mem_once hw) with h | h
    · exact i1.2 w h
    · exact i2.2 w h
  | it hp h h1 i1 =>
    refine ⟨by rw [keys_iterW]; exact i1.1, fun w hw => ?_⟩
    obtain ⟨x, hx, rfl⟩ := List.mem_map.mp hw
    exact i1.2 x hx
  | gp hp h h1 i1 =>
    refine ⟨by rw [keys_groupW]; exact i1.1, fun w hw => ?_⟩
    obtain ⟨x, hx, rfl⟩ := List.mem_map.mp hw
    exact i1.2 x hx
  | @lo n i a p pos gs xs hp h h1 i1 =>
    cases xs with
    | nil => cases pos <;> simp [lookW, keys] ; exact hp
    | cons x xs => cases pos <;> simp [lookW, keys] ; exact hp
theorem Sol.len {n : Nat} {i : Nat} {p : Int} {ws : Ws} (h : Sol R cs n i p ws) : ws.length ≤ cs.length + 1 := ends_len h.good.1 h.good.2
theorem lnk_len {f : Int → Ws} {B : Nat} : ∀ {xs : Ws}, (∀ w ∈ xs, (f w.1).length ≤ B) → (lnk xs f).length ≤ xs.length * B
  | [], _ => by simp [lnk]
  | x :: xs, h => by
    have := lnk_len (f := f) (B := B) (xs := xs) fun w hw => h w (List.mem_cons_of_mem _ hw)
    have h1 := h x List.mem_cons_self
    have e : lnk (x :: xs) f = ((f x.1).map fun v => (v.1, both x.2 v.2)) ++ lnk xs f := by simp [lnk]
    rw [e, List.length_append, List.length_map, List.length_cons, Nat.succ_mul]
    omega
end FM
end

section
set_option linter.all false
set_option maxRecDepth 100000
/-! the order in which a plan is made -/
namespace FM
def PT.kids : PT → List PT
  | .sq a b => [a, b]
  | .ch a b => [a, b]
  | .rp a _ _ _ => [a]
  | .gr _ a => [a]
  | .lk _ _ a => [a]
  | _ => []
def PT.inner (T : PT) (back : Bool) : Bool := match T with
  | .lk ahead _ _ => !ahead
  | _ => back
def PT.dpost : PT → Bool → List (PT × Bool)
  | .sq a b, back => a.dpost back ++ b.dpost back ++ [(.sq a b, back)]
  | .ch a b, back => a.dpost back ++ b.dpost back ++ [(.ch a b, back)]
  | .rp a lo more g, back => a.dpost back ++ [(.rp a lo more g, back)]
  | .gr k a, back => a.dpost back ++ [(.gr k a, back)]
  | .lk ahead pos a, back => a.dpost (!ahead) ++ [(.lk ahead pos a, back)]
  | .st c, back => [(.st c, back)]
  | .em, back => [(.em, back)]
  | .an nm, back => [(.an nm, back)]
def PT.post : PT → List PT
  | .sq a b => a.post ++ b.post ++ [.sq a b]
  | .ch a b => a.post ++ b.post ++ [.ch a b]
  | .rp a lo more g => a.post ++ [.rp a lo more g]
  | .gr k a => a.post ++ [.gr k a]
  | .lk ahead pos a => a.post ++ [.lk ahead pos a]
  | .st c => [.st c]
  | .em => [.em]
  | .an nm => [.an nm]
def PT.size : PT → Nat
  | .sq a b => a.size + b.size + 1
  | .ch a b => a.size + b.size + 1
  | .rp a _ _ _ => a.size + 1
  | .gr _ a => a.size + 1
  | .lk _ _ a => a.size + 1
  | _ => 1
theorem dpost_len : ∀ (T : PT) (back : Bool), (T.dpost back).length = T.size
  | .sq a b, back => by simp [PT.dpost, PT.size, dpost_len a, dpost_len b]; omega
  | .ch a b, back => by simp [PT.dpost, PT.size, dpost_len a, dpost_len b]; omega
  | .rp a _ _ _, back => by simp [PT.dpost, PT.size, dpost_len a]
  | .gr _ a, back => by simp [PT.dpost, PT.size, dpost_len a]
  | .lk _ _ a, back => by simp [PT.dpost, PT.size, dpost_len a]
  | .st _, _ => rfl
  | .em, _ => rfl
  | .an _, _ => rfl
theorem post_len : ∀ (T : PT), T.post.length = T.size
  | .sq a b => by simp [PT.post, PT.size, post_len a, post_len b]; omega
  | .ch a b => by simp [PT.post, PT.size, post_len a, post_len b]; omega
  | .rp a _ _ _ => by simp [PT.post, PT.size, post_len a]
  | .gr _ a => by simp [PT.post, PT.size, post_len a]
  | .lk _ _ a => by simp [PT.post, PT.size, post_len a]
  | .st _ => rfl
  | .em => rfl
  | .an _ => rfl
/-- a group's number -/
def gnum : PT → Option Nat
  | .gr k _ => some k
  | _ => none
theorem post_groups : ∀ T : PT, (T.post.filterMap gnum).Perm T.grs
  | .sq a b => by
    have h := (post_groups a).append (post_groups b)
    simp only [PT.post, List.filterMap_append, PT.grs]
    rw [show List.filterMap gnum [PT.sq a b] = [] from rfl, List.append_nil]
    exact h
  | .ch a b => by
    have h := (post_groups a).append (post_groups b)
    simp only [PT.post, List.filterMap_append, PT.grs]
    rw [show List.filterMap gnum [PT.ch a b] = [] from rfl, List.append_nil]
    exact h
  | .rp a lo more g => by
    simp only [PT.post, List.filterMap_append, PT.grs]
    rw [show List.filterMap gnum [PT.rp a lo more g] = [] from rfl, List.append_nil]
    exact post_groups a
  | .gr k a => by
    simp only [PT.post, List.filterMap_append, PT.grs]
    rw [show List.filterMap gnum [PT.gr k a] = [k] from rfl]
    exact ((post_groups a).append_right [k]).trans (List.perm_append_singleton k a.grs)
  | .lk ahead pos a => by
    simp only [PT.post, List.filterMap_append, PT.grs]
    rw [show List.filterMap gnum [PT.lk ahead pos a] = [] from rfl, List.append_nil]
    exact post_groups a
  | .st _ => .refl _
  | .em => .refl _
  | .an _ => .refl _
theorem srtN_perm (gs : List Nat) : (srtN gs).Perm gs := List.mergeSort_perm _ _
theorem srtN_le (gs : List Nat) : (srtN gs).Pairwise (· ≤ ·) := (List.pairwise_mergeSort (le := fun a b : Nat => decide (a ≤ b)) (fun a b c => by simp only [decide_eq_true_eq]; omega) (fun a b => by simp only [Bool.or_eq_true, decide_eq_true_eq]; omega) gs).imp fun h => by simpa using h
/-- a part's own rows -/
def PT.add (T : PT) (back : Bool) (below : List Nat) (o : Nat) : List Rw := match T, below with
  | .st c, _ => [.st c back]
  | .em, _ => [.em]
  | .an nm, _ => [.an nm]
  | .sq _ _, [i, j] => [if back then .ss j i else .ss i j]
  | .ch _ _, [i, j] => [.cc i j]
  | .rp a lo more g, [i] => .it (srtN a.grs) i :: repR o g more lo
  | .gr k _, [i] => [.gp k i]
  | .lk _ pos a, [i] => [.lo pos (srtN a.grs) i]
  | _, _ => []
def PT.addN : PT → Nat
  | .rp _ lo more _ => more.getD 0 + 1 + lo + 1
  | _ => 1
theorem add_len {T : PT} {back : Bool} {below : List Nat} {o : Nat} (h : below.length = T.kids.length) : (T.add back below o).length = T.addN := by
  cases T with
  | st c => rfl
  | em => rfl
  | an nm => rfl
  | sq a b => match below, h with | [i, j], _ => cases back <;> rfl
  | ch a b => match below, h with | [i, j], _ => rfl
  | rp a lo more g => match below, h with | [i], _ => simp [PT.add, PT.addN, repR_len]
  | gr k a => match below, h with | [i], _ => rfl
  | lk ahead pos a => match below, h with | [i], _ => rfl
abbrev PS := List Rw × List Nat
def pStep (s : PS) (x : PT × Bool) : PS :=
  let below := s.2.drop (s.2.length - x.1.kids.length)
  (s.1 ++ x.1.add x.2 below s.1.length, s.2.take (s.2.length - x.1.kids.length) ++ [s.1.length + x.1.addN - 1])
/-- there are enough numbers -/
def Fine : Nat → List (PT × Bool) → Prop
  | _, [] => True
  | d, x :: xs => x.1.kids.length ≤ d ∧ Fine (d - x.1.kids.length + 1) xs
theorem fine_post : ∀ (T : PT) (back : Bool) (d : Nat) (xs : List (PT × Bool)), Fine (d + 1) xs → Fine d (T.dpost back ++ xs)
  | .sq a b, back, d, xs, h => by
    simp only [PT.dpost, List.append_assoc]
    exact fine_post a back d _ (fine_post b back (d + 1) _ ⟨by simp [PT.kids], by simpa [PT.kids] using h⟩)
  | .ch a b, back, d, xs, h => by
    simp only [PT.dpost, List.append_assoc]
    exact fine_post a back d _ (fine_post b back (d + 1) _ ⟨by simp [PT.kids], by simpa [PT.kids] using h⟩)
  | .rp a lo more g, back, d, xs, h => by
    simp only [PT.dpost, List.append_assoc]
    exact fine_post a back d _ ⟨by simp [PT.kids], by simpa [PT.kids] using h⟩
  | .gr k a, back, d, xs, h => by
    simp only [PT.dpost, List.append_assoc]
    exact fine_post a back d _ ⟨by simp [PT.kids], by simpa [PT.kids] using h⟩
  | .lk ahead pos a, back, d, xs, h => by
    simp only [PT.dpost, List.append_assoc]
    exact fine_post a (!ahead) d _ ⟨by simp [PT.kids], by simpa [PT.kids] using h⟩
  | .st _, back, d, xs, h => ⟨Nat.zero_le _, h⟩
  | .em, back, d, xs, h => ⟨Nat.zero_le _, h⟩
  | .an _, back, d, xs, h => ⟨Nat.zero_le _, h⟩
def PT.rowsN : PT → Nat
  | .sq a b => a.rowsN + b.rowsN + 1
  | .ch a b => a.rowsN + b.rowsN + 1
  | .rp a lo more _ => a.rowsN + (more.getD 0 + 1 + lo + 1)
  | .gr _ a => a.rowsN + 1
  | .lk _ _ a => a.rowsN + 1
  | _ => 1
theorem plan_len : ∀ (T : PT) (back : Bool) (o : Nat), (T.plan back o).length = T.rowsN
  | .sq a b, back, o => by simp [PT.plan, PT.rowsN, plan_len a, plan_len b]; omega
  | .ch a b, back, o => by simp [PT.plan, PT.rowsN, plan_len a, plan_len b]; omega
  | .rp a lo more g, back, o => by
    simp only [PT.plan, PT.rowsN, List.length_append, plan_len a, repR_len, List.length_cons, List.length_nil]
    omega
  | .gr k a, back, o => by simp [PT.plan, PT.rowsN, plan_len a]
  | .lk ahead pos a, back, o => by simp [PT.plan, PT.rowsN, plan_len a]
  | .st _, _, _ => rfl
  | .em, _, _ => rfl
  | .an _, _, _ => rfl
theorem addN_sum : ∀ (T : PT) (back : Bool), ((T.dpost back).map fun x => x.1.addN).sum = T.rowsN
  | .sq a b, back => by
    simp only [PT.dpost, List.map_append, List.sum_append, addN_sum a, addN_sum b, List.map_cons, List.map_nil, List.sum_cons, List.sum_nil]
    rfl
  | .ch a b, back => by
    simp only [PT.dpost, List.map_append, List.sum_append, addN_sum a, addN_sum b, List.map_cons, List.map_nil, List.sum_cons, List.sum_nil]
    rfl
  | .rp a lo more g, back => by
    simp only [PT.dpost, List.map_append, List.sum_append, addN_sum a, List.map_cons, List.map_nil, List.sum_cons, List.sum_nil]
    rfl
  | .gr k a, back => by
    simp only [PT.dpost, List.map_append, List.sum_append, addN_sum a, List.map_cons, List.map_nil, List.sum_cons, List.sum_nil]
    rfl
  | .lk ahead pos a, back => by
    simp only [PT.dpost, List.map_append, List.sum_append, addN_sum a, List.map_cons, List.map_nil, List.sum_cons, List.sum_nil]
    rfl
  | .st _, _ => rfl
  | .em, _ => rfl
  | .an _, _ => rfl
theorem fold_plan : ∀ (T : PT) (back : Bool) (rows : List Rw) (dn : List Nat), (T.dpost back).foldl pStep (rows, dn) = (rows ++ T.plan back rows.length, dn ++ [rows.length + T.rowsN - 1])
  | .sq a b, back, rows, dn => by
    simp only [PT.dpost, List.foldl_append, fold_plan a, fold_plan b, List.foldl_cons, List.foldl_nil]
    have pa := plan_pos a back rows.length
    have pb := plan_pos b back (rows.length + (a.plan back rows.length).length)
    rw [plan_len] at pa pb
    unfold pStep
    simp [PT.kids, PT.add, PT.addN, PT.plan, PT.rowsN, plan_len, List.drop_append, List.take_append]
  | .ch a b, back, rows, dn => by
    simp only [PT.dpost, List.foldl_append, fold_plan a, fold_plan b, List.foldl_cons, List.foldl_nil]
    have pa := plan_pos a back rows.length
    have pb := plan_pos b back (rows.length + (a.plan back rows.length).length)
    rw [plan_len] at pa pb
    unfold pStep
    simp [PT.kids, PT.add, PT.addN, PT.plan, PT.rowsN, plan_len, List.drop_append, List.take_append]
  | .rp a lo more g, back, rows, dn => by
    simp only [PT.dpost, List.foldl_append, fold_plan a, List.foldl_cons, List.foldl_nil]
    have pa := plan_pos a back rows.length
    rw [plan_len] at pa
    unfold pStep
    simp [PT.kids, PT.add, PT.addN, PT.plan, PT.rowsN, plan_len, List.drop_append, List.take_append]
    omega
  | .gr k a, back, rows, dn => by
    simp only [PT.dpost, List.foldl_append, fold_plan a, List.foldl_cons, List.foldl_nil]
    have pa := plan_pos a back rows.length
    rw [plan_len] at pa
    unfold pStep
    simp [PT.kids, PT.add, PT.addN, PT.plan, PT.rowsN, plan_len, List.drop_append, List.take_append]
  | .lk ahead pos a, back, rows, dn => by
    simp only [PT.dpost, List.foldl_append, fold_plan a, List.foldl_cons, List.foldl_nil]
    have pa := plan_pos a (!ahead) rows.length
    rw [plan_len] at pa
    unfold pStep
    simp [PT.kids, PT.add, PT.addN, PT.plan, PT.rowsN, plan_len, List.drop_append, List.take_append]
  | .st c, back, rows, dn => by simp [PT.dpost, pStep, PT.kids, PT.add, PT.addN, PT.plan, PT.rowsN]
  | .em, back, rows, dn => by simp [PT.dpost, pStep, PT.kids, PT.add, PT.addN, PT.plan, PT.rowsN]
  | .an nm, back, rows, dn => by simp [PT.dpost, pStep, PT.kids, PT.add, PT.addN, PT.plan, PT.rowsN]
end FM
end

section
set_option linter.all false
set_option maxRecDepth 100000
namespace FM
/-! what a walk has seen -/
section
variable {δ : Type} (pr : Int → Int → δ) (nn : δ)
variable {L : Nat} {A : Int → Ws} {g back : Bool}
def SeenOk (L : Nat) (s : List (Int × Int)) : Prop := s.Nodup ∧ ∀ q ∈ s, (0 ≤ q.1 ∧ q.1 ≤ L) ∧ -1 ≤ q.2 ∧ q.2 ≤ 60
theorem SeenOk.len {s : List (Int × Int)} (h : SeenOk L s) : s.length ≤ (L + 1) * 62 := by
  have h1 : (s.map fun q => q.1.toNat * 62 + (q.2 + 1).toNat).Nodup := by
    refine List.pairwise_map.mpr (List.Pairwise.imp_of_mem ?_ h.1)
    intro x y hx hy hne e
    obtain ⟨⟨a1, a2⟩, a3, a4⟩ := h.2 x hx
    obtain ⟨⟨b1, b2⟩, b3, b4⟩ := h.2 y hy
    exact hne (Prod.ext (by omega) (by omega))
  have := nodup_len ((L + 1) * 62) _ h1 fun k hk => by
    obtain ⟨q, hq, rfl⟩ := List.mem_map.mp hk
    obtain ⟨⟨a1, a2⟩, a3, a4⟩ := h.2 q hq
    have : (q.1.toNat + 1) * 62 ≤ (L + 1) * 62 := Nat.mul_le_mul_right _ (by omega)
    omega
  simpa using this
theorem visit_seen (hA : AllR L back A) : ∀ (n : Nat) (left : Int) (w : Gw δ) (s : List (Int × Int)) (f : List (Gw δ)), 0 ≤ w.1 → w.1 ≤ L → -1 ≤ left → left ≤ 60 → SeenOk L s →
    SeenOk L (visit pr nn A g n left w (s, f)).1 ∧ (visit pr nn A g n left w (s, f)).2.length + s.length ≤ f.length + (visit pr nn A g n left w (s, f)).1.length
  | 0, left, w, s, f, _, _, _, _, h => ⟨h, Nat.le_refl _⟩
  | n + 1, left, w, s, f, h0, h1, hl, hl2, h => by
    unfold visit
    by_cases hs : (w.1, left) ∈ s
    · rw [if_pos hs]
      exact ⟨h, Nat.le_refl _⟩
    · rw [if_neg hs]
      have hS : SeenOk L (s ++ [(w.1, left)]) := by
        refine ⟨?_, fun q hq => ?_⟩
        · rw [List.nodup_append]
          refine ⟨h.1, by simp, fun a ha b hb e => ?_⟩
          have hb : b = (w.1, left) := by simpa using hb
          exact hs (by rw [← hb, ← e]; exact ha)
        · rcases List.mem_append.mp hq with hq | hq
          · exact h.2 q hq
          · cases List.mem_singleton.mp hq
            exact ⟨⟨h0, h1⟩, hl, hl2⟩
      obtain ⟨f1, hf1⟩ : ∃ f1, f1 = if g then f else f ++ [w] := ⟨_, rfl⟩
      rw [← hf1]
      have loop : ∀ (ys : List (Gw δ)) (s : List (Int × Int)) (f : List (Gw δ)), (∀ y ∈ ys, Rng L back w.1 y.1) → SeenOk L s →
          SeenOk L (ys.foldl (fun sf one => if one.1 ≠ w.1 then visit pr nn A g n (max (left - 1) (-1)) one sf else sf) (s, f)).1 ∧
          (ys.foldl (fun sf one => if one.1 ≠ w.1 then visit pr nn A g n (max (left - 1) (-1)) one sf else sf) (s, f)).2.length + s.length ≤ f.length + (ys.foldl (fun sf one => if one.1 ≠ w.1 then visit pr nn A g n (max (left - 1) (-1)) one sf else sf) (s, f)).1.length := by
        intro ys
        induction ys with
        | nil => exact fun s f _ h => ⟨h, Nat.le_refl _⟩
        | cons y ys ih =>
          intro s f hy h
          rw [List.foldl_cons]
          by_cases hyw : y.1 = w.1
          · rw [if_neg (by simp [hyw])]
            exact ih s f (fun y' h' => hy y' (List.mem_cons_of_mem _ h')) h
          · rw [if_pos hyw]
            have ry := hy y List.mem_cons_self
            obtain ⟨v1, v2⟩ := visit_seen hA n (max (left - 1) (-1)) y s f ry.1 ry.2.1 (by omega) (by omega) h
            generalize visit pr nn A g n (max (left - 1) (-1)) y (s, f) = sf at v1 v2 ⊢
            obtain ⟨s', f'⟩ := sf
            obtain ⟨i1, i2⟩ := ih s' f' (fun y' h' => hy y' (List.mem_cons_of_mem _ h')) v1
            simp only at v2
            exact ⟨i1, by omega⟩
      have hys : ∀ y ∈ wg pr nn (A w.1) w.2, Rng L back w.1 y.1 := fun y hy => by
        obtain ⟨x, hx, rfl⟩ := List.mem_map.mp hy
        exact hA _ h0 h1 x hx
      obtain ⟨l1, l2⟩ := loop (wg pr nn (A w.1) w.2) (s ++ [(w.1, left)]) f1 hys hS
      have hlf : f1.length + (if g then 1 else 0) = f.length + 1 := by rw [hf1]; cases g <;> simp
      by_cases hz : left = 0
      · subst hz
        rw [if_neg (by simp)]
        refine ⟨hS, ?_⟩
        cases g <;> simp at hlf ⊢ <;> omega
      · rw [if_pos hz]
        generalize (wg pr nn (A w.1) w.2).foldl (fun sf one => if one.1 ≠ w.1 then visit pr nn A g n (max (left - 1) (-1)) one sf else sf) (s ++ [(w.1, left)], f1) = sf at l1 l2 ⊢
        obtain ⟨s2, f2⟩ := sf
        refine ⟨l1, ?_⟩
        simp only [List.length_append, List.length_cons, List.length_nil] at l2
        cases g <;> simp at hlf ⊢ <;> omega
theorem visit_mem {P : Gw δ → Prop} (hA : ∀ w, P w → ∀ y ∈ wg pr nn (A w.1) w.2, P y) : ∀ (n : Nat) (left : Int) (w : Gw δ) (s : List (Int × Int)) (f : List (Gw δ)), P w → (∀ v ∈ f, P v) → ∀ v ∈ (visit pr nn A g n left w (s, f)).2, P v
  | 0, left, w, s, f, _, hf => hf
  | n + 1, left, w, s, f, hw, hf => by
    unfold visit
    by_cases hs : (w.1, left) ∈ s
    · rw [if_pos hs]
      exact hf
    · rw [if_neg hs]
      have loop : ∀ (ys : List (Gw δ)) (s : List (Int × Int)) (f : List (Gw δ)), (∀ y ∈ ys, P y) → (∀ v ∈ f, P v) → ∀ v ∈ (ys.foldl (fun sf one => if one.1 ≠ w.1 then visit pr nn A g n (max (left - 1) (-1)) one sf else sf) (s, f)).2, P v := by
        intro ys
        induction ys with
        | nil => exact fun s f _ h => h
        | cons y ys ih =>
          intro s f hy h
          rw [List.foldl_cons]
          by_cases hyw : y.1 = w.1
          · rw [if_neg (by simp [hyw])]
            exact ih s f (fun y' h' => hy y' (List.mem_cons_of_mem _ h')) h
          · rw [if_pos hyw]
            have v := visit_mem hA n (max (left - 1) (-1)) y s f (hy y List.mem_cons_self) h
            generalize visit pr nn A g n (max (left - 1) (-1)) y (s, f) = sf at v ⊢
            obtain ⟨s', f'⟩ := sf
            exact ih s' f' (fun y' h' => hy y' (List.mem_cons_of_mem _ h')) v
      have hf1 : ∀ v ∈ (if g then f else f ++ [w]), P v := fun v hv => by
        split at hv
        · exact hf v hv
        · rcases List.mem_append.mp hv with h | h
          · exact hf v h
          · rw [List.mem_singleton.mp h]; exact hw
      have fin : ∀ f2 : List (Gw δ), (∀ v ∈ f2, P v) → ∀ v ∈ (if g then f2 ++ [w] else f2), P v := fun f2 h2 v hv => by
        split at hv
        · rcases List.mem_append.mp hv with h | h
          · exact h2 v h
          · rw [List.mem_singleton.mp h]; exact hw
        · exact h2 v hv
      by_cases hz : left = 0
      · subst hz
        rw [if_neg (by simp)]
        exact fin _ hf1
      · rw [if_pos hz]
        exact fin _ (loop _ _ _ (hA w hw) hf1)
end
end FM
end

section
set_option linter.all false
set_option maxRecDepth 100000
namespace FM
inductive F2 {α β : Type} (R : α → β → Prop) : List α → List β → Prop where
  | nil : F2 R [] []
  | cons {a : α} {b : β} {xs : List α} {ys : List β} (h : R a b) (t : F2 R xs ys) : F2 R (a :: xs) (b :: ys)
/-! ## mirrored trees -/
def swN (nm : String) : String :=
  if nm = "text_start" then "text_end" else if nm = "text_end" then "text_start" else if nm = "line_start" then "line_end" else if nm = "line_end" then "line_start" else nm
def PT.mir : PT → PT
  | .sq a b => .sq b.mir a.mir
  | .ch a b => .ch a.mir b.mir
  | .rp a lo more g => .rp a.mir lo more g
  | .gr k a => .gr k a.mir
  | .lk ahead pos a => .lk (!ahead) pos a.mir
  | .an nm => .an (swN nm)
  | t => t
/-- with other numbers of groups -/
def PT.ren (f : Nat → Nat) : PT → PT
  | .sq a b => .sq (a.ren f) (b.ren f)
  | .ch a b => .ch (a.ren f) (b.ren f)
  | .rp a lo more g => .rp (a.ren f) lo more g
  | .gr k a => .gr (f k) (a.ren f)
  | .lk ahead pos a => .lk ahead pos (a.ren f)
  | t => t
theorem grs_ren (f : Nat → Nat) : ∀ T : PT, (T.ren f).grs = T.grs.map f
  | .st _ | .em | .an _ => rfl
  | .sq a b => by simp [PT.ren, PT.grs, grs_ren f a, grs_ren f b]
  | .ch a b => by simp [PT.ren, PT.grs, grs_ren f a, grs_ren f b]
  | .rp a _ _ _ => by simp [PT.ren, PT.grs, grs_ren f a]
  | .gr k a => by simp [PT.ren, PT.grs, grs_ren f a]
  | .lk _ _ a => by simp [PT.ren, PT.grs, grs_ren f a]
theorem grs_mir : ∀ T : PT, T.mir.grs.Perm T.grs
  | .st _ | .em | .an _ => .refl _
  | .sq a b => by
    simp only [PT.mir, PT.grs]
    exact ((grs_mir b).append (grs_mir a)).trans List.perm_append_comm
  | .ch a b => (grs_mir a).append (grs_mir b)
  | .rp a _ _ _ => grs_mir a
  | .gr k a => (grs_mir a).cons k
  | .lk _ _ a => grs_mir a
theorem srtN_mem (gs : List Nat) (k : Nat) : k ∈ srtN gs ↔ k ∈ gs := (List.mergeSort_perm gs _).mem_iff
/-- numbered by the order in which groups open -/
def PT.num : PT → Nat → PT
  | .sq a b, n => .sq (a.num n) (b.num (n + a.grs.length))
  | .ch a b, n => .ch (a.num n) (b.num (n + a.grs.length))
  | .rp a lo more g, n => .rp (a.num n) lo more g
  | .gr _ a, n => .gr n (a.num (n + 1))
  | .lk ahead pos a, n => .lk ahead pos (a.num n)
  | t, _ => t
theorem num_ren {f : Nat → Nat} : ∀ (T : PT) (n : Nat), (∀ i k, T.grs[i]? = some k → f k = n + i) → T.num n = T.ren f
  | .st _, _, _ | .em, _, _ | .an _, _, _ => rfl
  | .sq a b, n, h => by
    have ha := num_ren (f := f) a n fun i k e => h i k (by simp only [PT.grs]; rw [List.getElem?_append_left (List.getElem?_eq_some_iff.mp e).1]; exact e)
    have hb := num_ren (f := f) b (n + a.grs.length) fun i k e => by
      have := h (a.grs.length + i) k (by simp only [PT.grs]; rw [List.getElem?_append_right (by omega), Nat.add_sub_cancel_left]; exact e)
      omega
    simp only [PT.num, PT.ren, ha, hb]
  | .ch a b, n, h => by
    have ha := num_ren (f := f) a n fun i k e => h i k (by simp only [PT.grs]; rw [List.getElem?_append_left (List.getElem?_eq_some_iff.mp e).1]; exact e)
    have hb := num_ren (f := f) b (n + a.grs.length) fun i k e => by
      have := h (a.grs.length + i) k (by simp only [PT.grs]; rw [List.getElem?_append_right (by omega), Nat.add_sub_cancel_left]; exact e)
      omega
    simp only [PT.num, PT.ren, ha, hb]
  | .rp a lo more g, n, h => by simp only [PT.num, PT.ren, num_ren a n h]
  | .gr k a, n, h => by
    have h0 := h 0 k rfl
    have ha := num_ren (f := f) a (n + 1) fun i k e => by
      have := h (i + 1) k (by simpa [PT.grs] using e)
      omega
    simp only [PT.num, PT.ren, ha, h0, Nat.add_zero]
  | .lk ahead pos a, n, h => by simp only [PT.num, PT.ren, num_ren a n h]
/-! ## codes backwards -/
theorem codeAt_rev (cs : List Int) (i : Int) : codeAt cs.reverse ((cs.length : Int) - 1 - i) = codeAt cs i := by
  unfold codeAt
  by_cases h0 : 0 ≤ i
  · rw [if_pos h0]
    by_cases h1 : i < cs.length
    · rw [if_pos (by omega), List.getElem?_reverse (by omega)]
      congr 1
      omega
    · rw [if_neg (by omega), List.getElem?_eq_none (by omega)]
  · rw [if_neg h0]
    split
    · rw [List.getElem?_eq_none (by simp; omega)]
    · rfl
theorem holds_sw (nm : String) (b a : Option Int) : holds (swN nm) a b = holds nm b a := by
  unfold holds swN
  by_cases h1 : nm = "text_start"
  · subst h1; simp
  by_cases h2 : nm = "text_end"
  · subst h2; simp
  by_cases h3 : nm = "line_start"
  · subst h3; simp
  by_cases h4 : nm = "line_end"
  · subst h4; simp
  by_cases h5 : nm = "word_boundary"
  · subst h5; simp [Bool.xor_comm, bne_comm]
  · simp [h1, h2, h3, h4, h5]
    cases inO wordC b <;> cases inO wordC a <;> rfl
/-! ## ways of mirrored trees -/
section
variable {δ : Type} (pr : Int → Int → δ) (nn : δ) (f : Nat → Nat) (N : Nat) (L : Int) (tr : δ → δ)
/-- what groups hold here and in the mirror -/
def Rel (h h' : List δ) : Prop := ∀ k, k < N → h[k]? = (h'[f k]?).map tr
def Sim (c c' : Ch) : Prop := ∀ h h', h.length = N → h'.length = N → Rel f N tr h h' → Rel f N tr (c.ap pr nn h) (c'.ap pr nn h')
def RW (w w' : Int × Ch) : Prop := w.1 = L - w'.1 ∧ Sim pr nn f N tr w.2 w'.2
abbrev RWs (ws ws' : Ws) : Prop := F2 (RW pr nn f N L tr) ws ws'
variable {pr nn f N L tr}
theorem sim_no : Sim pr nn f N tr .no .no := fun h h' _ _ r => r
theorem sim_both {x y x' y' : Ch} (h1 : Sim pr nn f N tr x x') (h2 : Sim pr nn f N tr y y') : Sim pr nn f N tr (both x y) (both x' y') := fun h h' l l' r => by
  rw [ap_both, ap_both]
  exact h2 _ _ (by rw [ap_len]; exact l) (by rw [ap_len]; exact l') (h1 h h' l l' r)
theorem set_all_get : ∀ (gs : List Nat) (h : List δ) (k : Nat), (gs.foldl (fun h g => h.set g nn) h)[k]? = if k ∈ gs then h[k]?.map (fun _ => nn) else h[k]?
  | [], h, k => by simp
  | g :: gs, h, k => by
    rw [List.foldl_cons, set_all_get gs]
    by_cases e : g = k
    · subst e
      by_cases hl : g < h.length
      · simp [hl]
      · simp [hl]
    · have e' : ¬ k = g := fun z => e z.symm
      simp [List.getElem?_set_ne e, e']
theorem sim_clr {gs gs' : List Nat} (hn : tr nn = nn) (hg : ∀ k, k < N → (f k ∈ gs' ↔ k ∈ gs)) : Sim pr nn f N tr (clr gs) (clr gs') := fun h h' l l' r k hk => by
  rw [ap_clr, ap_clr, set_all_get, set_all_get, r k hk]
  by_cases e : k ∈ gs
  · rw [if_pos e, if_pos ((hg k hk).mpr e)]
    cases h'[f k]? <;> simp [hn]
  · rw [if_neg e, if_neg (fun z => e ((hg k hk).mp z))]
theorem sim_ho {g : Nat} {a b a' b' : Int} (hp : tr (pr a' b') = pr a b) (hf : ∀ k, k < N → f k < N) (hi : ∀ j k, j < N → k < N → f j = f k → j = k) (hg : g < N) : Sim pr nn f N tr (.ho g a b) (.ho (f g) a' b') := fun h h' l l' r k hk => by
  show (h.set g (pr a b))[k]? = ((h'.set (f g) (pr a' b'))[f k]?).map tr
  by_cases e : g = k
  · subst e
    have := hf g hg
    rw [List.getElem?_set_self (by omega), List.getElem?_set_self (by omega)]
    simp [hp]
  · rw [List.getElem?_set_ne e, List.getElem?_set_ne (fun z => e (hi _ _ hg hk z))]
    exact r k hk
theorem f2_append {α β : Type} {R : α → β → Prop} : ∀ {xs : List α} {xs' : List β} {ys : List α} {ys' : List β}, F2 R xs xs' → F2 R ys ys' → F2 R (xs ++ ys) (xs' ++ ys')
  | _, _, _, _, .nil, h => h
  | _, _, _, _, .cons a b, h => .cons a (f2_append b h)
theorem onceF_rw : ∀ {xs xs' : Ws} {s s' : List Int}, RWs pr nn f N L tr xs xs' → (∀ k, k ∈ s ↔ L - k ∈ s') → RWs pr nn f N L tr (onceF s xs) (onceF s' xs')
  | _, _, s, s', .nil, _ => .nil
  | _, _, s, s', .cons (a := w) (b := w') h t, hs => by
    rw [onceF_cons, onceF_cons]
    have hm : w.1 ∈ s ↔ w'.1 ∈ s' := by
      rw [hs, h.1, show L - (L - w'.1) = w'.1 by omega]
    by_cases e : w.1 ∈ s
    · rw [if_pos e, if_pos (hm.mp e)]
      exact onceF_rw t hs
    · rw [if_neg e, if_neg (fun z => e (hm.mpr z))]
      refine .cons h (onceF_rw t fun k => ?_)
      rw [List.mem_cons, List.mem_cons, hs, h.1]
      constructor
      · rintro (e | e)
        · exact .inl (by omega)
        · exact .inr e
      · rintro (e | e)
        · exact .inl (by omega)
        · exact .inr e
theorem once_rw {xs xs' : Ws} (h : RWs pr nn f N L tr xs xs') : RWs pr nn f N L tr (once xs) (once xs') := onceF_rw h fun k => by simp
theorem map_rw {xs xs' : Ws} {g g' : Int × Ch → Int × Ch} (h : RWs pr nn f N L tr xs xs') (hg : ∀ w w', RW pr nn f N L tr w w' → RW pr nn f N L tr (g w) (g' w')) : RWs pr nn f N L tr (xs.map g) (xs'.map g') := by
  induction h with
  | nil => exact .nil
  | cons a _ ih => exact .cons (hg _ _ a) ih
theorem lnk_rw {xs xs' : Ws} {F F' : Int → Ws} (h : RWs pr nn f N L tr xs xs') (hF : ∀ p, RWs pr nn f N L tr (F p) (F' (L - p))) : RWs pr nn f N L tr (lnk xs F) (lnk xs' F') := by
  unfold lnk
  induction h with
  | nil => exact .nil
  | @cons w w' _ _ a _ ih =>
    rw [List.flatMap_cons, List.flatMap_cons]
    refine f2_append ?_ ih
    have e : w'.1 = L - w.1 := by have := a.1; omega
    rw [e]
    exact map_rw (hF w.1) fun v v' r => ⟨r.1, sim_both a.2 r.2⟩
theorem chain_rw {xs xs' : Ws} {F F' : Int → Ws} (h : RWs pr nn f N L tr xs xs') (hF : ∀ p, RWs pr nn f N L tr (F p) (F' (L - p))) : RWs pr nn f N L tr (chain xs F) (chain xs' F') := once_rw (lnk_rw h hF)
theorem filter_rw {xs xs' : Ws} {p : Int} (h : RWs pr nn f N L tr xs xs') : RWs pr nn f N L tr (xs.filter fun w => w.1 != p) (xs'.filter fun w => w.1 != L - p) := by
  induction h with
  | nil => exact .nil
  | @cons w w' _ _ a _ ih =>
    rw [List.filter_cons, List.filter_cons]
    have e : (w.1 != p) = (w'.1 != L - p) := by
      have := a.1
      rw [Bool.eq_iff_iff]
      simp
      omega
    rw [e]
    split
    · exact .cons a ih
    · exact ih
theorem stay_rw (p : Int) : RW pr nn f N L tr (p, .no) (L - p, .no) := ⟨by show p = L - (L - p); omega, sim_no⟩
theorem furS_rw {g : Bool} {p : Int} {xs xs' : Ws} {F F' : Int → Ws} (h : RWs pr nn f N L tr xs xs') (hF : ∀ p, RWs pr nn f N L tr (F p) (F' (L - p))) : RWs pr nn f N L tr (furS g p xs F) (furS g (L - p) xs' F') := by
  unfold furS
  have hl := lnk_rw (filter_rw (p := p) h) hF
  split
  · exact f2_append (once_rw hl) (.cons (stay_rw p) .nil)
  · exact once_rw (.cons (stay_rw p) hl)
theorem furW_rw {g : Bool} {A A' : Int → Ws} (hA : ∀ p, RWs pr nn f N L tr (A p) (A' (L - p))) : ∀ (k : Nat) (p : Int), RWs pr nn f N L tr (furW A g k p) (furW A' g k (L - p))
  | 0, p => .cons (stay_rw p) .nil
  | k + 1, p => furS_rw (hA p) (furW_rw hA k)
theorem seqN_rw {A A' F F' : Int → Ws} (hA : ∀ p, RWs pr nn f N L tr (A p) (A' (L - p))) (hF : ∀ p, RWs pr nn f N L tr (F p) (F' (L - p))) : ∀ (n : Nat) (p : Int), RWs pr nn f N L tr (seqN A F n p) (seqN A' F' n (L - p))
  | 0, p => hF p
  | n + 1, p => chain_rw (hA p) (seqN_rw hA hF n)
theorem W_mir {cs : List Int} (hL : L = cs.length) (htr : ∀ a b, tr (pr a b) = pr (L - b) (L - a)) (hn : tr nn = nn) (hf : ∀ k, k < N → f k < N) (hi : ∀ j k, j < N → k < N → f j = f k → j = k) : ∀ (T : PT) (back : Bool) (p : Int), (∀ k ∈ T.grs, k < N) → RWs pr nn f N L tr (T.W cs back p) ((T.mir.ren f).W cs.reverse (!back) (L - p))
  | .st c, back, p, _ => by
    show RWs pr nn f N L tr (setW cs c back p) (setW cs.reverse c (!back) (L - p))
    unfold setW
    have e : (if (!back) = true then L - p - 1 else L - p) = L - 1 - (if back = true then p - 1 else p) := by
      cases back <;> simp <;> omega
    rw [e, hL, codeAt_rev, ← hL]
    split
    · split
      · refine .cons ⟨?_, sim_no⟩ .nil
        cases back <;> simp <;> omega
      · exact .nil
    · exact .nil
  | .em, back, p, _ => .cons (stay_rw p) .nil
  | .an nm, back, p, _ => by
    show RWs pr nn f N L tr (if holds nm (codeAt cs (p - 1)) (codeAt cs p) then [(p, .no)] else []) (if holds (swN nm) (codeAt cs.reverse (L - p - 1)) (codeAt cs.reverse (L - p)) then [(L - p, .no)] else [])
    have e1 : codeAt cs.reverse (L - p - 1) = codeAt cs p := by
      rw [show L - p - 1 = (cs.length : Int) - 1 - p by omega, codeAt_rev]
    have e2 : codeAt cs.reverse (L - p) = codeAt cs (p - 1) := by
      rw [show L - p = (cs.length : Int) - 1 - (p - 1) by omega, codeAt_rev]
    rw [e1, e2, holds_sw]
    split
    · exact .cons (stay_rw p) .nil
    · exact .nil
  | .sq a b, back, p, h => by
    have ha := fun back p => W_mir hL htr hn hf hi a back p fun k hk => h k (List.mem_append_left _ hk)
    have hb := fun back p => W_mir hL htr hn hf hi b back p fun k hk => h k (List.mem_append_right _ hk)
    cases back with
    | true =>
      show RWs pr nn f N L tr (chain (b.W cs true p) (a.W cs true)) (chain ((b.mir.ren f).W cs.reverse false (L - p)) ((a.mir.ren f).W cs.reverse false))
      exact chain_rw (hb true p) (ha true)
    | false =>
      show RWs pr nn f N L tr (chain (a.W cs false p) (b.W cs false)) (chain ((a.mir.ren f).W cs.reverse true (L - p)) ((b.mir.ren f).W cs.reverse true))
      exact chain_rw (ha false p) (hb false)
  | .ch a b, back, p, h => once_rw (f2_append (W_mir hL htr hn hf hi a back p fun k hk => h k (List.mem_append_left _ hk)) (W_mir hL htr hn hf hi b back p fun k hk => h k (List.mem_append_right _ hk)))
  | .rp a lo more g, back, p, h => by
    have hA : ∀ p, RWs pr nn f N L tr (iterW (srtN a.grs) (a.W cs back p)) (iterW (srtN (a.mir.ren f).grs) ((a.mir.ren f).W cs.reverse (!back) (L - p))) := fun p =>
      map_rw (W_mir hL htr hn hf hi a back p h) fun w w' r => ⟨r.1, sim_both (sim_clr hn (grs_mem hi h)) r.2⟩
    show RWs pr nn f N L tr (seqN (fun p => iterW (srtN a.grs) (a.W cs back p)) (furW (fun p => iterW (srtN a.grs) (a.W cs back p)) g (more.getD (cs.length + 1))) lo p) (seqN (fun p => iterW (srtN (a.mir.ren f).grs) ((a.mir.ren f).W cs.reverse (!back) p)) (furW (fun p => iterW (srtN (a.mir.ren f).grs) ((a.mir.ren f).W cs.reverse (!back) p)) g (more.getD (cs.reverse.length + 1))) lo (L - p))
    rw [List.length_reverse]
    exact seqN_rw hA (furW_rw hA _) lo p
  | .gr k a, back, p, h => by
    refine map_rw (W_mir hL htr hn hf hi a back p fun j hj => h j (List.mem_cons_of_mem _ hj)) fun w w' r => ⟨r.1, sim_both r.2 (sim_ho ?_ hf hi (h k List.mem_cons_self))⟩
    rw [htr]
    have := r.1
    congr 1 <;> omega
  | .lk ahead pos a, back, p, h => by
    have r := W_mir hL htr hn hf hi a (!ahead) p h
    show RWs pr nn f N L tr (lookW pos (srtN a.grs) p (a.W cs (!ahead) p)) (lookW pos (srtN (a.mir.ren f).grs) (L - p) ((a.mir.ren f).W cs.reverse (!!ahead) (L - p)))
    generalize a.W cs (!ahead) p = X at r ⊢
    generalize (a.mir.ren f).W cs.reverse (!!ahead) (L - p) = Y at r ⊢
    cases r with
    | nil =>
      cases pos with
      | true => exact .nil
      | false => exact .cons (stay_rw p) .nil
    | cons x _ =>
      cases pos with
      | true => exact .cons ⟨by show p = L - (L - p); omega, sim_both (sim_clr hn (grs_mem hi h)) x.2⟩ .nil
      | false => exact .nil
where
  grs_mem {a : PT} {N : Nat} {f : Nat → Nat} (hi : ∀ j k, j < N → k < N → f j = f k → j = k) (h : ∀ k ∈ a.grs, k < N) : ∀ k, k < N → (f k ∈ srtN (a.mir.ren f).grs ↔ k ∈ srtN a.grs) := fun k hk => by
    rw [srtN_mem, srtN_mem, grs_ren, List.mem_map]
    constructor
    · rintro ⟨j, hj, e⟩
      have hj' : j ∈ a.grs := (grs_mir a).mem_iff.mp hj
      exact hi j k (h j hj') hk e ▸ hj'
    · exact fun hk' => ⟨k, (grs_mir a).mem_iff.mpr hk', rfl⟩
end
end FM
end

section
set_option Elab.async false
set_option linter.all false
set_option maxRecDepth 100000
set_option maxHeartbeats 4000000
namespace Lw
open PySem PySem.Spec PyProof.Rows L2 DL VM
def dat_WORD : PyData := .tuple [.tuple [.int 48, .int 58], .tuple [.int 65, .int 91], .tuple [.int 95, .int 96], .tuple [.int 97, .int 123]]
def dat_LINE_ENDS : PyData := .tuple [.tuple [.int 10, .int 11], .tuple [.int 13, .int 14]]
def f_contains : Nat := 0
def f__is_in : Nat := 1
def f_anchor_holds : Nat := 2
def f_clearing : Nat := 3
def f_both : Nat := 4
def f_changed : Nat := 5
def f_parts : Nat := 6
def f_bottom_up : Nat := 7
def f_bottom_up_directed : Nat := 8
def f_inner_groups : Nat := 9
def f_make_plan : Nat := 10
def f__add : Nat := 11
def f__add_part : Nat := 12
def f__add_repeat : Nat := 13
def f_Finder___init__ : Nat := 14
def f_Finder_ways_from : Nat := 15
def f_Finder__solved : Nat := 16
def f_Finder__missing : Nat := 17
def f_Finder__chained : Nat := 18
def f_Finder__found : Nat := 19
def f_Finder__code : Nat := 20
def f_Finder__holds : Nat := 21
def f_Finder__set_ways : Nat := 22
def f_Finder__chain_ways : Nat := 23
def f__once : Nat := 24
def f__group_ways : Nat := 25
def f__look_ways : Nat := 26
def f_ways : Nat := 27
def f__law_row : Nat := 28
def f__law_digit : Nat := 29
def f__law_codes : Nat := 30
def f__law_leaf : Nat := 31
def f__law_repeat : Nat := 32
def f__law_tree : Nat := 33
def f__law_text : Nat := 34
def f__law_same : Nat := 35
def f__law_mirror : Nat := 36
def f__law_numbered : Nat := 37
def f__law_turned : Nat := 38
def f_law : Nat := 39
/-! contains: 0 a, 1 code, 2 low, 3 high -/
def body_contains : VM.St := (.seq (.for_ (.tp [2, 3]) (.sq (.var 0))
  (.ite (.chn .le .lt (.var 2) (.var 1) (.var 3))
  (.ret (.con (.bool true)))
  .nop) [2, 3])
  (.ret (.con (.bool false))))
def fd_contains : Fd := ⟨2, 2, body_contains⟩
/-! _is_in: 0 codes, 1 code -/
def body__is_in : VM.St := (.ret (.and (.cmp .notn (.var 1) (.con .none)) (.call f_contains (.cons (.var 0) (.cons (.var 1) .nil)))))
def fd__is_in : Fd := ⟨2, 0, body__is_in⟩
/-! anchor_holds: 0 name, 1 before, 2 after, 3 at_border -/
def body_anchor_holds : VM.St := (.seq (.ite (.cmp .eq (.var 0) (.con (.str "text_start")))
  (.ret (.cmp .isn (.var 1) (.con .none)))
  .nop)
  (.seq (.ite (.cmp .eq (.var 0) (.con (.str "text_end")))
  (.ret (.cmp .isn (.var 2) (.con .none)))
  .nop)
  (.seq (.ite (.cmp .eq (.var 0) (.con (.str "line_start")))
  (.ret (.or (.cmp .isn (.var 1) (.con .none)) (.call f_contains (.cons (.glb 2 dat_LINE_ENDS) (.cons (.var 1) .nil)))))
  .nop)
  (.seq (.ite (.cmp .eq (.var 0) (.con (.str "line_end")))
  (.ret (.or (.cmp .isn (.var 2) (.con .none)) (.call f_contains (.cons (.glb 2 dat_LINE_ENDS) (.cons (.var 2) .nil)))))
  .nop)
  (.seq (.asg (.nm 3) (.cmp .ne (.call f__is_in (.cons (.glb 1 dat_WORD) (.cons (.var 1) .nil))) (.call f__is_in (.cons (.glb 1 dat_WORD) (.cons (.var 2) .nil)))))
  (.seq (.ite (.cmp .eq (.var 0) (.con (.str "word_boundary")))
  (.ret (.var 3))
  .nop)
  (.ret (.not (.var 3)))))))))
def fd_anchor_holds : Fd := ⟨3, 1, body_anchor_holds⟩
/-! clearing: 0 groups -/
def body_clearing : VM.St := (.seq (.ite (.not (.val (.var 0)))
  (.ret (.con .none))
  .nop)
  (.ret (.tup (.cons (.con (.str "clear")) (.cons (.var 0) .nil)))))
def fd_clearing : Fd := ⟨1, 0, body_clearing⟩
/-! both: 0 earlier, 1 later -/
def body_both : VM.St := (.seq (.ite (.cmp .isn (.var 0) (.con .none))
  (.ret (.var 1))
  .nop)
  (.seq (.ite (.cmp .isn (.var 1) (.con .none))
  (.ret (.var 0))
  .nop)
  (.ret (.tup (.cons (.con (.str "both")) (.cons (.var 0) (.cons (.var 1) .nil)))))))
def fd_both : Fd := ⟨2, 0, body_both⟩
/-! changed: 0 held, 1 change, 2 groups, 3 todo, 4 part, 5 group -/
def body_changed : VM.St := (.seq (.asg (.nm 2) (.own (.bi .list (.cons (.var 0) .nil))))
  (.seq (.asg (.nm 3) (.own (.lst (.cons (.var 1) .nil))))
  (.seq (.whl (.val (.var 3))
  (.seq (.asg (.nm 4) (.bm .pop (.var 3) .nil))
  (.seq (.ite (.cmp .isn (.var 4) (.con .none))
  .cnt
  .nop)
  (.ite (.cmp .eq (.idx (.var 4) (.con (.int 0))) (.con (.str "both")))
  (.seq (.exp (.bm .append (.var 3) (.cons (.idx (.var 4) (.con (.int 2))) .nil)))
  (.exp (.bm .append (.var 3) (.cons (.idx (.var 4) (.con (.int 1))) .nil))))
  (.ite (.cmp .eq (.idx (.var 4) (.con (.int 0))) (.con (.str "hold")))
  (.seti (.var 2) (.idx (.var 4) (.con (.int 1))) (.idx (.var 4) (.con (.int 2))))
  (.for_ (.nm 5) (.sq (.idx (.var 4) (.con (.int 1))))
  (.seti (.var 2) (.var 5) (.con .none)) [5]))))) [4, 5])
  (.ret (.bi .tuple (.cons (.var 2) .nil))))))
def fd_changed : Fd := ⟨2, 4, body_changed⟩
/-! parts: 0 tree, 1 kind -/
def body_parts : VM.St := (.seq (.asg (.nm 1) (.idx (.var 0) (.con (.int 0))))
  (.seq (.ite (.cmp .isin (.var 1) (.tup (.cons (.con (.str "sequence")) (.cons (.con (.str "choice")) .nil))))
  (.ret (.tup (.cons (.idx (.var 0) (.con (.int 1))) (.cons (.idx (.var 0) (.con (.int 2))) .nil))))
  .nop)
  (.seq (.ite (.cmp .isin (.var 1) (.tup (.cons (.con (.str "repeat")) (.cons (.con (.str "nonempty")) (.cons (.con (.str "star")) .nil)))))
  (.ret (.tup (.cons (.idx (.var 0) (.con (.int 1))) .nil)))
  .nop)
  (.seq (.ite (.cmp .eq (.var 1) (.con (.str "group")))
  (.ret (.tup (.cons (.idx (.var 0) (.con (.int 2))) .nil)))
  .nop)
  (.seq (.ite (.cmp .eq (.var 1) (.con (.str "look")))
  (.ret (.tup (.cons (.idx (.var 0) (.con (.int 3))) .nil)))
  .nop)
  (.ret (.tup .nil)))))))
def fd_parts : Fd := ⟨1, 1, body_parts⟩
/-! bottom_up: 0 tree, 1 found, 2 todo, 3 part -/
def body_bottom_up : VM.St := (.seq (.asg (.nm 1) (.own (.lst .nil)))
  (.seq (.asg (.nm 2) (.own (.lst (.cons (.var 0) .nil))))
  (.seq (.whl (.val (.var 2))
  (.seq (.asg (.nm 3) (.bm .pop (.var 2) .nil))
  (.seq (.exp (.bm .append (.var 1) (.cons (.var 3) .nil)))
  (.exp (.bm .extend (.var 2) (.cons (.call f_parts (.cons (.var 3) .nil)) .nil))))) [3])
  (.seq (.exp (.bm .reverse (.var 1) .nil))
  (.ret (.var 1))))))
def fd_bottom_up : Fd := ⟨1, 3, body_bottom_up⟩
/-! bottom_up_directed: 0 tree, 1 backward, 2 found, 3 todo, 4 part, 5 back, 6 inner -/
def body_bottom_up_directed : VM.St := (.seq (.asg (.nm 2) (.own (.lst .nil)))
  (.seq (.asg (.nm 3) (.own (.lst (.cons (.tup (.cons (.var 0) (.cons (.var 1) .nil))) .nil))))
  (.seq (.whl (.val (.var 3))
  (.seq (.asg (.tp [4, 5]) (.bm .pop (.var 3) .nil))
  (.seq (.exp (.bm .append (.var 2) (.cons (.tup (.cons (.var 4) (.cons (.var 5) .nil))) .nil)))
  (.seq (.ite (.cmp .eq (.idx (.var 4) (.con (.int 0))) (.con (.str "look")))
  (.asg (.nm 5) (.not (.idx (.var 4) (.con (.int 1)))))
  .nop)
  (.for_ (.nm 6) (.sq (.call f_parts (.cons (.var 4) .nil)))
  (.exp (.bm .append (.var 3) (.cons (.tup (.cons (.var 6) (.cons (.var 5) .nil))) .nil))) [6])))) [4, 5, 6])
  (.seq (.exp (.bm .reverse (.var 2) .nil))
  (.ret (.var 2))))))
def fd_bottom_up_directed : Fd := ⟨2, 5, body_bottom_up_directed⟩
/-! inner_groups: 0 tree, 1 part -/
def body_inner_groups : VM.St := (.ret (.bi .sorted (.cons (.lc [1] (.nm 1) (.sq (.call f_bottom_up (.cons (.var 0) .nil))) (.some (.cmp .eq (.idx (.var 1) (.con (.int 0))) (.con (.str "group")))) (.idx (.var 1) (.con (.int 1)))) .nil)))
def fd_inner_groups : Fd := ⟨1, 1, body_inner_groups⟩
/-! make_plan: 0 tree, 1 backward, 2 rows, 3 done, 4 part, 5 back, 6 below, 7 _ -/
def body_make_plan : VM.St := (.seq (.asg (.nm 2) (.own (.lst .nil)))
  (.seq (.asg (.nm 3) (.own (.lst .nil)))
  (.seq (.for_ (.tp [4, 5]) (.sq (.call f_bottom_up_directed (.cons (.var 0) (.cons (.var 1) .nil))))
  (.seq (.asg (.nm 6) (.own (.lc [7] (.nm 7) (.sq (.call f_parts (.cons (.var 4) .nil))) .none (.bm .pop (.var 3) .nil))))
  (.seq (.exp (.bm .reverse (.var 6) .nil))
  (.exp (.bm .append (.var 3) (.cons (.call f__add_part (.cons (.var 2) (.cons (.var 4) (.cons (.var 6) (.cons (.var 5) .nil))))) .nil))))) [4, 5, 6])
  (.ret (.var 2)))))
def fd_make_plan : Fd := ⟨2, 6, body_make_plan⟩
/-! _add: 0 rows, 1 row -/
def body__add : VM.St := (.seq (.exp (.bm .append (.var 0) (.cons (.var 1) .nil)))
  (.ret (.bin .sub (.bi .len (.cons (.var 0) .nil)) (.con (.int 1)))))
def fd__add : Fd := ⟨2, 0, body__add⟩
/-! _add_part: 0 rows, 1 part, 2 below, 3 backward, 4 kind -/
def body__add_part : VM.St := (.seq (.asg (.nm 4) (.idx (.var 1) (.con (.int 0))))
  (.seq (.ite (.cmp .eq (.var 4) (.con (.str "set")))
  (.ret (.call f__add (.cons (.var 0) (.cons (.tup (.cons (.con (.str "set")) (.cons (.idx (.var 1) (.con (.int 1))) (.cons (.var 3) .nil)))) .nil))))
  .nop)
  (.seq (.ite (.and (.cmp .eq (.var 4) (.con (.str "sequence"))) (.val (.var 3)))
  (.ret (.call f__add (.cons (.var 0) (.cons (.tup (.cons (.con (.str "sequence")) (.cons (.idx (.var 2) (.con (.int 1))) (.cons (.idx (.var 2) (.con (.int 0))) .nil)))) .nil))))
  .nop)
  (.seq (.ite (.cmp .isin (.var 4) (.tup (.cons (.con (.str "sequence")) (.cons (.con (.str "choice")) .nil))))
  (.ret (.call f__add (.cons (.var 0) (.cons (.tup (.cons (.var 4) (.cons (.idx (.var 2) (.con (.int 0))) (.cons (.idx (.var 2) (.con (.int 1))) .nil)))) .nil))))
  .nop)
  (.seq (.ite (.cmp .eq (.var 4) (.con (.str "repeat")))
  (.ret (.call f__add_repeat (.cons (.var 0) (.cons (.var 1) (.cons (.idx (.var 2) (.con (.int 0))) .nil)))))
  .nop)
  (.seq (.ite (.cmp .eq (.var 4) (.con (.str "group")))
  (.ret (.call f__add (.cons (.var 0) (.cons (.tup (.cons (.con (.str "group")) (.cons (.idx (.var 1) (.con (.int 1))) (.cons (.idx (.var 2) (.con (.int 0))) .nil)))) .nil))))
  .nop)
  (.seq (.ite (.cmp .eq (.var 4) (.con (.str "look")))
  (.ret (.call f__add (.cons (.var 0) (.cons (.tup (.cons (.con (.str "look")) (.cons (.idx (.var 1) (.con (.int 2))) (.cons (.call f_inner_groups (.cons (.idx (.var 1) (.con (.int 3))) .nil)) (.cons (.idx (.var 2) (.con (.int 0))) .nil))))) .nil))))
  .nop)
  (.ret (.call f__add (.cons (.var 0) (.cons (.var 1) .nil)))))))))))
def fd__add_part : Fd := ⟨4, 1, body__add_part⟩
/-! _add_repeat: 0 rows, 1 part, 2 below, 3 _, 4 inner, 5 least, 6 most, 7 greedy, 8 iteration, 9 whole -/
def body__add_repeat : VM.St := (.seq (.asg (.tp [3, 4, 5, 6, 7]) (.var 1))
  (.seq (.asg (.nm 8) (.call f__add (.cons (.var 0) (.cons (.tup (.cons (.con (.str "iteration")) (.cons (.call f_inner_groups (.cons (.var 4) .nil)) (.cons (.var 2) .nil)))) .nil))))
  (.seq (.ite (.cmp .isn (.var 6) (.con .none))
  (.asg (.nm 9) (.call f__add (.cons (.var 0) (.cons (.tup (.cons (.con (.str "further")) (.cons (.var 8) (.cons (.bi .len (.cons (.var 0) .nil)) (.cons (.var 7) .nil))))) .nil))))
  (.seq (.asg (.nm 9) (.call f__add (.cons (.var 0) (.cons (.tup (.cons (.con (.str "empty")) .nil)) .nil))))
  (.for_ (.nm 3) (.rg1 (.bin .sub (.var 6) (.var 5)))
  (.asg (.nm 9) (.call f__add (.cons (.var 0) (.cons (.tup (.cons (.con (.str "further")) (.cons (.var 8) (.cons (.var 9) (.cons (.var 7) .nil))))) .nil)))) [3])))
  (.seq (.for_ (.nm 3) (.rg1 (.var 5))
  (.asg (.nm 9) (.call f__add (.cons (.var 0) (.cons (.tup (.cons (.con (.str "sequence")) (.cons (.var 8) (.cons (.var 9) .nil)))) .nil)))) [3])
  (.ret (.var 9))))))
def fd__add_repeat : Fd := ⟨3, 7, body__add_repeat⟩
/-! Finder___init__: 0 self, 1 tree, 2 text, 3 backward, 4 sign -/
def body_Finder___init__ : VM.St := (.seq (.setf "rows" (.var 0) (.call f_make_plan (.cons (.var 1) (.cons (.var 3) .nil))))
  (.seq (.setf "codes" (.var 0) (.lc [4] (.nm 4) (.sq (.var 2)) .none (.bi .ord (.cons (.var 4) .nil))))
  (.setf "known" (.var 0) (.dnw true))))
def fd_Finder___init__ : Fd := ⟨4, 1, body_Finder___init__⟩
/-! Finder_ways_from: 0 self, 1 position, 2 held, 3 end, 4 change -/
def body_Finder_ways_from : VM.St := (.ret (.lc [3, 4] (.tp [3, 4]) (.sq (.mth 0 f_Finder__solved "_solved" (.var 0) (.cons (.var 1) .nil))) .none (.tup (.cons (.var 3) (.cons (.call f_changed (.cons (.var 2) (.cons (.var 4) .nil))) .nil)))))
def fd_Finder_ways_from : Fd := ⟨3, 2, body_Finder_ways_from⟩
/-! Finder__solved: 0 self, 1 position, 2 goal, 3 todo, 4 number, 5 place, 6 missing -/
def body_Finder__solved : VM.St := (.seq (.asg (.nm 2) (.tup (.cons (.bin .sub (.bi .len (.cons (.fld "rows" (.var 0)) .nil)) (.con (.int 1))) (.cons (.var 1) .nil))))
  (.seq (.asg (.nm 3) (.own (.lst (.cons (.var 2) .nil))))
  (.seq (.whl (.val (.var 3))
  (.seq (.asg (.tp [4, 5]) (.idx (.var 3) (.neg (.con (.int 1)))))
  (.seq (.asg (.nm 6) (.mth 0 f_Finder__missing "_missing" (.var 0) (.cons (.var 4) (.cons (.var 5) .nil))))
  (.seq (.ite (.val (.var 6))
  (.seq (.exp (.bm .extend (.var 3) (.cons (.var 6) .nil)))
  .cnt)
  .nop)
  (.seq (.exp (.bm .pop (.var 3) .nil))
  (.ite (.cmp .notin (.tup (.cons (.var 4) (.cons (.var 5) .nil))) (.fld "known" (.var 0)))
  (.sett (.fld "known" (.var 0)) (.cons (.var 4) (.cons (.var 5) .nil)) (.mth 0 f_Finder__found "_found" (.var 0) (.cons (.var 4) (.cons (.var 5) .nil))))
  .nop))))) [4, 5, 6])
  (.ret (.idx (.fld "known" (.var 0)) (.var 2))))))
def fd_Finder__solved : Fd := ⟨2, 5, body_Finder__solved⟩
/-! Finder__missing: 0 self, 1 number, 2 position, 3 row, 4 kind, 5 goals, 6 goal -/
def body_Finder__missing : VM.St := (.seq (.ite (.cmp .isin (.tup (.cons (.var 1) (.cons (.var 2) .nil))) (.fld "known" (.var 0)))
  (.ret (.lst .nil))
  .nop)
  (.seq (.asg (.nm 3) (.idx (.fld "rows" (.var 0)) (.var 1)))
  (.seq (.asg (.nm 4) (.idx (.var 3) (.con (.int 0))))
  (.seq (.ite (.cmp .isin (.var 4) (.tup (.cons (.con (.str "sequence")) (.cons (.con (.str "further")) .nil))))
  (.asg (.nm 5) (.mth 0 f_Finder__chained "_chained" (.var 0) (.cons (.var 3) (.cons (.var 2) .nil))))
  (.ite (.cmp .eq (.var 4) (.con (.str "choice")))
  (.asg (.nm 5) (.lst (.cons (.tup (.cons (.idx (.var 3) (.con (.int 2))) (.cons (.var 2) .nil))) (.cons (.tup (.cons (.idx (.var 3) (.con (.int 1))) (.cons (.var 2) .nil))) .nil))))
  (.ite (.cmp .isin (.var 4) (.tup (.cons (.con (.str "group")) (.cons (.con (.str "look")) (.cons (.con (.str "iteration")) .nil)))))
  (.asg (.nm 5) (.lst (.cons (.tup (.cons (.idx (.var 3) (.neg (.con (.int 1)))) (.cons (.var 2) .nil))) .nil)))
  (.asg (.nm 5) (.lst .nil)))))
  (.ret (.lc [6] (.nm 6) (.sq (.var 5)) (.some (.cmp .notin (.var 6) (.fld "known" (.var 0)))) (.var 6)))))))
def fd_Finder__missing : Fd := ⟨3, 4, body_Finder__missing⟩
/-! Finder__chained: 0 self, 1 row, 2 position, 3 ends, 4 end, 5 _ -/
def body_Finder__chained : VM.St := (.seq (.ite (.cmp .notin (.tup (.cons (.idx (.var 1) (.con (.int 1))) (.cons (.var 2) .nil))) (.fld "known" (.var 0)))
  (.ret (.lst (.cons (.tup (.cons (.idx (.var 1) (.con (.int 1))) (.cons (.var 2) .nil))) .nil)))
  .nop)
  (.seq (.asg (.nm 3) (.lc [4, 5] (.tp [4, 5]) (.sq (.idx (.fld "known" (.var 0)) (.tup (.cons (.idx (.var 1) (.con (.int 1))) (.cons (.var 2) .nil))))) .none (.var 4)))
  (.ret (.lc [4] (.nm 4) (.sq (.var 3)) (.some (.or (.cmp .eq (.idx (.var 1) (.con (.int 0))) (.con (.str "sequence"))) (.cmp .ne (.var 4) (.var 2)))) (.tup (.cons (.idx (.var 1) (.con (.int 2))) (.cons (.var 4) .nil)))))))
def fd_Finder__chained : Fd := ⟨3, 3, body_Finder__chained⟩
/-! Finder__found: 0 self, 1 number, 2 position, 3 row, 4 kind, 5 cleared, 6 end, 7 change -/
def body_Finder__found : VM.St := (.seq (.asg (.nm 3) (.idx (.fld "rows" (.var 0)) (.var 1)))
  (.seq (.asg (.nm 4) (.idx (.var 3) (.con (.int 0))))
  (.seq (.ite (.cmp .eq (.var 4) (.con (.str "set")))
  (.ret (.mth 0 f_Finder__set_ways "_set_ways" (.var 0) (.cons (.var 3) (.cons (.var 2) .nil))))
  .nop)
  (.seq (.ite (.cmp .isin (.var 4) (.tup (.cons (.con (.str "sequence")) (.cons (.con (.str "further")) .nil))))
  (.ret (.mth 0 f_Finder__chain_ways "_chain_ways" (.var 0) (.cons (.var 3) (.cons (.var 2) .nil))))
  .nop)
  (.seq (.ite (.cmp .eq (.var 4) (.con (.str "choice")))
  (.ret (.call f__once (.cons (.bin .add (.idx (.fld "known" (.var 0)) (.tup (.cons (.idx (.var 3) (.con (.int 1))) (.cons (.var 2) .nil)))) (.idx (.fld "known" (.var 0)) (.tup (.cons (.idx (.var 3) (.con (.int 2))) (.cons (.var 2) .nil))))) .nil)))
  .nop)
  (.seq (.ite (.cmp .eq (.var 4) (.con (.str "group")))
  (.ret (.call f__group_ways (.cons (.idx (.var 3) (.con (.int 1))) (.cons (.var 2) (.cons (.idx (.fld "known" (.var 0)) (.tup (.cons (.idx (.var 3) (.con (.int 2))) (.cons (.var 2) .nil)))) .nil)))))
  .nop)
  (.seq (.ite (.cmp .eq (.var 4) (.con (.str "look")))
  (.ret (.call f__look_ways (.cons (.var 3) (.cons (.var 2) (.cons (.idx (.fld "known" (.var 0)) (.tup (.cons (.idx (.var 3) (.con (.int 3))) (.cons (.var 2) .nil)))) .nil)))))
  .nop)
  (.seq (.ite (.cmp .eq (.var 4) (.con (.str "iteration")))
  (.seq (.asg (.nm 5) (.call f_clearing (.cons (.idx (.var 3) (.con (.int 1))) .nil)))
  (.ret (.lc [6, 7] (.tp [6, 7]) (.sq (.idx (.fld "known" (.var 0)) (.tup (.cons (.idx (.var 3) (.con (.int 2))) (.cons (.var 2) .nil))))) .none (.tup (.cons (.var 6) (.cons (.call f_both (.cons (.var 5) (.cons (.var 7) .nil))) .nil))))))
  .nop)
  (.seq (.ite (.and (.cmp .eq (.var 4) (.con (.str "anchor"))) (.not (.val (.mth 0 f_Finder__holds "_holds" (.var 0) (.cons (.idx (.var 3) (.con (.int 1))) (.cons (.var 2) .nil))))))
  (.ret (.lst .nil))
  .nop)
  (.ret (.lst (.cons (.tup (.cons (.var 2) (.cons (.con .none) .nil))) .nil))))))))))))
def fd_Finder__found : Fd := ⟨3, 5, body_Finder__found⟩
/-! Finder__code: 0 self, 1 index -/
def body_Finder__code : VM.St := (.seq (.ite (.chn .le .lt (.con (.int 0)) (.var 1) (.bi .len (.cons (.fld "codes" (.var 0)) .nil)))
  (.ret (.idx (.fld "codes" (.var 0)) (.var 1)))
  .nop)
  (.ret (.con .none)))
def fd_Finder__code : Fd := ⟨2, 0, body_Finder__code⟩
/-! Finder__holds: 0 self, 1 name, 2 position -/
def body_Finder__holds : VM.St := (.ret (.call f_anchor_holds (.cons (.var 1) (.cons (.mth 0 f_Finder__code "_code" (.var 0) (.cons (.bin .sub (.var 2) (.con (.int 1))) .nil)) (.cons (.mth 0 f_Finder__code "_code" (.var 0) (.cons (.var 2) .nil)) .nil)))))
def fd_Finder__holds : Fd := ⟨3, 0, body_Finder__holds⟩
/-! Finder__set_ways: 0 self, 1 row, 2 position, 3 _, 4 codes, 5 backward, 6 code -/
def body_Finder__set_ways : VM.St := (.seq (.asg (.tp [3, 4, 5]) (.var 1))
  (.seq (.asg (.nm 6) (.mth 0 f_Finder__code "_code" (.var 0) (.cons (.ife (.val (.var 5)) (.bin .sub (.var 2) (.con (.int 1))) (.var 2)) .nil)))
  (.seq (.ite (.or (.cmp .isn (.var 6) (.con .none)) (.not (.val (.call f_contains (.cons (.var 4) (.cons (.var 6) .nil))))))
  (.ret (.lst .nil))
  .nop)
  (.ret (.lst (.cons (.tup (.cons (.ife (.val (.var 5)) (.bin .sub (.var 2) (.con (.int 1))) (.bin .add (.var 2) (.con (.int 1)))) (.cons (.con .none) .nil))) .nil))))))
def fd_Finder__set_ways : Fd := ⟨3, 4, body_Finder__set_ways⟩
/-! Finder__chain_ways: 0 self, 1 row, 2 position, 3 further, 4 ways_by_end, 5 middle, 6 earlier, 7 end, 8 later -/
def body_Finder__chain_ways : VM.St := (.seq (.asg (.nm 3) (.cmp .eq (.idx (.var 1) (.con (.int 0))) (.con (.str "further"))))
  (.seq (.asg (.nm 4) (.dnw false))
  (.seq (.ite (.and (.val (.var 3)) (.not (.val (.idx (.var 1) (.con (.int 3))))))
  (.seti (.var 4) (.var 2) (.con .none))
  .nop)
  (.seq (.for_ (.tp [5, 6]) (.sq (.idx (.fld "known" (.var 0)) (.tup (.cons (.idx (.var 1) (.con (.int 1))) (.cons (.var 2) .nil)))))
  (.seq (.ite (.and (.val (.var 3)) (.cmp .eq (.var 5) (.var 2)))
  .cnt
  .nop)
  (.for_ (.tp [7, 8]) (.sq (.idx (.fld "known" (.var 0)) (.tup (.cons (.idx (.var 1) (.con (.int 2))) (.cons (.var 5) .nil)))))
  (.ite (.cmp .notin (.var 7) (.var 4))
  (.seti (.var 4) (.var 7) (.call f_both (.cons (.var 6) (.cons (.var 8) .nil))))
  .nop) [7, 8])) [5, 6, 7, 8])
  (.seq (.ite (.and (.val (.var 3)) (.val (.idx (.var 1) (.con (.int 3)))))
  (.seti (.var 4) (.var 2) (.con .none))
  .nop)
  (.ret (.its (.var 4))))))))
def fd_Finder__chain_ways : Fd := ⟨3, 6, body_Finder__chain_ways⟩
/-! _once: 0 found, 1 ways_by_end, 2 end, 3 change -/
def body__once : VM.St := (.seq (.asg (.nm 1) (.dnw false))
  (.seq (.for_ (.tp [2, 3]) (.sq (.var 0))
  (.ite (.cmp .notin (.var 2) (.var 1))
  (.seti (.var 1) (.var 2) (.var 3))
  .nop) [2, 3])
  (.ret (.its (.var 1)))))
def fd__once : Fd := ⟨1, 3, body__once⟩
/-! _group_ways: 0 group, 1 position, 2 found, 3 end, 4 change -/
def body__group_ways : VM.St := (.ret (.lc [3, 4] (.tp [3, 4]) (.sq (.var 2)) .none (.tup (.cons (.var 3) (.cons (.call f_both (.cons (.var 4) (.cons (.tup (.cons (.con (.str "hold")) (.cons (.var 0) (.cons (.tup (.cons (.bi .min (.cons (.var 1) (.cons (.var 3) .nil))) (.cons (.bi .max (.cons (.var 1) (.cons (.var 3) .nil))) .nil))) .nil)))) .nil))) .nil)))))
def fd__group_ways : Fd := ⟨3, 2, body__group_ways⟩
/-! _look_ways: 0 row, 1 position, 2 found, 3 positive -/
def body__look_ways : VM.St := (.seq (.asg (.nm 3) (.idx (.var 0) (.con (.int 1))))
  (.seq (.ite (.cmp .ne (.bi .bool (.cons (.var 2) .nil)) (.var 3))
  (.ret (.lst .nil))
  .nop)
  (.seq (.ite (.not (.val (.var 3)))
  (.ret (.lst (.cons (.tup (.cons (.var 1) (.cons (.con .none) .nil))) .nil)))
  .nop)
  (.ret (.lst (.cons (.tup (.cons (.var 1) (.cons (.call f_both (.cons (.call f_clearing (.cons (.idx (.var 0) (.con (.int 2))) .nil)) (.cons (.idx (.idx (.var 2) (.con (.int 0))) (.con (.int 1))) .nil))) .nil))) .nil))))))
def fd__look_ways : Fd := ⟨3, 1, body__look_ways⟩
/-! ways: 0 tree, 1 text, 2 position, 3 held, 4 backward -/
def body_ways : VM.St := (.ret (.mth 0 f_Finder_ways_from "ways_from" (.mak 0 f_Finder___init__ (.cons (.var 0) (.cons (.var 1) (.cons (.var 4) .nil)))) (.cons (.var 2) (.cons (.var 3) .nil))))
def fd_ways : Fd := ⟨5, 0, body_ways⟩
/-! _law_row: 0 script, 1 k, 2 cell, 3 mixed -/
def body__law_row : VM.St := (.seq (.asg (.nm 2) (.con (.int 0)))
  (.seq (.ite (.cmp .lt (.var 1) (.bi .len (.cons (.var 0) .nil)))
  (.asg (.nm 2) (.idx (.var 0) (.var 1)))
  .nop)
  (.seq (.ite (.cmp .lt (.var 2) (.con (.int 0)))
  (.asg (.nm 2) (.bin .sub (.con (.int 1)) (.bin .mul (.con (.int 2)) (.var 2))))
  .nop)
  (.seq (.ite (.cmp .ge (.var 2) (.bin .pow (.con (.int 10)) (.con (.int 9))))
  (.ret (.var 2))
  .nop)
  (.seq (.asg (.nm 3) (.bin .mod (.bi .int (.cons (.bin .add (.bin .mul (.bin .add (.bin .add (.var 2) (.bin .mul (.con (.int 7919)) (.var 1))) (.con (.int 1))) (.con (.int 6364136223846793005))) (.con (.int 1442695040888963407))) .nil)) (.con (.int 2305843009213693951))))
  (.ret (.bin .mod (.bi .int (.cons (.bin .add (.bin .add (.bin .mul (.var 3) (.var 3)) (.bin .mul (.con (.int 104729)) (.var 1))) (.con (.int 977))) .nil)) (.con (.int 2305843009213693951)))))))))
def fd__law_row : Fd := ⟨2, 2, body__law_row⟩
/-! _law_digit: 0 script, 1 state, 2 many, 3 digit -/
def body__law_digit : VM.St := (.seq (.ite (.cmp .eq (.idx (.var 1) (.con (.int 0))) (.con (.int 0)))
  (.seq (.seti (.var 1) (.con (.int 0)) (.call f__law_row (.cons (.var 0) (.cons (.idx (.var 1) (.con (.int 1))) .nil))))
  (.seti (.var 1) (.con (.int 1)) (.bin .add (.idx (.var 1) (.con (.int 1))) (.con (.int 1)))))
  .nop)
  (.seq (.asg (.nm 3) (.bin .mod (.bi .int (.cons (.idx (.var 1) (.con (.int 0))) .nil)) (.var 2)))
  (.seq (.seti (.var 1) (.con (.int 0)) (.bin .fdiv (.idx (.var 1) (.con (.int 0))) (.var 2)))
  (.ret (.var 3)))))
def fd__law_digit : Fd := ⟨3, 1, body__law_digit⟩
/-! _law_codes: 0 script, 1 state, 2 style, 3 low, 4 named, 5 high, 6 start -/
def body__law_codes : VM.St := (.seq (.asg (.nm 2) (.call f__law_digit (.cons (.var 0) (.cons (.var 1) (.cons (.con (.int 16)) .nil)))))
  (.seq (.ite (.cmp .lt (.var 2) (.con (.int 9)))
  (.seq (.asg (.nm 3) (.bin .add (.con (.int 97)) (.bin .mod (.bi .int (.cons (.var 2) .nil)) (.con (.int 3)))))
  (.ret (.tup (.cons (.tup (.cons (.var 3) (.cons (.bin .add (.var 3) (.con (.int 1))) .nil))) .nil))))
  .nop)
  (.seq (.ite (.cmp .lt (.var 2) (.con (.int 11)))
  (.ret (.tup (.cons (.tup (.cons (.con (.int 97)) (.cons (.bin .sub (.bin .add (.con (.int 99)) (.var 2)) (.con (.int 9))) .nil))) .nil)))
  .nop)
  (.seq (.ite (.cmp .eq (.var 2) (.con (.int 11)))
  (.ret (.tup (.cons (.tup (.cons (.con (.int 0)) (.cons (.con (.int 10)) .nil))) (.cons (.tup (.cons (.con (.int 11)) (.cons (.con (.int 13)) .nil))) (.cons (.tup (.cons (.con (.int 14)) (.cons (.con (.int 128)) .nil))) .nil)))))
  .nop)
  (.seq (.ite (.cmp .eq (.var 2) (.con (.int 12)))
  (.seq (.asg (.nm 4) (.lst (.cons (.tup .nil) (.cons (.tup (.cons (.tup (.cons (.con (.int 0)) (.cons (.con (.int 128)) .nil))) .nil)) (.cons (.tup (.cons (.tup (.cons (.con (.int 48)) (.cons (.con (.int 58)) .nil))) (.cons (.tup (.cons (.con (.int 65)) (.cons (.con (.int 91)) .nil))) (.cons (.tup (.cons (.con (.int 95)) (.cons (.con (.int 96)) .nil))) (.cons (.tup (.cons (.con (.int 97)) (.cons (.con (.int 123)) .nil))) .nil))))) (.cons (.tup (.cons (.tup (.cons (.con (.int 10)) (.cons (.con (.int 11)) .nil))) (.cons (.tup (.cons (.con (.int 13)) (.cons (.con (.int 14)) .nil))) .nil))) .nil))))))
  (.ret (.idx (.var 4) (.call f__law_digit (.cons (.var 0) (.cons (.var 1) (.cons (.con (.int 4)) .nil)))))))
  .nop)
  (.seq (.ite (.cmp .eq (.var 2) (.con (.int 13)))
  (.seq (.asg (.nm 3) (.call f__law_digit (.cons (.var 0) (.cons (.var 1) (.cons (.con (.int 60)) .nil)))))
  (.seq (.asg (.nm 5) (.bin .add (.bin .add (.var 3) (.con (.int 1))) (.call f__law_digit (.cons (.var 0) (.cons (.var 1) (.cons (.con (.int 30)) .nil))))))
  (.seq (.asg (.nm 6) (.bin .add (.bin .add (.var 5) (.con (.int 1))) (.call f__law_digit (.cons (.var 0) (.cons (.var 1) (.cons (.con (.int 20)) .nil))))))
  (.ret (.tup (.cons (.tup (.cons (.var 3) (.cons (.var 5) .nil))) (.cons (.tup (.cons (.var 6) (.cons (.bin .add (.bin .add (.var 6) (.con (.int 1))) (.call f__law_digit (.cons (.var 0) (.cons (.var 1) (.cons (.con (.int 17)) .nil))))) .nil))) .nil)))))))
  .nop)
  (.seq (.asg (.nm 3) (.call f__law_digit (.cons (.var 0) (.cons (.var 1) (.cons (.con (.int 128)) .nil)))))
  (.ret (.tup (.cons (.tup (.cons (.var 3) (.cons (.bin .add (.bin .add (.var 3) (.con (.int 1))) (.call f__law_digit (.cons (.var 0) (.cons (.var 1) (.cons (.bin .sub (.con (.int 128)) (.var 3)) .nil))))) .nil))) .nil))))))))))
def fd__law_codes : Fd := ⟨2, 5, body__law_codes⟩
/-! _law_leaf: 0 script, 1 state, 2 kind, 3 names -/
def body__law_leaf : VM.St := (.seq (.ite (.cmp .lt (.var 2) (.con (.int 13)))
  (.ret (.tup (.cons (.con (.str "set")) (.cons (.call f__law_codes (.cons (.var 0) (.cons (.var 1) .nil))) .nil))))
  .nop)
  (.seq (.ite (.cmp .eq (.var 2) (.con (.int 13)))
  (.ret (.tup (.cons (.con (.str "empty")) .nil)))
  .nop)
  (.seq (.asg (.nm 3) (.lst (.cons (.con (.str "text_start")) (.cons (.con (.str "text_end")) (.cons (.con (.str "line_start")) (.cons (.con (.str "line_end")) (.cons (.con (.str "word_boundary")) (.cons (.con (.str "no_word_boundary")) .nil))))))))
  (.ret (.tup (.cons (.con (.str "anchor")) (.cons (.idx (.var 3) (.call f__law_digit (.cons (.var 0) (.cons (.var 1) (.cons (.con (.int 6)) .nil))))) .nil)))))))
def fd__law_leaf : Fd := ⟨3, 1, body__law_leaf⟩
/-! _law_repeat: 0 script, 1 state, 2 depth, 3 least, 4 most, 5 greedy -/
def body__law_repeat : VM.St := (.seq (.asg (.nm 3) (.call f__law_digit (.cons (.var 0) (.cons (.var 1) (.cons (.con (.int 3)) .nil)))))
  (.seq (.asg (.nm 4) (.con .none))
  (.seq (.ite (.cmp .eq (.call f__law_digit (.cons (.var 0) (.cons (.var 1) (.cons (.con (.int 2)) .nil)))) (.con (.int 1)))
  (.asg (.nm 4) (.bin .add (.var 3) (.call f__law_digit (.cons (.var 0) (.cons (.var 1) (.cons (.con (.int 3)) .nil))))))
  .nop)
  (.seq (.asg (.nm 5) (.cmp .gt (.call f__law_digit (.cons (.var 0) (.cons (.var 1) (.cons (.con (.int 3)) .nil)))) (.con (.int 0))))
  (.ret (.tup (.cons (.con (.str "repeat")) (.cons (.call f__law_tree (.cons (.var 0) (.cons (.var 1) (.cons (.bin .sub (.var 2) (.con (.int 1))) .nil)))) (.cons (.var 3) (.cons (.var 4) (.cons (.var 5) .nil)))))))))))
def fd__law_repeat : Fd := ⟨3, 3, body__law_repeat⟩
/-! _law_tree: 0 script, 1 state, 2 depth, 3 kind, 4 first, 5 number, 6 ahead, 7 positive -/
def body__law_tree : VM.St := (.seq (.asg (.nm 3) (.call f__law_digit (.cons (.var 0) (.cons (.var 1) (.cons (.con (.int 15)) .nil)))))
  (.seq (.ite (.or (.cmp .eq (.var 2) (.con (.int 0))) (.or (.cmp .eq (.var 3) (.con (.int 0))) (.cmp .eq (.var 3) (.con (.int 14)))))
  (.ret (.call f__law_leaf (.cons (.var 0) (.cons (.var 1) (.cons (.var 3) .nil)))))
  .nop)
  (.seq (.ite (.cmp .lt (.var 3) (.con (.int 5)))
  (.seq (.asg (.nm 4) (.call f__law_tree (.cons (.var 0) (.cons (.var 1) (.cons (.bin .sub (.var 2) (.con (.int 1))) .nil)))))
  (.ret (.tup (.cons (.con (.str "sequence")) (.cons (.var 4) (.cons (.call f__law_tree (.cons (.var 0) (.cons (.var 1) (.cons (.bin .sub (.var 2) (.con (.int 1))) .nil)))) .nil))))))
  .nop)
  (.seq (.ite (.cmp .lt (.var 3) (.con (.int 8)))
  (.seq (.asg (.nm 4) (.call f__law_tree (.cons (.var 0) (.cons (.var 1) (.cons (.bin .sub (.var 2) (.con (.int 1))) .nil)))))
  (.ret (.tup (.cons (.con (.str "choice")) (.cons (.var 4) (.cons (.call f__law_tree (.cons (.var 0) (.cons (.var 1) (.cons (.bin .sub (.var 2) (.con (.int 1))) .nil)))) .nil))))))
  .nop)
  (.seq (.ite (.cmp .lt (.var 3) (.con (.int 11)))
  (.ret (.call f__law_repeat (.cons (.var 0) (.cons (.var 1) (.cons (.var 2) .nil)))))
  .nop)
  (.seq (.ite (.or (.cmp .lt (.var 3) (.con (.int 13))) (.cmp .gt (.idx (.var 1) (.con (.int 3))) (.con (.int 2))))
  (.seq (.asg (.nm 5) (.idx (.var 1) (.con (.int 2))))
  (.seq (.seti (.var 1) (.con (.int 2)) (.bin .add (.var 5) (.con (.int 1))))
  (.ret (.tup (.cons (.con (.str "group")) (.cons (.var 5) (.cons (.call f__law_tree (.cons (.var 0) (.cons (.var 1) (.cons (.bin .sub (.var 2) (.con (.int 1))) .nil)))) .nil)))))))
  .nop)
  (.seq (.seti (.var 1) (.con (.int 3)) (.bin .add (.idx (.var 1) (.con (.int 3))) (.con (.int 1))))
  (.seq (.asg (.nm 6) (.cmp .eq (.call f__law_digit (.cons (.var 0) (.cons (.var 1) (.cons (.con (.int 2)) .nil)))) (.con (.int 0))))
  (.seq (.asg (.nm 7) (.cmp .gt (.call f__law_digit (.cons (.var 0) (.cons (.var 1) (.cons (.con (.int 3)) .nil)))) (.con (.int 0))))
  (.ret (.tup (.cons (.con (.str "look")) (.cons (.var 6) (.cons (.var 7) (.cons (.call f__law_tree (.cons (.var 0) (.cons (.var 1) (.cons (.bin .sub (.var 2) (.con (.int 1))) .nil)))) .nil)))))))))))))))
def fd__law_tree : Fd := ⟨3, 5, body__law_tree⟩
/-! _law_text: 0 script, 1 state, 2 most, 3 signs, 4 size, 5 k -/
def body__law_text : VM.St := (.seq (.asg (.nm 3) (.con (.str " !\"#$&'()*+,-./0123456789:;<=>?@ABCDEFGHIJKLMNOPQRSTUVWXYZ[\\]^_`")))
  (.seq (.asg (.nm 3) (.bin .add (.var 3) (.con (.str "abcdefghijklmnopqrstuvwxyz{|}~\n\t"))))
  (.seq (.asg (.nm 3) (.idx (.lst (.cons (.con (.str "ab")) (.cons (.con (.str "abc")) (.cons (.con (.str "aab")) (.cons (.con (.str "abA_ 1\n-")) (.cons (.con (.str "ab\n")) (.cons (.var 3) .nil))))))) (.call f__law_digit (.cons (.var 0) (.cons (.var 1) (.cons (.con (.int 6)) .nil))))))
  (.seq (.asg (.nm 4) (.bi .max (.cons (.call f__law_digit (.cons (.var 0) (.cons (.var 1) (.cons (.bin .add (.var 2) (.con (.int 1))) .nil)))) (.cons (.call f__law_digit (.cons (.var 0) (.cons (.var 1) (.cons (.bin .add (.var 2) (.con (.int 1))) .nil)))) .nil))))
  (.ret (.bm .join (.con (.str "")) (.cons (.lc [5] (.nm 5) (.rg1 (.var 4)) .none (.idx (.var 3) (.call f__law_digit (.cons (.var 0) (.cons (.var 1) (.cons (.bi .len (.cons (.var 3) .nil)) .nil)))))) .nil)))))))
def fd__law_text : Fd := ⟨3, 3, body__law_text⟩
/-! _law_same: 0 actual, 1 expected, 2 k -/
def body__law_same : VM.St := (.seq (.ite (.cmp .isn (.var 1) (.con .none))
  (.ret (.cmp .isn (.var 0) (.con .none)))
  .nop)
  (.seq (.ite (.val (.isi "bool" (.var 1)))
  (.ret (.and (.isi "bool" (.var 0)) (.cmp .eq (.var 0) (.var 1))))
  .nop)
  (.seq (.ite (.val (.isi "int" (.var 1)))
  (.ret (.and (.isi "int" (.var 0)) (.and (.not (.isi "bool" (.var 0))) (.cmp .eq (.var 0) (.var 1)))))
  .nop)
  (.seq (.ite (.val (.isi "str" (.var 1)))
  (.ret (.and (.isi "str" (.var 0)) (.cmp .eq (.var 0) (.var 1))))
  .nop)
  (.seq (.ite (.and (.val (.isi "tuple" (.var 1))) (.not (.val (.isi "tuple" (.var 0)))))
  (.ret (.con (.bool false)))
  .nop)
  (.seq (.ite (.and (.val (.isi "list" (.var 1))) (.not (.val (.isi "list" (.var 0)))))
  (.ret (.con (.bool false)))
  .nop)
  (.seq (.ite (.cmp .ne (.bi .len (.cons (.var 0) .nil)) (.bi .len (.cons (.var 1) .nil)))
  (.ret (.con (.bool false)))
  .nop)
  (.seq (.for_ (.nm 2) (.rg1 (.bi .len (.cons (.var 1) .nil)))
  (.ite (.not (.val (.call f__law_same (.cons (.idx (.var 0) (.var 2)) (.cons (.idx (.var 1) (.var 2)) .nil)))))
  (.ret (.con (.bool false)))
  .nop) [2])
  (.ret (.con (.bool true)))))))))))
def fd__law_same : Fd := ⟨2, 1, body__law_same⟩
/-! _law_mirror: 0 tree, 1 swapped -/
def body__law_mirror : VM.St := (.seq (.asg (.nm 1) (.ddc [("text_start", "text_end"), ("text_end", "text_start"), ("line_start", "line_end"), ("line_end", "line_start")]))
  (.seq (.ite (.cmp .eq (.idx (.var 0) (.con (.int 0))) (.con (.str "sequence")))
  (.ret (.tup (.cons (.con (.str "sequence")) (.cons (.call f__law_mirror (.cons (.idx (.var 0) (.con (.int 2))) .nil)) (.cons (.call f__law_mirror (.cons (.idx (.var 0) (.con (.int 1))) .nil)) .nil)))))
  .nop)
  (.seq (.ite (.cmp .eq (.idx (.var 0) (.con (.int 0))) (.con (.str "choice")))
  (.ret (.tup (.cons (.con (.str "choice")) (.cons (.call f__law_mirror (.cons (.idx (.var 0) (.con (.int 1))) .nil)) (.cons (.call f__law_mirror (.cons (.idx (.var 0) (.con (.int 2))) .nil)) .nil)))))
  .nop)
  (.seq (.ite (.cmp .eq (.idx (.var 0) (.con (.int 0))) (.con (.str "repeat")))
  (.ret (.tup (.cons (.con (.str "repeat")) (.cons (.call f__law_mirror (.cons (.idx (.var 0) (.con (.int 1))) .nil)) (.cons (.idx (.var 0) (.con (.int 2))) (.cons (.idx (.var 0) (.con (.int 3))) (.cons (.idx (.var 0) (.con (.int 4))) .nil)))))))
  .nop)
  (.seq (.ite (.cmp .eq (.idx (.var 0) (.con (.int 0))) (.con (.str "group")))
  (.ret (.tup (.cons (.con (.str "group")) (.cons (.idx (.var 0) (.con (.int 1))) (.cons (.call f__law_mirror (.cons (.idx (.var 0) (.con (.int 2))) .nil)) .nil)))))
  .nop)
  (.seq (.ite (.cmp .eq (.idx (.var 0) (.con (.int 0))) (.con (.str "look")))
  (.ret (.tup (.cons (.con (.str "look")) (.cons (.not (.idx (.var 0) (.con (.int 1)))) (.cons (.idx (.var 0) (.con (.int 2))) (.cons (.call f__law_mirror (.cons (.idx (.var 0) (.con (.int 3))) .nil)) .nil))))))
  .nop)
  (.seq (.ite (.cmp .eq (.idx (.var 0) (.con (.int 0))) (.con (.str "anchor")))
  (.ret (.tup (.cons (.con (.str "anchor")) (.cons (.dgt (.var 1) (.idx (.var 0) (.con (.int 1))) (.idx (.var 0) (.con (.int 1)))) .nil))))
  .nop)
  (.ret (.var 0)))))))))
def fd__law_mirror : Fd := ⟨1, 1, body__law_mirror⟩
/-! _law_numbered: 0 tree, 1 order, 2 first, 3 number -/
def body__law_numbered : VM.St := (.seq (.ite (.or (.cmp .eq (.idx (.var 0) (.con (.int 0))) (.con (.str "sequence"))) (.cmp .eq (.idx (.var 0) (.con (.int 0))) (.con (.str "choice"))))
  (.seq (.asg (.nm 2) (.call f__law_numbered (.cons (.idx (.var 0) (.con (.int 1))) (.cons (.var 1) .nil))))
  (.ret (.tup (.cons (.idx (.var 0) (.con (.int 0))) (.cons (.var 2) (.cons (.call f__law_numbered (.cons (.idx (.var 0) (.con (.int 2))) (.cons (.var 1) .nil))) .nil))))))
  .nop)
  (.seq (.ite (.cmp .eq (.idx (.var 0) (.con (.int 0))) (.con (.str "repeat")))
  (.ret (.tup (.cons (.con (.str "repeat")) (.cons (.call f__law_numbered (.cons (.idx (.var 0) (.con (.int 1))) (.cons (.var 1) .nil))) (.cons (.idx (.var 0) (.con (.int 2))) (.cons (.idx (.var 0) (.con (.int 3))) (.cons (.idx (.var 0) (.con (.int 4))) .nil)))))))
  .nop)
  (.seq (.ite (.cmp .eq (.idx (.var 0) (.con (.int 0))) (.con (.str "group")))
  (.seq (.asg (.nm 3) (.bi .len (.cons (.var 1) .nil)))
  (.seq (.exp (.bm .append (.var 1) (.cons (.idx (.var 0) (.con (.int 1))) .nil)))
  (.ret (.tup (.cons (.con (.str "group")) (.cons (.var 3) (.cons (.call f__law_numbered (.cons (.idx (.var 0) (.con (.int 2))) (.cons (.var 1) .nil))) .nil)))))))
  .nop)
  (.seq (.ite (.cmp .eq (.idx (.var 0) (.con (.int 0))) (.con (.str "look")))
  (.ret (.tup (.cons (.con (.str "look")) (.cons (.idx (.var 0) (.con (.int 1))) (.cons (.idx (.var 0) (.con (.int 2))) (.cons (.call f__law_numbered (.cons (.idx (.var 0) (.con (.int 3))) (.cons (.var 1) .nil))) .nil))))))
  .nop)
  (.ret (.var 0))))))
def fd__law_numbered : Fd := ⟨2, 2, body__law_numbered⟩
/-! _law_turned: 0 way, 1 size, 2 order, 3 groups, 4 k, 5 pair -/
def body__law_turned : VM.St := (.seq (.asg (.nm 3) (.own (.lst .nil)))
  (.seq (.for_ (.nm 4) (.rg1 (.bi .len (.cons (.var 2) .nil)))
  (.seq (.asg (.nm 5) (.idx (.idx (.var 0) (.con (.int 1))) (.bm .index (.var 2) (.cons (.var 4) .nil))))
  (.ite (.cmp .isn (.var 5) (.con .none))
  (.exp (.bm .append (.var 3) (.cons (.con .none) .nil)))
  (.exp (.bm .append (.var 3) (.cons (.tup (.cons (.bin .sub (.var 1) (.idx (.var 5) (.con (.int 1)))) (.cons (.bin .sub (.var 1) (.idx (.var 5) (.con (.int 0)))) .nil))) .nil))))) [4, 5])
  (.ret (.tup (.cons (.bin .sub (.var 1) (.idx (.var 0) (.con (.int 0)))) (.cons (.bi .tuple (.cons (.var 3) .nil)) .nil))))))
def fd__law_turned : Fd := ⟨3, 3, body__law_turned⟩
/-! law: 0 script, 1 state, 2 tree, 3 text, 4 size, 5 groups, 6 order, 7 mirror, 8 reverse, 9 at, 10 found, 11 expected, 12 k, 13 way -/
def body_law : VM.St := (.seq (.asg (.nm 1) (.own (.lst (.cons (.con (.int 0)) (.cons (.con (.int 0)) (.cons (.con (.int 0)) (.cons (.con (.int 0)) .nil)))))))
  (.seq (.asg (.nm 2) (.call f__law_tree (.cons (.var 0) (.cons (.var 1) (.cons (.bin .add (.con (.int 2)) (.call f__law_digit (.cons (.var 0) (.cons (.var 1) (.cons (.con (.int 2)) .nil))))) .nil)))))
  (.seq (.asg (.nm 3) (.call f__law_text (.cons (.var 0) (.cons (.var 1) (.cons (.con (.int 7)) .nil)))))
  (.seq (.asg (.nm 4) (.bi .len (.cons (.var 3) .nil)))
  (.seq (.asg (.nm 5) (.bi .tuple (.cons (.lc [12] (.nm 12) (.rg1 (.idx (.var 1) (.con (.int 2)))) .none (.con .none)) .nil)))
  (.seq (.asg (.nm 6) (.own (.lst .nil)))
  (.seq (.asg (.nm 7) (.call f__law_numbered (.cons (.call f__law_mirror (.cons (.var 2) .nil)) (.cons (.var 6) .nil))))
  (.seq (.asg (.nm 8) (.bm .join (.con (.str "")) (.cons (.lc [12] (.nm 12) (.rg1 (.var 4)) .none (.idx (.var 3) (.bin .sub (.bin .sub (.var 4) (.con (.int 1))) (.var 12)))) .nil)))
  (.seq (.for_ (.nm 9) (.rg1 (.bin .add (.var 4) (.con (.int 1))))
  (.seq (.asg (.nm 10) (.call f_ways (.cons (.var 7) (.cons (.var 8) (.cons (.bin .sub (.var 4) (.var 9)) (.cons (.var 5) (.cons (.con (.bool false)) .nil)))))))
  (.seq (.asg (.nm 11) (.lc [13] (.nm 13) (.sq (.var 10)) .none (.call f__law_turned (.cons (.var 13) (.cons (.var 4) (.cons (.var 6) .nil))))))
  (.ite (.not (.val (.call f__law_same (.cons (.call f_ways (.cons (.var 2) (.cons (.var 3) (.cons (.var 9) (.cons (.var 5) (.cons (.con (.bool true)) .nil)))))) (.cons (.var 11) .nil)))))
  (.ret (.con (.bool false)))
  .nop))) [9, 10, 11])
  (.ret (.con (.bool true))))))))))))
def fd_law : Fd := ⟨1, 13, body_law⟩
def tb : Nat → Fd
  | 0 => fd_contains
  | 1 => fd__is_in
  | 2 => fd_anchor_holds
  | 3 => fd_clearing
  | 4 => fd_both
  | 5 => fd_changed
  | 6 => fd_parts
  | 7 => fd_bottom_up
  | 8 => fd_bottom_up_directed
  | 9 => fd_inner_groups
  | 10 => fd_make_plan
  | 11 => fd__add
  | 12 => fd__add_part
  | 13 => fd__add_repeat
  | 14 => fd_Finder___init__
  | 15 => fd_Finder_ways_from
  | 16 => fd_Finder__solved
  | 17 => fd_Finder__missing
  | 18 => fd_Finder__chained
  | 19 => fd_Finder__found
  | 20 => fd_Finder__code
  | 21 => fd_Finder__holds
  | 22 => fd_Finder__set_ways
  | 23 => fd_Finder__chain_ways
  | 24 => fd__once
  | 25 => fd__group_ways
  | 26 => fd__look_ways
  | 27 => fd_ways
  | 28 => fd__law_row
  | 29 => fd__law_digit
  | 30 => fd__law_codes
  | 31 => fd__law_leaf
  | 32 => fd__law_repeat
  | 33 => fd__law_tree
  | 34 => fd__law_text
  | 35 => fd__law_same
  | 36 => fd__law_mirror
  | 37 => fd__law_numbered
  | 38 => fd__law_turned
  | 39 => fd_law
  | _ => ⟨0, 0, .nop⟩
theorem run_contains (n : Nat) (es : List En) (S : Stv) : run tb (n + 1) f_contains es S = runF (cbOf tb n) fd_contains es S := run_succ tb n _ es S
theorem run__is_in (n : Nat) (es : List En) (S : Stv) : run tb (n + 1) f__is_in es S = runF (cbOf tb n) fd__is_in es S := run_succ tb n _ es S
theorem run_anchor_holds (n : Nat) (es : List En) (S : Stv) : run tb (n + 1) f_anchor_holds es S = runF (cbOf tb n) fd_anchor_holds es S := run_succ tb n _ es S
theorem run_clearing (n : Nat) (es : List En) (S : Stv) : run tb (n + 1) f_clearing es S = runF (cbOf tb n) fd_clearing es S := run_succ tb n _ es S
theorem run_both (n : Nat) (es : List En) (S : Stv) : run tb (n + 1) f_both es S = runF (cbOf tb n) fd_both es S := run_succ tb n _ es S
theorem run_changed (n : Nat) (es : List En) (S : Stv) : run tb (n + 1) f_changed es S = runF (cbOf tb n) fd_changed es S := run_succ tb n _ es S
theorem run_parts (n : Nat) (es : List En) (S : Stv) : run tb (n + 1) f_parts es S = runF (cbOf tb n) fd_parts es S := run_succ tb n _ es S
theorem run_bottom_up (n : Nat) (es : List En) (S : Stv) : run tb (n + 1) f_bottom_up es S = runF (cbOf tb n) fd_bottom_up es S := run_succ tb n _ es S
theorem run_bottom_up_directed (n : Nat) (es : List En) (S : Stv) : run tb (n + 1) f_bottom_up_directed es S = runF (cbOf tb n) fd_bottom_up_directed es S := run_succ tb n _ es S
theorem run_inner_groups (n : Nat) (es : List En) (S : Stv) : run tb (n + 1) f_inner_groups es S = runF (cbOf tb n) fd_inner_groups es S := run_succ tb n _ es S
theorem run_make_plan (n : Nat) (es : List En) (S : Stv) : run tb (n + 1) f_make_plan es S = runF (cbOf tb n) fd_make_plan es S := run_succ tb n _ es S
theorem run__add (n : Nat) (es : List En) (S : Stv) : run tb (n + 1) f__add es S = runF (cbOf tb n) fd__add es S := run_succ tb n _ es S
theorem run__add_part (n : Nat) (es : List En) (S : Stv) : run tb (n + 1) f__add_part es S = runF (cbOf tb n) fd__add_part es S := run_succ tb n _ es S
theorem run__add_repeat (n : Nat) (es : List En) (S : Stv) : run tb (n + 1) f__add_repeat es S = runF (cbOf tb n) fd__add_repeat es S := run_succ tb n _ es S
theorem run_Finder___init__ (n : Nat) (es : List En) (S : Stv) : run tb (n + 1) f_Finder___init__ es S = runF (cbOf tb n) fd_Finder___init__ es S := run_succ tb n _ es S
theorem run_Finder_ways_from (n : Nat) (es : List En) (S : Stv) : run tb (n + 1) f_Finder_ways_from es S = runF (cbOf tb n) fd_Finder_ways_from es S := run_succ tb n _ es S
theorem run_Finder__solved (n : Nat) (es : List En) (S : Stv) : run tb (n + 1) f_Finder__solved es S = runF (cbOf tb n) fd_Finder__solved es S := run_succ tb n _ es S
theorem run_Finder__missing (n : Nat) (es : List En) (S : Stv) : run tb (n + 1) f_Finder__missing es S = runF (cbOf tb n) fd_Finder__missing es S := run_succ tb n _ es S
theorem run_Finder__chained (n : Nat) (es : List En) (S : Stv) : run tb (n + 1) f_Finder__chained es S = runF (cbOf tb n) fd_Finder__chained es S := run_succ tb n _ es S
theorem run_Finder__found (n : Nat) (es : List En) (S : Stv) : run tb (n + 1) f_Finder__found es S = runF (cbOf tb n) fd_Finder__found es S := run_succ tb n _ es S
theorem run_Finder__code (n : Nat) (es : List En) (S : Stv) : run tb (n + 1) f_Finder__code es S = runF (cbOf tb n) fd_Finder__code es S := run_succ tb n _ es S
theorem run_Finder__holds (n : Nat) (es : List En) (S : Stv) : run tb (n + 1) f_Finder__holds es S = runF (cbOf tb n) fd_Finder__holds es S := run_succ tb n _ es S
theorem run_Finder__set_ways (n : Nat) (es : List En) (S : Stv) : run tb (n + 1) f_Finder__set_ways es S = runF (cbOf tb n) fd_Finder__set_ways es S := run_succ tb n _ es S
theorem run_Finder__chain_ways (n : Nat) (es : List En) (S : Stv) : run tb (n + 1) f_Finder__chain_ways es S = runF (cbOf tb n) fd_Finder__chain_ways es S := run_succ tb n _ es S
theorem run__once (n : Nat) (es : List En) (S : Stv) : run tb (n + 1) f__once es S = runF (cbOf tb n) fd__once es S := run_succ tb n _ es S
theorem run__group_ways (n : Nat) (es : List En) (S : Stv) : run tb (n + 1) f__group_ways es S = runF (cbOf tb n) fd__group_ways es S := run_succ tb n _ es S
theorem run__look_ways (n : Nat) (es : List En) (S : Stv) : run tb (n + 1) f__look_ways es S = runF (cbOf tb n) fd__look_ways es S := run_succ tb n _ es S
theorem run_ways (n : Nat) (es : List En) (S : Stv) : run tb (n + 1) f_ways es S = runF (cbOf tb n) fd_ways es S := run_succ tb n _ es S
theorem run__law_row (n : Nat) (es : List En) (S : Stv) : run tb (n + 1) f__law_row es S = runF (cbOf tb n) fd__law_row es S := run_succ tb n _ es S
theorem run__law_digit (n : Nat) (es : List En) (S : Stv) : run tb (n + 1) f__law_digit es S = runF (cbOf tb n) fd__law_digit es S := run_succ tb n _ es S
theorem run__law_codes (n : Nat) (es : List En) (S : Stv) : run tb (n + 1) f__law_codes es S = runF (cbOf tb n) fd__law_codes es S := run_succ tb n _ es S
theorem run__law_leaf (n : Nat) (es : List En) (S : Stv) : run tb (n + 1) f__law_leaf es S = runF (cbOf tb n) fd__law_leaf es S := run_succ tb n _ es S
theorem run__law_repeat (n : Nat) (es : List En) (S : Stv) : run tb (n + 1) f__law_repeat es S = runF (cbOf tb n) fd__law_repeat es S := run_succ tb n _ es S
theorem run__law_tree (n : Nat) (es : List En) (S : Stv) : run tb (n + 1) f__law_tree es S = runF (cbOf tb n) fd__law_tree es S := run_succ tb n _ es S
theorem run__law_text (n : Nat) (es : List En) (S : Stv) : run tb (n + 1) f__law_text es S = runF (cbOf tb n) fd__law_text es S := run_succ tb n _ es S
theorem run__law_same (n : Nat) (es : List En) (S : Stv) : run tb (n + 1) f__law_same es S = runF (cbOf tb n) fd__law_same es S := run_succ tb n _ es S
theorem run__law_mirror (n : Nat) (es : List En) (S : Stv) : run tb (n + 1) f__law_mirror es S = runF (cbOf tb n) fd__law_mirror es S := run_succ tb n _ es S
theorem run__law_numbered (n : Nat) (es : List En) (S : Stv) : run tb (n + 1) f__law_numbered es S = runF (cbOf tb n) fd__law_numbered es S := run_succ tb n _ es S
theorem run__law_turned (n : Nat) (es : List En) (S : Stv) : run tb (n + 1) f__law_turned es S = runF (cbOf tb n) fd__law_turned es S := run_succ tb n _ es S
theorem run_law (n : Nat) (es : List En) (S : Stv) : run tb (n + 1) f_law es S = runF (cbOf tb n) fd_law es S := run_succ tb n _ es S
end Lw
end

section
set_option Elab.async false
set_option linter.all false
set_option maxRecDepth 100000
set_option maxHeartbeats 4000000
namespace Lw
open PySem PySem.Spec PyProof.Rows L2 DL VM
/-! ### loops -/
open Classical in
theorem loopF_inv {f : En → Rho → Stv → Fl} {ch : Option (Nat × Cell)} {ks : List Nat} {n0 : Nat} (I : Nat → Rho → Stv → Prop) : ∀ (es : List En) (k : Nat) (ρ : Rho) (S : Stv), I k ρ S →
    (∀ i e ρ S, es[i]? = some e → I (k + i) ρ S → ∃ ρ' S', (f e ρ S = .nx ρ' S' ∨ f e ρ S = .ct ρ' S') ∧ chk ch (trim n0 (kill ks ρ') S') ∧ I (k + i + 1) (kill ks ρ') (trim n0 (kill ks ρ') S')) → ∃ ρ' S', loopF f ch ks n0 es ρ S = .nx ρ' S' ∧ I (k + es.length) ρ' S'
  | [], k, ρ, S, h, _ => ⟨ρ, S, rfl, h⟩
  | e :: es, k, ρ, S, h, hs => by
    obtain ⟨ρ', S', h1, h2, h3⟩ := hs 0 e ρ S rfl h
    obtain ⟨ρ2, S2, h4, h5⟩ := loopF_inv I es (k + 1) (kill ks ρ') (trim n0 (kill ks ρ') S') h3 fun i e ρ S he hi => by
      have := hs (i + 1) e ρ S he (by rw [← Nat.add_assoc, Nat.add_right_comm]; exact hi)
      rw [show k + 1 + i + 1 = k + (i + 1) + 1 by omega]
      exact this
    refine ⟨ρ2, S2, ?_, by rw [List.length_cons, show k + (es.length + 1) = k + 1 + es.length by omega]; exact h5⟩
    rw [loopF]
    rcases h1 with h1 | h1
    · rw [h1]
      show (if chk ch (trim n0 (kill ks ρ') S') then loopF f ch ks n0 es (kill ks ρ') (trim n0 (kill ks ρ') S') else .bad) = _
      rw [if_pos h2]
      exact h4
    · rw [h1]
      show (if chk ch (trim n0 (kill ks ρ') S') then loopF f ch ks n0 es (kill ks ρ') (trim n0 (kill ks ρ') S') else .bad) = _
      rw [if_pos h2]
      exact h4
/-- a loop that leaves all as it is -/
theorem loopF_same {f : En → Rho → Stv → Fl} {ch : Option (Nat × Cell)} {ks : List Nat} {n0 : Nat} {ρ : Rho} {S : Stv} {es : List En} (hc : chk ch S) (h : ∀ e ∈ es, ∃ ρ' S', f e ρ S = .nx ρ' S' ∧ kill ks ρ' = ρ ∧ trim n0 ρ S' = S) : loopF f ch ks n0 es ρ S = .nx ρ S := by
  obtain ⟨ρ', S', h1, rfl, rfl⟩ := loopF_inv (f := f) (ch := ch) (ks := ks) (n0 := n0) (fun _ ρ' S' => ρ' = ρ ∧ S' = S) es 0 ρ S ⟨rfl, rfl⟩ fun i e ρ1 S1 he hi => by
    obtain ⟨rfl, rfl⟩ := hi
    obtain ⟨ρ', S', h1, h2, h3⟩ := h e (List.mem_of_getElem? he)
    refine ⟨ρ', S', .inl h1, ?_, h2, ?_⟩
    · rw [h2, h3]; exact hc
    · rw [h2, h3]
  exact h1
open Classical in
/-- a comprehension whose items change nothing -/
theorem lcF_map {t : Rho → Stv → Out Bool} {f : Rho → Stv → Out Rv} {b : En → Rho → Option Rho} {ch : Option (Nat × Cell)} {n0 : Nat} {ρ : Rho} {S : Stv} (g : En → PyData) (hc : chk ch S) (hn : S.length ≤ n0) : ∀ (es : List En) (acc : List PyData), acc.length + es.length ≤ big → (∀ e ∈ es, ∃ ρ1 r, b e ρ = some ρ1 ∧ t ρ1 S = .ok true S ∧ f ρ1 S = .ok r S ∧ rvD r = some (g e)) →
    lcF t f b ch n0 ρ es acc S = .ok (acc ++ es.map g) S
  | [], acc, _, _ => by simp [lcF]
  | e :: es, acc, hl, h => by
    obtain ⟨ρ1, r, h1, h2, h3, h4⟩ := h e List.mem_cons_self
    have ht : trim n0 ρ S = S := by unfold trim; rw [if_pos hn]
    rw [List.length_cons] at hl
    rw [lcF, h1]
    simp only [h2, if_true, h3, h4, ht]
    rw [if_pos ⟨hc, show acc.length < big by omega⟩]
    rw [lcF_map g hc hn es (acc ++ [g e]) (by simp; omega) fun e' he => h e' (List.mem_cons_of_mem _ he)]
    simp
open Classical in
/-- a comprehension whose items keep a property of the store -/
theorem lcF_inv {t : Rho → Stv → Out Bool} {f : Rho → Stv → Out Rv} {b : En → Rho → Option Rho} {ch : Option (Nat × Cell)} {n0 : Nat} {ρ : Rho} (I : Stv → Prop) (P : PyData → Prop) : ∀ (es : List En) (acc : List PyData) (S : Stv), I S → acc.length + es.length ≤ big → (∀ e ∈ es, ∀ S, I S → ∃ ρ1 r S2 d, b e ρ = some ρ1 ∧ t ρ1 S = .ok true S ∧ f ρ1 S = .ok r S2 ∧ rvD r = some d ∧ P d ∧ chk ch (trim n0 ρ S2) ∧ I (trim n0 ρ S2)) →
    ∃ ds S', lcF t f b ch n0 ρ es acc S = .ok (acc ++ ds) S' ∧ ds.length = es.length ∧ (∀ d ∈ ds, P d) ∧ I S'
  | [], acc, S, hi, _, _ => ⟨[], S, by simp [lcF], rfl, nofun, hi⟩
  | e :: es, acc, S, hi, hl, h => by
    obtain ⟨ρ1, r, S2, d, h1, h2, h3, h4, h5, h6, h7⟩ := h e List.mem_cons_self S hi
    rw [List.length_cons] at hl
    obtain ⟨ds, S', g1, g2, g3, g4⟩ := lcF_inv I P es (acc ++ [d]) _ h7 (by simp; omega) fun e' he => h e' (List.mem_cons_of_mem _ he)
    refine ⟨d :: ds, S', ?_, by simp [g2], fun x hx => ?_, g4⟩
    · rw [lcF, h1]
      simp only [h2, if_true, h3, h4]
      rw [if_pos ⟨h6, show acc.length < big by omega⟩, g1]
      simp
    · rcases List.mem_cons.mp hx with rfl | hx
      · exact h5
      · exact g3 _ hx
@[simp] theorem rngD_0 (a : Int) : rngD a 0 = [] := by simp [rngD]
@[simp] theorem len_rngD (a : Int) (k : Nat) : (rngD a k).length = k := by simp [rngD]
theorem ofS_inj' {a b : String} (h : Str.ofString a = Str.ofString b) : a = b := by
  rw [Str.ofString_eq_toList, Str.ofString_eq_toList] at h
  injection h with h
  have h2 : a.toList.map Char.toNat = b.toList.map Char.toNat := by simpa using h
  have h3 : a.toList = b.toList := (List.map_inj_right (f := Char.toNat) fun x y e => by
    apply Char.ext
    exact UInt32.toNat_inj.mp e).mp h2
  exact String.toList_inj.mp h3
@[simp] theorem ofS_inj (a b : String) : (Str.ofString a = Str.ofString b) = (a = b) := propext ⟨ofS_inj', fun h => h ▸ rfl⟩
@[simp] theorem ofS_beq (a b : String) : (Str.ofString a == Str.ofString b) = decide (a = b) := by
  by_cases h : a = b
  · subst h; simp
  · have : Str.ofString a ≠ Str.ofString b := fun e => h (ofS_inj' e)
    simp [h, this]
theorem whileN_mono {t : Rho → Stv → Out Bool} {f : Rho → Stv → Fl} {ks : List Nat} {n0 : Nat} : ∀ (n m : Nat) (ρ : Rho) (S : Stv), n ≤ m → whileN t f ks n0 n ρ S ≠ .bad → whileN t f ks n0 m ρ S = whileN t f ks n0 n ρ S
  | 0, _, _, _, _, h => absurd rfl h
  | n + 1, 0, _, _, h, _ => by omega
  | n + 1, m + 1, ρ, S, h, hb => by
    unfold whileN at hb ⊢
    cases ht : t ρ S with
    | bad => rfl
    | ex c fs S1 => rfl
    | ok b S1 =>
      rw [ht] at hb
      simp only [Out.fl] at hb ⊢
      cases b with
      | false => rfl
      | true =>
        simp only [if_true] at hb ⊢
        cases hf : f ρ S1 with
        | nx ρ' S' =>
          rw [hf] at hb
          exact whileN_mono n m _ _ (by omega) hb
        | ct ρ' S' =>
          rw [hf] at hb
          exact whileN_mono n m _ _ (by omega) hb
        | _ => rfl
theorem whileF_of {t : Rho → Stv → Out Bool} {f : Rho → Stv → Fl} {ks : List Nat} {n0 : Nat} {n : Nat} {ρ : Rho} {S : Stv} {r : Fl} (h : whileN t f ks n0 n ρ S = r) (hr : r ≠ .bad) : whileF t f ks n0 ρ S = r := by
  have hn : whileN t f ks n0 n ρ S ≠ .bad := by rw [h]; exact hr
  have hx : ∃ n, whileN t f ks n0 n ρ S ≠ .bad := ⟨n, hn⟩
  unfold whileF
  rw [dif_pos hx]
  have hc := hx.choose_spec
  rcases Nat.le_total n hx.choose with hle | hle
  · rw [whileN_mono _ _ _ _ hle hn, h]
  · rw [← whileN_mono _ _ _ _ hle hc, h]
theorem whileN_end {t : Rho → Stv → Out Bool} {f : Rho → Stv → Fl} {ks : List Nat} {n0 n : Nat} {ρ : Rho} {S S1 : Stv} (h : t ρ S = .ok false S1) : whileN t f ks n0 (n + 1) ρ S = .nx ρ S1 := by
  unfold whileN
  rw [h]
  rfl
theorem whileN_nx {t : Rho → Stv → Out Bool} {f : Rho → Stv → Fl} {ks : List Nat} {n0 n : Nat} {ρ ρ' : Rho} {S S1 S' : Stv} {r : Fl} (h : t ρ S = .ok true S1) (h2 : f ρ S1 = .nx ρ' S') (h3 : whileN t f ks n0 n (kill ks ρ') (trim n0 (kill ks ρ') S') = r) : whileN t f ks n0 (n + 1) ρ S = r := by
  unfold whileN
  rw [h]
  simp only [Out.fl, if_true, h2, h3]
@[simp] theorem lookup_ofS {β : Type} (a b : String) (v : β) (l : List (Str × β)) : List.lookup (Str.ofString a) ((Str.ofString b, v) :: l) = if a = b then some v else List.lookup (Str.ofString a) l := by
  rw [List.lookup_cons, ofS_beq]
  by_cases h : a = b <;> simp [h]
@[simp] theorem idxOf_c (a b : Nat) (l : List Nat) : List.idxOf a (b :: l) = if b = a then 0 else List.idxOf a l + 1 := by
  rw [List.idxOf_cons]
  by_cases h : b = a
  · simp [h]
  · have e : (b == a) = false := by simpa using h
    rw [e, if_neg h]
    rfl
@[simp] theorem mergeC_0 (m : Nat) (S' : Stv) : ∀ (i : Nat) (X : Stv), mergeC [0] m S' (i + 1) X = X
  | _, [] => rfl
  | i, c :: X => by
    rw [mergeC, mergeC_0 m S' (i + 1) X]
    simp
@[simp] theorem mergeC_1 (m : Nat) (S' : Stv) (X : Stv) : mergeC [0] m S' 1 X = X := mergeC_0 m S' 0 X
@[simp] theorem mergeC_nil (m : Nat) (S' : Stv) : ∀ (i : Nat) (X : Stv), mergeC [] m S' i X = X
  | _, [] => rfl
  | i, c :: X => by
    rw [mergeC, mergeC_nil m S' (i + 1) X]
    simp
theorem atI_in {α : Type} {l : List α} {i : Int} (h0 : 0 ≤ i) (h : i < (l.length : Int)) : ∃ d, atI l i = some d ∧ d ∈ l := by
  obtain ⟨j, rfl⟩ : ∃ j : Nat, i = (j : Int) := ⟨i.toNat, by omega⟩
  have hl : j < l.length := by omega
  exact ⟨l[j], atI_nat (List.getElem?_eq_getElem hl), List.getElem_mem hl⟩
/-! ### kinds of values -/
@[simp] theorem kb_nb : kitB "NoneType" "bool" = some false := by decide +kernel
@[simp] theorem kb_ni : kitB "NoneType" "int" = some false := by decide +kernel
@[simp] theorem kb_ns : kitB "NoneType" "str" = some false := by decide +kernel
@[simp] theorem kb_nt : kitB "NoneType" "tuple" = some false := by decide +kernel
@[simp] theorem kb_nl : kitB "NoneType" "list" = some false := by decide +kernel
@[simp] theorem kb_bb : kitB "bool" "bool" = some true := by decide +kernel
@[simp] theorem kb_bi : kitB "bool" "int" = some true := by decide +kernel
@[simp] theorem kb_bs : kitB "bool" "str" = some false := by decide +kernel
@[simp] theorem kb_bt : kitB "bool" "tuple" = some false := by decide +kernel
@[simp] theorem kb_bl : kitB "bool" "list" = some false := by decide +kernel
@[simp] theorem kb_ib : kitB "int" "bool" = some false := by decide +kernel
@[simp] theorem kb_ii : kitB "int" "int" = some true := by decide +kernel
@[simp] theorem kb_is : kitB "int" "str" = some false := by decide +kernel
@[simp] theorem kb_it : kitB "int" "tuple" = some false := by decide +kernel
@[simp] theorem kb_il : kitB "int" "list" = some false := by decide +kernel
@[simp] theorem kb_sb : kitB "str" "bool" = some false := by decide +kernel
@[simp] theorem kb_si : kitB "str" "int" = some false := by decide +kernel
@[simp] theorem kb_ss : kitB "str" "str" = some true := by decide +kernel
@[simp] theorem kb_st : kitB "str" "tuple" = some false := by decide +kernel
@[simp] theorem kb_sl : kitB "str" "list" = some false := by decide +kernel
@[simp] theorem kb_tb : kitB "tuple" "bool" = some false := by decide +kernel
@[simp] theorem kb_ti : kitB "tuple" "int" = some false := by decide +kernel
@[simp] theorem kb_ts : kitB "tuple" "str" = some false := by decide +kernel
@[simp] theorem kb_tt : kitB "tuple" "tuple" = some true := by decide +kernel
@[simp] theorem kb_tl : kitB "tuple" "list" = some false := by decide +kernel
@[simp] theorem kb_lb : kitB "list" "bool" = some false := by decide +kernel
@[simp] theorem kb_li : kitB "list" "int" = some false := by decide +kernel
@[simp] theorem kb_ls : kitB "list" "str" = some false := by decide +kernel
@[simp] theorem kb_lt : kitB "list" "tuple" = some false := by decide +kernel
@[simp] theorem kb_ll : kitB "list" "list" = some true := by decide +kernel
@[simp] theorem ty_none : tyD .none = "NoneType" := rfl
@[simp] theorem ty_bool (b : Bool) : tyD (.bool b) = "bool" := rfl
@[simp] theorem ty_int (i : Int) : tyD (.int i) = "int" := rfl
@[simp] theorem ty_str (x : Str) : tyD (.str x) = "str" := rfl
@[simp] theorem ty_list (ds : List PyData) : tyD (.list ds) = "list" := rfl
@[simp] theorem ty_tup (ds : List PyData) : tyD (.tuple ds) = "tuple" := rfl
open Classical in
/-- a loop whose turns are steps of a function -/
theorem loopF_fold {τ σ : Type} {f : En → Rho → Stv → Fl} {ch : Option (Nat × Cell)} {ks : List Nat} {n0 : Nat} (R : σ → Rho) (T : σ → Stv) (step : σ → τ → σ) (g : τ → En) (I : σ → List τ → Prop)
    (h : ∀ s x xs, I s (x :: xs) → I (step s x) xs ∧ ∃ ρ' S', (f (g x) (R s) (T s) = .nx ρ' S' ∨ f (g x) (R s) (T s) = .ct ρ' S') ∧ kill ks ρ' = R (step s x) ∧ trim n0 (R (step s x)) S' = T (step s x) ∧ chk ch (T (step s x))) :
    ∀ (xs : List τ) (s : σ), I s xs → loopF f ch ks n0 (xs.map g) (R s) (T s) = .nx (R (xs.foldl step s)) (T (xs.foldl step s)) ∧ I (xs.foldl step s) []
  | [], s, hi => ⟨rfl, hi⟩
  | x :: xs, s, hi => by
    obtain ⟨h1, ρ', S', h2, h3, h4, h5⟩ := h s x xs hi
    have ih := loopF_fold R T step g I h xs (step s x) h1
    refine ⟨?_, ih.2⟩
    rw [List.map_cons, loopF]
    rcases h2 with h2 | h2
    · rw [h2]
      show (if chk ch (trim n0 (kill ks ρ') S') then loopF f ch ks n0 (xs.map g) (kill ks ρ') (trim n0 (kill ks ρ') S') else .bad) = _
      rw [h3, h4, if_pos h5]
      exact ih.1
    · rw [h2]
      show (if chk ch (trim n0 (kill ks ρ') S') then loopF f ch ks n0 (xs.map g) (kill ks ρ') (trim n0 (kill ks ρ') S') else .bad) = _
      rw [h3, h4, if_pos h5]
      exact ih.1
open Classical in
/-- a comprehension with a test, whose items change nothing -/
theorem lcF_filt {τ : Type} {t : Rho → Stv → Out Bool} {f : Rho → Stv → Out Rv} {b : En → Rho → Option Rho} {ch : Option (Nat × Cell)} {n0 : Nat} {ρ : Rho} {S : Stv} (e : τ → En) (c : τ → Bool) (g : τ → PyData) (hc : chk ch S) (hn : S.length ≤ n0) : ∀ (xs : List τ) (acc : List PyData), acc.length + xs.length ≤ big → (∀ x ∈ xs, ∃ ρ1, b (e x) ρ = some ρ1 ∧ t ρ1 S = .ok (c x) S ∧ (c x = true → ∃ r, f ρ1 S = .ok r S ∧ rvD r = some (g x))) →
    lcF t f b ch n0 ρ (xs.map e) acc S = .ok (acc ++ (xs.filter c).map g) S
  | [], acc, _, _ => by simp [lcF]
  | x :: xs, acc, hl, h => by
    obtain ⟨ρ1, h1, h2, h3⟩ := h x List.mem_cons_self
    have ht : trim n0 ρ S = S := by unfold trim; rw [if_pos hn]
    rw [List.length_cons] at hl
    rw [List.map_cons, lcF, h1]
    simp only [h2]
    cases hcx : c x with
    | true =>
      obtain ⟨r, h4, h5⟩ := h3 hcx
      simp only [if_true, h4, h5, ht]
      rw [if_pos ⟨hc, show acc.length < big by omega⟩, lcF_filt e c g hc hn xs (acc ++ [g x]) (by simp; omega) fun x' hx => h x' (List.mem_cons_of_mem _ hx), List.filter_cons, if_pos hcx]
      simp
    | false =>
      simp only [Bool.false_eq_true, if_false, ht]
      rw [if_pos hc, lcF_filt e c g hc hn xs acc (by omega) fun x' hx => h x' (List.mem_cons_of_mem _ hx), List.filter_cons, if_neg (by simp [hcx])]
theorem filt_true {τ : Type} {xs : List τ} {c : τ → Bool} (h : ∀ x ∈ xs, c x = true) : xs.filter c = xs := List.filter_eq_self.mpr h
/-- steps of a while loop -/
def Stps (t : Rho → Stv → Out Bool) (f : Rho → Stv → Fl) (ks : List Nat) (n0 : Nat) (ρ : Rho) (S : Stv) (ρ' : Rho) (S' : Stv) : Prop := ∃ k, ∀ m, whileN t f ks n0 (m + k) ρ S = whileN t f ks n0 m ρ' S'
theorem Stps.refl {t : Rho → Stv → Out Bool} {f : Rho → Stv → Fl} {ks : List Nat} {n0 : Nat} {ρ : Rho} {S : Stv} : Stps t f ks n0 ρ S ρ S := ⟨0, fun _ => rfl⟩
theorem Stps.trans {t : Rho → Stv → Out Bool} {f : Rho → Stv → Fl} {ks : List Nat} {n0 : Nat} {ρ ρ1 ρ2 : Rho} {S S1 S2 : Stv} (h : Stps t f ks n0 ρ S ρ1 S1) (h' : Stps t f ks n0 ρ1 S1 ρ2 S2) : Stps t f ks n0 ρ S ρ2 S2 := by
  obtain ⟨k, hk⟩ := h
  obtain ⟨j, hj⟩ := h'
  exact ⟨j + k, fun m => by rw [← Nat.add_assoc, hk, hj]⟩
theorem Stps.one {t : Rho → Stv → Out Bool} {f : Rho → Stv → Fl} {ks : List Nat} {n0 : Nat} {ρ ρ1 : Rho} {S S1 S2 : Stv} (h : t ρ S = .ok true S1) (h2 : f ρ S1 = .nx ρ1 S2 ∨ f ρ S1 = .ct ρ1 S2) : Stps t f ks n0 ρ S (kill ks ρ1) (trim n0 (kill ks ρ1) S2) := ⟨1, fun m => by
  rw [whileN]
  rw [h]
  rcases h2 with h2 | h2 <;> simp only [Out.fl, if_true, h2]⟩
theorem Stps.done {t : Rho → Stv → Out Bool} {f : Rho → Stv → Fl} {ks : List Nat} {n0 : Nat} {ρ ρ1 : Rho} {S S1 S2 : Stv} (h : Stps t f ks n0 ρ S ρ1 S1) (h2 : t ρ1 S1 = .ok false S2) : whileF t f ks n0 ρ S = .nx ρ1 S2 := by
  obtain ⟨k, hk⟩ := h
  exact whileF_of (n := 1 + k) (by rw [hk]; exact whileN_end h2) nofun

/-! ### a cell of the script, mixed -/
def scr (ns : List Int) : PyData := .list (ns.map PyData.int)
def rowCell (ns : List Int) (k : Int) : Int := if k < (ns.length : Int) then ns.getD k.toNat 0 else 0
def rowAbs (ns : List Int) (k : Int) : Int := if rowCell ns k < 0 then 1 - 2 * rowCell ns k else rowCell ns k
def rowMix (ns : List Int) (k : Int) : Int := ((rowAbs ns k + 7919 * k + 1) * 6364136223846793005 + 1442695040888963407) % 2305843009213693951
def lawRow (ns : List Int) (k : Int) : Int := if rowAbs ns k ≥ 10 ^ 9 then rowAbs ns k else (rowMix ns k * rowMix ns k + 104729 * k + 977) % 2305843009213693951
theorem lawRow_nn (ns : List Int) (k : Int) : 0 ≤ lawRow ns k := by
  unfold lawRow
  split
  · omega
  · exact Int.emod_nonneg _ (by decide)
theorem atI_ints {ns : List Int} {k : Int} (h0 : 0 ≤ k) (h : k < (ns.length : Int)) : atI (ns.map PyData.int) k = some (.int (ns.getD k.toNat 0)) := by
  obtain ⟨j, rfl⟩ : ∃ j : Nat, k = (j : Int) := ⟨k.toNat, by omega⟩
  have hl : j < ns.length := by omega
  refine atI_nat ?_
  rw [List.getElem?_map, List.getElem?_eq_getElem hl]
  simp [List.getD, List.getElem?_eq_getElem hl]
theorem ok_row {n : Nat} {ns : List Int} {k : Int} (hk : 0 ≤ k) : run tb (n + 1) f__law_row [.dt (scr ns), .dt (.int k)] [] = .ok (.v (.int (lawRow ns k))) [] := by
  have hmx : (rowMix ns k).natAbs < 2 ^ 61 := by
    have h1 := Int.emod_nonneg ((rowAbs ns k + 7919 * k + 1) * 6364136223846793005 + 1442695040888963407) (b := 2305843009213693951) (by decide)
    have h2 := Int.emod_lt_of_pos ((rowAbs ns k + 7919 * k + 1) * 6364136223846793005 + 1442695040888963407) (b := 2305843009213693951) (by decide)
    unfold rowMix
    omega
  have hm2 : -18446744073709551616 < rowMix ns k ∧ rowMix ns k < 18446744073709551616 := by omega
  rw [run__law_row]
  have e2 : rowAbs ns k = if rowCell ns k < 0 then 1 - 2 * rowCell ns k else rowCell ns k := rfl
  have e3 : lawRow ns k = if rowAbs ns k ≥ 10 ^ 9 then rowAbs ns k else (rowMix ns k * rowMix ns k + 104729 * k + 977) % 2305843009213693951 := rfl
  have em : ((rowAbs ns k + 7919 * k + 1) * 6364136223846793005 + 1442695040888963407) % 2305843009213693951 = rowMix ns k := rfl
  -- behind the first two ifs the cell is rowAbs
  have two : ∀ c, c = rowCell ns k → (exec (cbOf tb n) (.ite (.cmp .lt (.var 2) (.con (.int 0))) (.asg (.nm 2) (.bin .sub (.con (.int 1)) (.bin .mul (.con (.int 2)) (.var 2)))) .nop) [.dt (scr ns), .dt (.int k), .dt (.int c), .un] []) = .nx [.dt (scr ns), .dt (.int k), .dt (.int (rowAbs ns k)), .un] [] := by
    rintro c rfl
    rw [e2]
    by_cases h2 : rowCell ns k < 0
    · simp [h2]
    · simp [h2]
  have one : (exec (cbOf tb n) (.ite (.cmp .lt (.var 1) (.bi .len (.cons (.var 0) .nil))) (.asg (.nm 2) (.idx (.var 0) (.var 1))) .nop) [.dt (scr ns), .dt (.int k), .dt (.int 0), .un] []) = .nx [.dt (scr ns), .dt (.int k), .dt (.int (rowCell ns k)), .un] [] := by
    by_cases h1 : k < (ns.length : Int)
    · have e1 : atI (ns.map PyData.int) k = some (.int (rowCell ns k)) := by
        rw [atI_ints hk h1]
        unfold rowCell
        rw [if_pos h1]
      simp [scr, h1, e1]
    · have e1 : rowCell ns k = 0 := by unfold rowCell; rw [if_neg h1]
      simp [scr, h1, e1]
  refine run_of (fl := .rt (.v (.int (lawRow ns k))) []) rfl ?_ (by simp)
  show exec (cbOf tb n) body__law_row [.dt (scr ns), .dt (.int k), .un, .un] [] = _
  unfold body__law_row
  refine seq_nx rfl (seq_nx one (seq_nx (two _ rfl) ?_))
  rw [e3]
  by_cases h3 : (10 : Int) ^ 9 ≤ rowAbs ns k
  · rw [if_pos h3]
    simp at h3
    simp [h3]
  · rw [if_neg h3]
    simp at h3
    have h3' : ¬ (1000000000 : Int) ≤ rowAbs ns k := by omega
    simp [h3', em, hm2]

/-! ### digits of the script -/
abbrev St2 := Int × Int
def stD (s : St2) : List PyData := [.int s.1, .int s.2]
def okS (s : St2) : Prop := 0 ≤ s.1 ∧ 0 ≤ s.2
def dgV (ns : List Int) (s : St2) : Int := if s.1 = 0 then lawRow ns s.2 else s.1
def dg (ns : List Int) (s : St2) (m : Int) : Int := dgV ns s % m
def dgS (ns : List Int) (s : St2) (m : Int) : St2 := (dgV ns s / m, if s.1 = 0 then s.2 + 1 else s.2)
theorem dgV_nn {ns : List Int} {s : St2} (h : okS s) : 0 ≤ dgV ns s := by
  unfold dgV
  split
  · exact lawRow_nn _ _
  · exact h.1
theorem dg_nn {ns : List Int} {s : St2} {m : Int} (hm : 0 < m) : 0 ≤ dg ns s m := Int.emod_nonneg _ (by omega)
theorem dg_lt {ns : List Int} {s : St2} {m : Int} (hm : 0 < m) : dg ns s m < m := Int.emod_lt_of_pos _ hm
theorem dgS_ok {ns : List Int} {s : St2} {m : Int} (h : okS s) (hm : 0 < m) : okS (dgS ns s m) := ⟨Int.ediv_nonneg (dgV_nn h) (by omega), by
  unfold dgS
  have := h.2
  try dsimp only
  split <;> omega⟩
@[simp] theorem atI_zero {α : Type} (a : α) (l : List α) : atI (a :: l) 0 = some a := atI_nat (j := 0) rfl
@[simp] theorem atI_one {α : Type} (a b : α) (l : List α) : atI (a :: b :: l) 1 = some b := atI_nat (j := 1) rfl
@[simp] theorem atI_two {α : Type} (a b c : α) (l : List α) : atI (a :: b :: c :: l) 2 = some c := atI_nat (j := 2) rfl
@[simp] theorem atI_three {α : Type} (a b c d : α) (l : List α) : atI (a :: b :: c :: d :: l) 3 = some d := atI_nat (j := 3) rfl
@[simp] theorem atI_four {α : Type} (a b c d e : α) (l : List α) : atI (a :: b :: c :: d :: e :: l) 4 = some e := atI_nat (j := 4) rfl
@[simp] theorem ixN_0 (n : Nat) : ixN (n + 1) 0 = some 0 := @ixN_nat (n + 1) 0 (by omega)
@[simp] theorem ixN_1 (n : Nat) : ixN (n + 2) 1 = some 1 := @ixN_nat (n + 2) 1 (by omega)
@[simp] theorem ixN_2 (n : Nat) : ixN (n + 3) 2 = some 2 := @ixN_nat (n + 3) 2 (by omega)
@[simp] theorem ixN_3 (n : Nat) : ixN (n + 4) 3 = some 3 := @ixN_nat (n + 4) 3 (by omega)
theorem ok_digX {n : Nat} {ns : List Int} {s : St2} {m : Int} {xs : List PyData} (ho : okS s) (hm : 0 < m) (hm2 : m < 1073741824) : run tb (n + 2) f__law_digit [.dt (scr ns), .mu 0, .dt (.int m)] [.lst (.int s.1 :: .int s.2 :: xs)] = .ok (.v (.int (dg ns s m))) [.lst (.int (dgS ns s m).1 :: .int (dgS ns s m).2 :: xs)] := by
  rw [run__law_digit]
  refine run_of (fl := .rt (.v (.int (dg ns s m))) [.lst (.int (dgS ns s m).1 :: .int (dgS ns s m).2 :: xs)]) rfl ?_ (by simp)
  show exec (cbOf tb (n + 1)) body__law_digit [.dt (scr ns), .mu 0, .dt (.int m), .un] _ = _
  unfold body__law_digit
  refine seq_nx (ρ1 := [.dt (scr ns), .mu 0, .dt (.int m), .un]) (S1 := [.lst (.int (dgV ns s) :: .int (dgS ns s m).2 :: xs)]) ?_ ?_
  · have hr : run tb (n + 1) f__law_row [.dt (scr ns), .dt (.int s.2)] [] = .ok (.v (.int (lawRow ns s.2))) [] := ok_row ho.2
    by_cases h : s.1 = 0
    · simp [h, hr, dgV, dgS]
    · simp [h, dgV, dgS]
  · simp [hm, hm2, dg, dgS]
theorem ok_dig {n : Nat} {ns : List Int} {s : St2} {m : Int} (ho : okS s) (hm : 0 < m) (hm2 : m < 1073741824) : run tb (n + 2) f__law_digit [.dt (scr ns), .mu 0, .dt (.int m)] [.lst [.int s.1, .int s.2]] = .ok (.v (.int (dg ns s m))) [.lst [.int (dgS ns s m).1, .int (dgS ns s m).2]] := ok_digX (xs := []) ho hm hm2

/-! ### the same data -/
def dOk : Nat → PyData → Prop
  | 0, _ => False
  | n + 1, .list ds => ds.length ≤ 100000 ∧ ∀ d ∈ ds, dOk n d
  | n + 1, .tuple ds => ds.length ≤ 100000 ∧ ∀ d ∈ ds, dOk n d
  | _ + 1, .dict _ => False
  | _ + 1, .str x => x.length ≤ 100000
  | _ + 1, _ => True
def sameB : VM.St := (.ite (.not (.val (.call f__law_same (.cons (.idx (.var 0) (.var 2)) (.cons (.idx (.var 1) (.var 2)) .nil))))) (.ret (.con (.bool false))) .nop)
theorem same_loop {n : Nat} {d : PyData} {ds : List PyData} (hs : sqR [] (.v d) = some ds) (hd : ∀ z, d ≠ .str z) (h : ∀ e ∈ ds, run tb n f__law_same [.dt e, .dt e] [] = .ok (.v (.bool true)) []) :
    loopF (forB (cbOf tb n) (.nm 2) sameB) none [2] 0 ((rngD 0 ds.length).map .dt) [.dt d, .dt d, .un] [] = .nx [.dt d, .dt d, .un] [] := by
  refine loopF_same trivial fun e he => ?_
  obtain ⟨x, hx, rfl⟩ := List.mem_map.mp he
  unfold rngD at hx
  obtain ⟨i, hi, rfl⟩ := List.mem_map.mp hx
  have hi : i < ds.length := by simpa using hi
  have ha : atI ds (i : Int) = some ds[i] := atI_nat (List.getElem?_eq_getElem hi)
  have hx : idxO (.v d) (.v (.int (i : Int))) [] = .ok (.v ds[i]) [] := by
    cases d with
    | list _ => cases hs; simp [ha]
    | tuple _ => cases hs; simp [ha]
    | str z => exact absurd rfl (hd z)
    | _ => cases hs
  refine ⟨[.dt d, .dt d, .dt (.int (i : Int))], [], ?_, rfl, rfl⟩
  have hr := h _ (List.getElem_mem hi)
  unfold sameB
  simp only [forB_nm, Int.zero_add]
  simp [-idxO, hx, hr]
theorem ok_same : ∀ {n : Nat} {d : PyData}, dOk n d → run tb n f__law_same [.dt d, .dt d] [] = .ok (.v (.bool true)) []
  | 0, d, h => h.elim
  | n + 1, d, h => by
    rw [run__law_same]
    refine run_of (fl := .rt (.v (.bool true)) []) rfl ?_ (by simp)
    show exec (cbOf tb n) body__law_same [.dt d, .dt d, .un] _ = _
    unfold body__law_same
    cases d with
    | none => simp
    | bool b => simp
    | int i => simp
    | str x => simp
    | list ds =>
      have hl := same_loop (d := .list ds) rfl nofun fun e he => ok_same (h.2 e he)
      unfold sameB at hl
      have h1 : (ds.length : Int) ≤ 1000000000 := by have := h.1; omega
      have h2 : (-1000000000 : Int) ≤ (ds.length : Int) := by omega
      simp [h1, h2, hl]
    | tuple ds =>
      have hl := same_loop (d := .tuple ds) rfl nofun fun e he => ok_same (h.2 e he)
      unfold sameB at hl
      have h1 : (ds.length : Int) ≤ 1000000000 := by have := h.1; omega
      have h2 : (-1000000000 : Int) ≤ (ds.length : Int) := by omega
      simp [h1, h2, hl]
    | dict kvs => exact h.elim

/-! ### the parts of the finder of ways -/
open FM (PT Ch Ws Rw)
def cD (c : List (Int × Int)) : PyData := .tuple (c.map encP)
def gsD (gs : List Nat) : List PyData := gs.map fun (g : Nat) => .int (g : Int)
def chD : Ch → PyData
  | .no => .none
  | .cl gs => .tuple [.str "clear", .list (gsD gs)]
  | .ho g a b => .tuple [.str "hold", .int g, .tuple [.int a, .int b]]
  | .bo x y => .tuple [.str "both", chD x, chD y]
def wD (w : Int × Ch) : PyData := .tuple [.int w.1, chD w.2]
def wsD (ws : Ws) : List PyData := ws.map wD
def oD : Option Int → PyData
  | none => .none
  | some x => .int x
theorem ok_contains {n : Nat} {c : List (Int × Int)} {x : Int} : run tb (n + 1) f_contains [.dt (cD c), .dt (.int x)] [] = .ok (.v (.bool (FM.inC c x))) [] := by
  rw [run_contains]
  have lp : ∀ (cs : List (Int × Int)) (d : PyData), loopF (forB (cbOf tb n) (.tp [2, 3]) (.ite (.chn .le .lt (.var 2) (.var 1) (.var 3)) (.ret (.con (.bool true))) .nop)) none [2, 3] 0 (cs.map fun p => .dt (encP p)) [.dt d, .dt (.int x), .un, .un] [] = if FM.inC cs x then .rt (.v (.bool true)) [] else .nx [.dt d, .dt (.int x), .un, .un] [] := by
    intro cs d
    induction cs with
    | nil => rfl
    | cons p cs ih =>
      rw [List.map_cons, loopF]
      by_cases h1 : p.1 ≤ x
      · by_cases h2 : x < p.2
        · have e : FM.inC (p :: cs) x = true := by simp [FM.inC, h1, h2]
          rw [e]
          simp [encP, h1, h2]
        · have e : FM.inC (p :: cs) x = FM.inC cs x := by simp [FM.inC, h2]
          rw [e]
          simp [encP, h1, h2, chk]
          simpa [encP] using ih
      · have e : FM.inC (p :: cs) x = FM.inC cs x := by simp [FM.inC, h1]
        rw [e]
        simp [encP, h1, chk]
        simpa [encP] using ih
  refine run_of (fl := .rt (.v (.bool (FM.inC c x))) []) rfl ?_ (by simp)
  show exec (cbOf tb n) body_contains [.dt (cD c), .dt (.int x), .un, .un] _ = _
  unfold body_contains
  have := lp c (cD c)
  cases hc : FM.inC c x <;> rw [hc] at this
  · simp only [ex_seq, ex_for, evI_sq, evE_var]
    simp [cD] at this ⊢
    have e : c.map (En.dt ∘ encP) = c.map fun p => .dt (encP p) := rfl
    rw [e, this]
    simp
  · simp only [ex_seq, ex_for, evI_sq, evE_var]
    simp [cD] at this ⊢
    have e : c.map (En.dt ∘ encP) = c.map fun p => .dt (encP p) := rfl
    rw [e, this]
    simp
theorem ok_is_in {n : Nat} {c : List (Int × Int)} {x : Option Int} : run tb (n + 2) f__is_in [.dt (cD c), .dt (oD x)] [] = .ok (.v (.bool (FM.inO c x))) [] := by
  rw [run__is_in]
  refine run_of (fl := .rt (.v (.bool (FM.inO c x))) []) rfl ?_ (by simp)
  show exec (cbOf tb (n + 1)) body__is_in [.dt (cD c), .dt (oD x)] _ = _
  unfold body__is_in
  cases x with
  | none => simp [oD, FM.inO]
  | some x =>
    have := ok_contains (n := n) (c := c) (x := x)
    simp [oD, FM.inO, this]
def Anc (nm : String) : Prop := nm ∈ ["text_start", "text_end", "line_start", "line_end", "word_boundary", "no_word_boundary"]
theorem ok_anchor {n : Nat} {nm : String} {b a : Option Int} (h : Anc nm) : run tb (n + 3) f_anchor_holds [.dt (.str nm), .dt (oD b), .dt (oD a)] [] = .ok (.v (.bool (FM.holds nm b a))) [] := by
  have wb := ok_is_in (n := n) (c := FM.wordC) (x := b)
  have wa := ok_is_in (n := n) (c := FM.wordC) (x := a)
  have lb : ∀ x, run tb (n + 2) f_contains [.dt (cD FM.lineC), .dt (.int x)] [] = .ok (.v (.bool (FM.inC FM.lineC x))) [] := fun x => ok_contains
  rw [run_anchor_holds]
  refine run_of (fl := .rt (.v (.bool (FM.holds nm b a))) []) rfl ?_ (by simp)
  show exec (cbOf tb (n + 2)) body_anchor_holds [.dt (.str nm), .dt (oD b), .dt (oD a), .un] _ = _
  unfold body_anchor_holds
  have e1 : dat_WORD = cD FM.wordC := rfl
  have e2 : dat_LINE_ENDS = cD FM.lineC := rfl
  rw [e1, e2]
  unfold Anc at h
  simp only [List.mem_cons, List.not_mem_nil, or_false] at h
  generalize cD FM.wordC = W at *
  generalize cD FM.lineC = E at *
  rcases h with rfl | rfl | rfl | rfl | rfl | rfl
  · cases b <;> simp [oD, FM.holds]
  · cases a <;> simp [oD, FM.holds]
  · cases b with
    | none => simp [oD, FM.holds]
    | some x =>
      have := lb x
      simp [oD, FM.holds, FM.inO, this]
  · cases a with
    | none => simp [oD, FM.holds]
    | some x =>
      have := lb x
      simp [oD, FM.holds, FM.inO, this]
  · simp [FM.holds, wa, wb]
    cases FM.inO FM.wordC b <;> cases FM.inO FM.wordC a <;> rfl
  · simp [FM.holds, wa, wb]
    cases FM.inO FM.wordC b <;> cases FM.inO FM.wordC a <;> rfl
theorem ok_clearing {n : Nat} {gs : List Nat} : run tb (n + 1) f_clearing [.dt (.list (gsD gs))] [] = .ok (.v (chD (FM.clr gs))) [] := by
  rw [run_clearing]
  refine run_of (fl := .rt (.v (chD (FM.clr gs))) []) rfl ?_ (by simp)
  show exec (cbOf tb n) body_clearing [.dt (.list (gsD gs))] _ = _
  unfold body_clearing
  cases gs <;> simp [gsD, FM.clr, chD, big]
theorem ok_both {n : Nat} {x y : Ch} : run tb (n + 1) f_both [.dt (chD x), .dt (chD y)] [] = .ok (.v (chD (FM.both x y))) [] := by
  rw [run_both]
  refine run_of (fl := .rt (.v (chD (FM.both x y))) []) rfl ?_ (by simp)
  show exec (cbOf tb n) body_both [.dt (chD x), .dt (chD y)] _ = _
  unfold body_both
  cases x <;> cases y <;> simp [FM.both, chD, big]
theorem FM_both_no (y : Ch) : FM.both .no y = y := by cases y <;> rfl
theorem dget_of {K : List (PyData × PyData)} {d : PyData} : dgetD true K d = (keyT d).map fun x => (K.find? fun p => decide (keyT p.1 = some x)).map (·.2) := rfl
/-! what is known -/
abbrev KV := List ((Nat × Int) × Ws)
def goD (g : Nat × Int) : PyData := .tuple [.int (g.1 : Int), .int g.2]
def kvD (K : KV) : List (PyData × PyData) := K.map fun e => (goD e.1, .list (wsD e.2))
def look (K : KV) (g : Nat × Int) : Option Ws := (K.find? fun e => decide (e.1 = g)).map (·.2)
theorem keyT_go (g : Nat × Int) : keyT (goD g) = some [.inl (g.1 : Int), .inl g.2] := by simp [goD, keyT, keyKs, keyK]
theorem keyT_eq (g h : Nat × Int) : (keyT (goD g) = some [.inl (h.1 : Int), .inl h.2]) = (g = h) := by
  rw [keyT_go]
  simp only [Option.some.injEq, List.cons.injEq, Sum.inl.injEq, and_true, eq_iff_iff]
  obtain ⟨a, b⟩ := g
  obtain ⟨c, d⟩ := h
  simp only [Prod.mk.injEq]
  omega
theorem dget_kv (K : KV) (g : Nat × Int) : dgetD true (kvD K) (goD g) = some ((look K g).map fun ws => .list (wsD ws)) := by
  rw [dget_of, keyT_go]
  simp only [Option.map_some, Option.some.injEq]
  unfold kvD look
  rw [List.find?_map]
  simp only [Function.comp_def, keyT_eq]
  cases K.find? fun e => decide (e.1 = g) <;> rfl
theorem put_kv {K : KV} {g : Nat × Int} {ws : Ws} (h : look K g = none) : putD true (kvD K) (goD g) (.list (wsD ws)) = some (kvD (K ++ [(g, ws)])) := by
  have hn : (kvD K).any (fun p => decide (keyT p.1 = some [.inl (g.1 : Int), .inl g.2])) = false := by
    unfold kvD
    rw [List.any_map]
    simp only [Function.comp_def, keyT_eq]
    unfold look at h
    rw [Option.map_eq_none_iff, List.find?_eq_none] at h
    rw [List.any_eq_false]
    exact h
  unfold putD
  simp only
  rw [keyT_go]
  simp only [Option.map_some, hn, if_false, Bool.false_eq_true]
  simp [kvD]
theorem look_app {K : KV} {g h : Nat × Int} {ws : Ws} (hn : look K g = none) : look (K ++ [(g, ws)]) h = if h = g then some ws else look K h := by
  unfold look
  rw [List.find?_append]
  by_cases e : h = g
  · subst e
    unfold look at hn
    rw [Option.map_eq_none_iff] at hn
    simp [hn]
  · have e' : ¬ g = h := fun z => e z.symm
    simp [e, e']
/-! ends in a dict -/
theorem keyK_int (i : Int) : keyK (.int i) = some (.inl i) := rfl
def wkD (ws : Ws) : List (PyData × PyData) := ws.map fun w => (.int w.1, chD w.2)
theorem dget_wk (ws : Ws) (k : Int) : (dgetD false (wkD ws) (.int k)).map (·.isSome) = some (decide (k ∈ FM.keys ws)) := by
  show ((keyK (.int k)).map fun x => ((wkD ws).find? fun p => decide (keyK p.1 = some x)).map (·.2)).map (·.isSome) = _
  rw [keyK_int]
  simp only [Option.map_some, Option.some.injEq, Option.isSome_map]
  unfold wkD
  rw [List.find?_map, Option.isSome_map]
  simp only [Function.comp_def, keyK_int, Option.some.injEq, Sum.inl.injEq]
  rw [Bool.eq_iff_iff, List.find?_isSome, decide_eq_true_eq, FM.mem_keys]
  simp
theorem dget_in {ws : Ws} {k : Int} (h : k ∈ FM.keys ws) : ∃ v, dgetD false (wkD ws) (.int k) = some (some v) := by
  have hb := dget_wk ws k
  simp only [h, decide_true] at hb
  obtain ⟨o, ho, hs⟩ := Option.map_eq_some_iff.mp hb
  cases o with
  | none => cases hs
  | some v => exact ⟨v, ho⟩
theorem dget_out {ws : Ws} {k : Int} (h : k ∉ FM.keys ws) : dgetD false (wkD ws) (.int k) = some none := by
  have hb := dget_wk ws k
  simp only [h, decide_false] at hb
  obtain ⟨o, ho, hs⟩ := Option.map_eq_some_iff.mp hb
  cases o with
  | none => exact ho
  | some v => cases hs
theorem put_wk {ws : Ws} {k : Int} {c : Ch} (h : k ∉ FM.keys ws) : putD false (wkD ws) (.int k) (chD c) = some (wkD (ws ++ [(k, c)])) := by
  have hn : (wkD ws).any (fun p => decide (keyK p.1 = some (.inl k))) = false := by
    unfold wkD
    rw [List.any_map, List.any_eq_false]
    intro w hw e
    simp only [Function.comp_def, keyK_int, Option.some.injEq, Sum.inl.injEq, decide_eq_true_eq] at e
    exact h (FM.mem_keys.mpr ⟨w, hw, e⟩)
  unfold putD
  simp only
  rw [keyK_int]
  simp only [Option.map_some, hn, if_false, Bool.false_eq_true]
  simp [wkD]
theorem its_wk (ws : Ws) : (wkD ws).map (fun p => PyData.tuple [p.1, p.2]) = wsD ws := by
  simp [wkD, wsD, wD]
/-- the dict behind some more ends -/
def dStep (acc : Ws) (w : Int × Ch) : Ws := if w.1 ∈ FM.keys acc then acc else acc ++ [w]
theorem foldl_dStep : ∀ (xs acc : Ws), xs.foldl dStep acc = acc ++ FM.onceF (FM.keys acc) xs
  | [], acc => by simp [FM.onceF]
  | w :: ws, acc => by
    rw [List.foldl_cons, foldl_dStep ws, FM.onceF_cons]
    unfold dStep
    split
    · rfl
    · rw [List.append_assoc]
      congr 1
      rw [List.singleton_append]
      congr 1
      exact FM.onceF_congr _ fun k => by simp [FM.keys_app, or_comm]

open FM (PT Ch Ws Rw)
/-! ### ways put together -/
theorem ok_once {n : Nat} {xs : Ws} (hl : xs.length < 1000000) : run tb (n + 1) f__once [.dt (.list (wsD xs))] [] = .ok (.nw (.lst (wsD (FM.once xs)))) [] := by
  rw [run__once]
  refine run_of (fl := .rt (.nw (.lst (wsD (FM.once xs)))) [.dct false (wkD (FM.once xs))]) rfl ?_ (by simp)
  show exec (cbOf tb n) body__once [.dt (.list (wsD xs)), .un, .un, .un] _ = _
  unfold body__once
  have lp := loopF_fold (f := forB (cbOf tb n) (.tp [2, 3]) (.ite (.cmp .notin (.var 2) (.var 1)) (.seti (.var 1) (.var 2) (.var 3)) .nop)) (ch := none) (ks := [2, 3]) (n0 := 1) (fun _ : Ws => [.dt (.list (wsD xs)), .mu 0, .un, .un]) (fun acc => [.dct false (wkD acc)]) dStep (fun w => .dt (wD w)) (fun acc ws => acc.length + ws.length < 1000000) (fun acc w ws hi => by
    rw [List.length_cons] at hi
    have hz : acc.length < 16000000 := by omega
    by_cases h : w.1 ∈ FM.keys acc
    · have e : dStep acc w = acc := if_pos h
      rw [e]
      refine ⟨by omega, [.dt (.list (wsD xs)), .mu 0, .dt (.int w.1), .dt (chD w.2)], [.dct false (wkD acc)], .inl ?_, rfl, rfl, trivial⟩
      obtain ⟨v, hb⟩ := dget_in h
      simp [wD, VM.inR, hb]
    · have e : dStep acc w = acc ++ [w] := if_neg h
      rw [e]
      refine ⟨by simp; omega, [.dt (.list (wsD xs)), .mu 0, .dt (.int w.1), .dt (chD w.2)], [.dct false (wkD (acc ++ [w]))], .inl ?_, rfl, rfl, trivial⟩
      have hb := dget_out h
      have hp := put_wk (ws := acc) (k := w.1) (c := w.2) h
      have hk : (wkD acc).length < 16000000 := by simp [wkD]; omega
      simp [wD, VM.inR, hb, hp, big, hk]) xs [] (by simpa using hl)
  have e2 : xs.foldl dStep [] = FM.once xs := by rw [foldl_dStep]; rfl
  rw [e2] at lp
  have lp1 := lp.1
  have e3 : (wsD xs).map En.dt = xs.map fun w => .dt (wD w) := by simp [wsD]
  have e4 : wkD [] = [] := rfl
  rw [e4] at lp1
  simp [big, e3, lp1, its_wk]
theorem ok_group_ways {n : Nat} {k : Nat} {p : Int} {xs : Ws} (hl : xs.length < 1000000) : run tb (n + 2) f__group_ways [.dt (.int (k : Int)), .dt (.int p), .dt (.list (wsD xs))] [] = .ok (.nw (.lst (wsD (FM.groupW k p xs)))) [] := by
  rw [run__group_ways]
  refine run_of (fl := .rt (.nw (.lst (wsD (FM.groupW k p xs)))) []) rfl ?_ (by simp)
  show exec (cbOf tb (n + 1)) body__group_ways [.dt (.int (k : Int)), .dt (.int p), .dt (.list (wsD xs)), .un, .un] _ = _
  unfold body__group_ways
  have lp := lcF_filt (t := lcT (cbOf tb (n + 1)) .none) (f := lcE (cbOf tb (n + 1)) (.tup (.cons (.var 3) (.cons (.call f_both (.cons (.var 4) (.cons (.tup (.cons (.con (.str "hold")) (.cons (.var 0) (.cons (.tup (.cons (.bi .min (.cons (.var 1) (.cons (.var 3) .nil))) (.cons (.bi .max (.cons (.var 1) (.cons (.var 3) .nil))) .nil))) .nil)))) .nil))) .nil)))) (b := bindE (.tp [3, 4])) (ch := none) (n0 := 0) (ρ := [.dt (.int (k : Int)), .dt (.int p), .dt (.list (wsD xs)), .un, .un]) (S := []) (fun w : Int × Ch => .dt (wD w)) (fun _ => true) (fun w => wD (w.1, FM.both w.2 (.ho k (min p w.1) (max p w.1)))) trivial (by simp) xs [] (by simp [big]; omega) (fun w _ => by
    refine ⟨[.dt (.int (k : Int)), .dt (.int p), .dt (.list (wsD xs)), .dt (.int w.1), .dt (chD w.2)], rfl, by simp, fun _ => ⟨.v (wD (w.1, FM.both w.2 (.ho k (min p w.1) (max p w.1)))), ?_, rfl⟩⟩
    have hb := ok_both (n := n) (x := w.2) (y := .ho k (min p w.1) (max p w.1))
    simp only [chD] at hb
    simp [hb, wD, big])
  rw [filt_true fun _ _ => rfl] at lp
  have e3 : (wsD xs).map En.dt = xs.map fun w => .dt (wD w) := by simp [wsD]
  have e4 : (wsD xs).length ≤ 16000000 := by simp [wsD]; omega
  have e5 : xs.length ≤ 16000000 := by omega
  simp [big, e3, e5, lp, wipeR]
  simp [wsD, FM.groupW, e5]
theorem ok_look_ways {n : Nat} {p : Int} {pos : Bool} {gs : List Nat} {i : Int} {xs : Ws} : run tb (n + 2) f__look_ways [.dt (.tuple [.str "look", .bool pos, .list (gsD gs), .int i]), .dt (.int p), .dt (.list (wsD xs))] [] = .ok (.nw (.lst (wsD (FM.lookW pos gs p xs)))) [] := by
  rw [run__look_ways]
  refine run_of (fl := .rt (.nw (.lst (wsD (FM.lookW pos gs p xs)))) []) rfl ?_ (by simp)
  show exec (cbOf tb (n + 1)) body__look_ways [.dt (.tuple [.str "look", .bool pos, .list (gsD gs), .int i]), .dt (.int p), .dt (.list (wsD xs)), .un] _ = _
  unfold body__look_ways
  have hc := ok_clearing (n := n) (gs := gs)
  generalize gsD gs = G at *
  cases xs with
  | nil => cases pos <;> simp [wsD, FM.lookW, wD, chD, big]
  | cons w xs =>
    have hb := ok_both (n := n) (x := FM.clr gs) (y := w.2)
    cases pos <;> simp [wsD, FM.lookW, wD, chD, big, hb, hc]
/-! what the groups hold behind a change -/
def prD (a b : Int) : PyData := .tuple [.int a, .int b]
abbrev ap (c : Ch) (h : List PyData) : List PyData := c.ap prD .none h
/-- the groups of a change are in the tuple -/
def chLt (m : Nat) : Ch → Prop
  | .no => True
  | .cl gs => ∀ g ∈ gs, g < m
  | .ho g _ _ => g < m
  | .bo x y => chLt m x ∧ chLt m y
def chSz : Ch → Nat
  | .bo x y => chSz x + chSz y + 1
  | _ => 1

open FM (PT Ch Ws Rw)
def chgB : VM.St := (.seq (.asg (.nm 4) (.bm .pop (.var 3) .nil))
  (.seq (.ite (.cmp .isn (.var 4) (.con .none))
  .cnt
  .nop)
  (.ite (.cmp .eq (.idx (.var 4) (.con (.int 0))) (.con (.str "both")))
  (.seq (.exp (.bm .append (.var 3) (.cons (.idx (.var 4) (.con (.int 2))) .nil)))
  (.exp (.bm .append (.var 3) (.cons (.idx (.var 4) (.con (.int 1))) .nil))))
  (.ite (.cmp .eq (.idx (.var 4) (.con (.int 0))) (.con (.str "hold")))
  (.seti (.var 2) (.idx (.var 4) (.con (.int 1))) (.idx (.var 4) (.con (.int 2))))
  (.for_ (.nm 5) (.sq (.idx (.var 4) (.con (.int 1))))
  (.seti (.var 2) (.var 5) (.con .none)) [5])))))
theorem set_nat {l : List PyData} {g : Nat} (h : g < l.length) : ixN l.length (g : Int) = some g := ixN_nat h
theorem chg_steps {cb : CB} {a b : En} : ∀ (c : Ch) (g st : List PyData), chLt g.length c → st.length + chSz c < 1000000 →
    Stps (whT cb (.val (.var 3))) (kSeq cb chgB) [4, 5] 2 [a, b, .mu 0, .mu 1, .un, .un] [.lst g, .lst (st ++ [chD c])] [a, b, .mu 0, .mu 1, .un, .un] [.lst (ap c g), .lst st]
  | .no, g, st, hl, hz => Stps.one (S1 := [.lst g, .lst (st ++ [.none])]) (ρ1 := [a, b, .mu 0, .mu 1, .dt .none, .un]) (S2 := [.lst g, .lst st]) (by simp [chD]) (.inr (by
    unfold chgB
    simp))
  | .ho k x y, g, st, hl, hz => Stps.one (S1 := [.lst g, .lst (st ++ [chD (.ho k x y)])]) (ρ1 := [a, b, .mu 0, .mu 1, .dt (chD (.ho k x y)), .un]) (S2 := [.lst (g.set k (prD x y)), .lst st]) (by simp) (.inl (by
    unfold chgB
    have := set_nat (l := g) (show k < g.length from hl)
    simp [chD, this, prD]))
  | .cl gs, g, st, hl, hz => by
    have lp := loopF_fold (f := forB cb (.nm 5) (.seti (.var 2) (.var 5) (.con .none))) (ch := none) (ks := [5]) (n0 := 2) (fun _ : List PyData => [a, b, .mu 0, .mu 1, .dt (chD (.cl gs)), .un]) (fun h => [.lst h, .lst st]) (fun h k => h.set k .none) (fun k : Nat => .dt (.int (k : Int))) (fun h ks => ∀ k ∈ ks, k < h.length) (fun h k ks hi => by
      refine ⟨fun j hj => by rw [List.length_set]; exact hi j (List.mem_cons_of_mem _ hj), [a, b, .mu 0, .mu 1, .dt (chD (.cl gs)), .dt (.int (k : Int))], [.lst (h.set k .none), .lst st], .inl ?_, rfl, rfl, trivial⟩
      have := set_nat (l := h) (hi k List.mem_cons_self)
      simp [this]) gs g hl
    have e3 : (gsD gs).map En.dt = gs.map fun k : Nat => .dt (.int (k : Int)) := by simp [gsD]
    have lp1 := lp.1
    exact Stps.one (S1 := [.lst g, .lst (st ++ [chD (.cl gs)])]) (ρ1 := [a, b, .mu 0, .mu 1, .dt (chD (.cl gs)), .un]) (S2 := [.lst (ap (.cl gs) g), .lst st]) (by simp) (.inl (by
      unfold chgB
      simp [chD, e3] at lp1 ⊢
      rw [lp1]
      rfl))
  | .bo x y, g, st, hl, hz => by
    have sx : st.length + chSz x + chSz y + 1 < 1000000 := by
      show st.length + chSz x + chSz y + 1 < 1000000
      have : chSz (.bo x y) = chSz x + chSz y + 1 := rfl
      omega
    have h1 : st.length < 16000000 := by omega
    have h2 : st.length + 1 < 16000000 := by omega
    have ly : chLt (ap x g).length y := by rw [FM.ap_len]; exact hl.2
    have px : 0 < chSz y := by cases y <;> simp [chSz]
    refine Stps.trans (ρ1 := [a, b, .mu 0, .mu 1, .un, .un]) (S1 := [.lst g, .lst ((st ++ [chD y]) ++ [chD x])]) ?_ ((chg_steps x g (st ++ [chD y]) hl.1 (by simp; omega)).trans (chg_steps y (ap x g) st ly (by omega)))
    exact Stps.one (S1 := [.lst g, .lst (st ++ [chD (.bo x y)])]) (ρ1 := [a, b, .mu 0, .mu 1, .dt (chD (.bo x y)), .un]) (S2 := [.lst g, .lst ((st ++ [chD y]) ++ [chD x])]) (by simp) (.inl (by
      unfold chgB
      simp [chD, big, h1, h2]))
theorem ok_changed {n : Nat} {c : Ch} {h : List PyData} (hl : chLt h.length c) (hz : chSz c < 900000) : run tb (n + 1) f_changed [.dt (.tuple h), .dt (chD c)] [] = .ok (.v (.tuple (ap c h))) [] := by
  rw [run_changed]
  refine run_of (fl := .rt (.v (.tuple (ap c h))) [.lst (ap c h), .lst []]) rfl ?_ (by simp)
  show exec (cbOf tb n) body_changed [.dt (.tuple h), .dt (chD c), .un, .un, .un, .un] _ = _
  unfold body_changed
  refine seq_nx (ρ1 := [.dt (.tuple h), .dt (chD c), .mu 0, .un, .un, .un]) (S1 := [.lst h]) (by simp) ?_
  refine seq_nx (ρ1 := [.dt (.tuple h), .dt (chD c), .mu 0, .mu 1, .un, .un]) (S1 := [.lst h, .lst [chD c]]) (by simp [big]) ?_
  refine seq_nx (ρ1 := [.dt (.tuple h), .dt (chD c), .mu 0, .mu 1, .un, .un]) (S1 := [.lst (ap c h), .lst []]) ?_ (by simp)
  rw [ex_whl]
  exact (chg_steps c h [] hl (by simpa using (by omega : chSz c < 1000000))).done (by simp)

open FM (PT Ch Ws Rw)
/-! ### the finder -/
def rwD : Rw → PyData
  | .st c b => .tuple [.str "set", cD c, .bool b]
  | .em => .tuple [.str "empty"]
  | .an nm => .tuple [.str "anchor", .str nm]
  | .ss a b => .tuple [.str "sequence", .int (a : Int), .int (b : Int)]
  | .cc a b => .tuple [.str "choice", .int (a : Int), .int (b : Int)]
  | .it gs i => .tuple [.str "iteration", .list (gsD gs), .int (i : Int)]
  | .fu a b g => .tuple [.str "further", .int (a : Int), .int (b : Int), .bool g]
  | .gp k i => .tuple [.str "group", .int (k : Int), .int (i : Int)]
  | .lo pos gs i => .tuple [.str "look", .bool pos, .list (gsD gs), .int (i : Int)]
def rwsD (R : List Rw) : List PyData := R.map rwD
def csD (cs : List Int) : List PyData := cs.map .int
def finC (R : List Rw) (cs : List Int) : Cell := .obj 0 [("rows", .dt (.list (rwsD R))), ("codes", .dt (.list (csD cs))), ("known", .mu 1)]
def FS (R : List Rw) (cs : List Int) (K : KV) : Stv := [finC R cs, .dct true (kvD K)]
theorem kget {K : KV} {a : Nat} {p : Int} {ws : Ws} (h : look K (a, p) = some ws) : dgetD true (kvD K) (.tuple [.int (a : Int), .int p]) = some (some (.list (wsD ws))) := by
  have := dget_kv K (a, p)
  rw [h] at this
  exact this
theorem knone {K : KV} {a : Nat} {p : Int} (h : look K (a, p) = none) : dgetD true (kvD K) (.tuple [.int (a : Int), .int p]) = some none := by
  have := dget_kv K (a, p)
  rw [h] at this
  exact this
theorem rows_at {R : List Rw} {i : Nat} {r : Rw} (h : R[i]? = some r) : atI (rwsD R) (i : Int) = some (rwD r) := by
  refine atI_nat ?_
  unfold rwsD
  rw [List.getElem?_map, h]
  rfl
theorem codes_at {cs : List Int} {i : Int} (h0 : 0 ≤ i) (h : i < (cs.length : Int)) : ∃ x, FM.codeAt cs i = some x ∧ atI (csD cs) i = some (.int x) := by
  obtain ⟨j, rfl⟩ : ∃ j : Nat, i = (j : Int) := ⟨i.toNat, by omega⟩
  have hj : j < cs.length := by omega
  refine ⟨cs[j], ?_, atI_nat ?_⟩
  · unfold FM.codeAt
    rw [if_pos h0]
    simp [hj]
  · unfold csD
    rw [List.getElem?_map, List.getElem?_eq_getElem hj]
    rfl
theorem codes_out {cs : List Int} {i : Int} (h : ¬ (0 ≤ i ∧ i < (cs.length : Int))) : FM.codeAt cs i = none := by
  unfold FM.codeAt
  split
  · rw [List.getElem?_eq_none]
    omega
  · rfl
section
variable {n : Nat} {R : List Rw} {cs : List Int} {K : KV}
theorem ok_code {i : Int} : run tb (n + 1) f_Finder__code [.mu 0, .dt (.int i)] (FS R cs K) = .ok (.v (oD (FM.codeAt cs i))) (FS R cs K) := by
  rw [run_Finder__code]
  refine run_of (fl := .rt (.v (oD (FM.codeAt cs i))) (FS R cs K)) rfl ?_ (by simp)
  show exec (cbOf tb n) body_Finder__code [.mu 0, .dt (.int i)] _ = _
  unfold body_Finder__code FS finC
  have hl : (csD cs).length = cs.length := by simp [csD]
  by_cases h0 : 0 ≤ i
  · by_cases h : i < (cs.length : Int)
    · obtain ⟨x, h1, h2⟩ := codes_at h0 h
      simp [h0, h, hl, h1, h2, oD]
    · have h1 := codes_out (cs := cs) (i := i) (fun z => h z.2)
      simp [h0, h, hl, h1, oD]
  · have h1 := codes_out (cs := cs) (i := i) (fun z => h0 z.1)
    simp [h0, hl, h1, oD]
theorem ok_holds {nm : String} {p : Int} (h : Anc nm) : run tb (n + 4) f_Finder__holds [.mu 0, .dt (.str nm), .dt (.int p)] (FS R cs K) = .ok (.v (.bool (FM.holds nm (FM.codeAt cs (p - 1)) (FM.codeAt cs p)))) (FS R cs K) := by
  rw [run_Finder__holds]
  refine run_of (fl := .rt (.v (.bool (FM.holds nm (FM.codeAt cs (p - 1)) (FM.codeAt cs p)))) (FS R cs K)) rfl ?_ (by simp)
  show exec (cbOf tb (n + 3)) body_Finder__holds [.mu 0, .dt (.str nm), .dt (.int p)] _ = _
  have h1 := ok_code (n := n + 2) (R := R) (cs := cs) (K := K) (i := p - 1)
  have h2 := ok_code (n := n + 2) (R := R) (cs := cs) (K := K) (i := p)
  have h3 := ok_anchor (n := n) (b := FM.codeAt cs (p - 1)) (a := FM.codeAt cs p) h
  unfold body_Finder__holds
  unfold FS finC at *
  simp [h1, h2, h3]
theorem ok_set_ways {c : List (Int × Int)} {b : Bool} {p : Int} : run tb (n + 3) f_Finder__set_ways [.mu 0, .dt (rwD (.st c b)), .dt (.int p)] (FS R cs K) = .ok (.nw (.lst (wsD (FM.setW cs c b p)))) (FS R cs K) := by
  rw [run_Finder__set_ways]
  refine run_of (fl := .rt (.nw (.lst (wsD (FM.setW cs c b p)))) (FS R cs K)) rfl ?_ (by simp)
  show exec (cbOf tb (n + 2)) body_Finder__set_ways [.mu 0, .dt (rwD (.st c b)), .dt (.int p), .un, .un, .un, .un] _ = _
  have h1 := ok_code (n := n + 1) (R := R) (cs := cs) (K := K) (i := if b = true then p - 1 else p)
  unfold body_Finder__set_ways
  unfold FS finC at *
  unfold FM.setW
  cases hc : FM.codeAt cs (if b = true then p - 1 else p) with
  | none =>
    rw [hc] at h1
    cases b <;> simp at h1 <;> simp [rwD, h1, oD, wsD, big]
  | some x =>
    rw [hc] at h1
    have h2 := ok_contains (n := n + 1) (c := c) (x := x)
    cases hx : FM.inC c x <;> rw [hx] at h2 <;> cases b <;> simp [oD] at h1 <;> simp [rwD, h1, h2, hx, oD, wsD, wD, chD, big]
/-- what is asked for first -/
def miss1 (K : KV) (a : Nat) (p : Int) (gs : Ws → List (Nat × Int)) : List (Nat × Int) := match look K (a, p) with
  | none => [(a, p)]
  | some xs => gs xs
def glD (gs : List (Nat × Int)) : List PyData := gs.map goD
theorem ok_chained_ss {a b : Nat} {p : Int} (hl : ∀ xs, look K (a, p) = some xs → xs.length ≤ 1000000) : run tb (n + 1) f_Finder__chained [.mu 0, .dt (rwD (.ss a b)), .dt (.int p)] (FS R cs K) = .ok (.nw (.lst (glD (miss1 K a p fun xs => xs.map fun w => (b, w.1))))) (FS R cs K) := by
  rw [run_Finder__chained]
  refine run_of (fl := .rt (.nw (.lst (glD (miss1 K a p fun xs => xs.map fun w => (b, w.1))))) (FS R cs K)) rfl ?_ (by simp)
  show exec (cbOf tb n) body_Finder__chained [.mu 0, .dt (rwD (.ss a b)), .dt (.int p), .un, .un, .un] _ = _
  unfold body_Finder__chained
  unfold miss1
  cases h : look K (a, p) with
  | none =>
    have hk := knone h
    unfold FS finC
    simp [rwD, VM.inR, hk, glD, goD, big]
  | some xs =>
    have hx := hl xs h
    have hk := kget h
    have b1 : xs.length ≤ 16000000 := by omega
    refine seq_nx (ρ1 := [.mu 0, .dt (rwD (.ss a b)), .dt (.int p), .un, .un, .un]) (S1 := FS R cs K) (by unfold FS finC; simp [rwD, VM.inR, hk, big]) ?_
    refine seq_nx (ρ1 := [.mu 0, .dt (rwD (.ss a b)), .dt (.int p), .dt (.list (xs.map fun w => .int w.1)), .un, .un]) (S1 := FS R cs K) ?_ ?_
    · have lp := lcF_filt (t := lcT (cbOf tb n) .none) (f := lcE (cbOf tb n) (.var 4)) (b := bindE (.tp [4, 5])) (ch := none) (n0 := 2) (ρ := [.mu 0, .dt (rwD (.ss a b)), .dt (.int p), .un, .un, .un]) (S := FS R cs K) (fun w : Int × Ch => .dt (wD w)) (fun _ => true) (fun w => .int w.1) trivial (by simp [FS]) xs [] (by simp [big]; omega) (fun w _ => ⟨[.mu 0, .dt (rwD (.ss a b)), .dt (.int p), .un, .dt (.int w.1), .dt (chD w.2)], rfl, by simp, fun _ => ⟨.v (.int w.1), by simp, rfl⟩⟩)
      rw [filt_true fun _ _ => rfl] at lp
      have e3 : (wsD xs).map En.dt = xs.map fun w => .dt (wD w) := by simp [wsD]
      unfold FS finC at lp ⊢
      simp [rwD, hk, e3, big, b1, wipeR] at lp ⊢
      simp [lp]
    · have lp := lcF_filt (t := lcT (cbOf tb n) (.some (.or (.cmp .eq (.idx (.var 1) (.con (.int 0))) (.con (.str "sequence"))) (.cmp .ne (.var 4) (.var 2))))) (f := lcE (cbOf tb n) (.tup (.cons (.idx (.var 1) (.con (.int 2))) (.cons (.var 4) .nil)))) (b := bindE (.nm 4)) (ch := none) (n0 := 2) (ρ := [.mu 0, .dt (rwD (.ss a b)), .dt (.int p), .dt (.list (xs.map fun w => .int w.1)), .un, .un]) (S := FS R cs K) (fun w : Int × Ch => .dt (.int w.1)) (fun _ => true) (fun w => goD (b, w.1)) trivial (by simp [FS]) xs [] (by simp [big]; omega) (fun w _ => ⟨[.mu 0, .dt (rwD (.ss a b)), .dt (.int p), .dt (.list (xs.map fun w => .int w.1)), .dt (.int w.1), .un], rfl, by simp [rwD], fun _ => ⟨.v (goD (b, w.1)), by simp [rwD, goD, big], rfl⟩⟩)
      rw [filt_true fun _ _ => rfl] at lp
      unfold FS finC at lp ⊢
      simp [big, b1, wipeR] at lp ⊢
      have e : (xs.map (En.dt ∘ fun w : Int × Ch => PyData.int w.1)) = xs.map fun w => En.dt (.int w.1) := rfl
      simp [e, lp, glD, goD]
end

open FM (PT Ch Ws Rw)
section
variable {n : Nat} {R : List Rw} {cs : List Int} {K : KV}
theorem ok_chained_fu {a b : Nat} {g : Bool} {p : Int} (hl : ∀ xs, look K (a, p) = some xs → xs.length ≤ 1000000) : run tb (n + 1) f_Finder__chained [.mu 0, .dt (rwD (.fu a b g)), .dt (.int p)] (FS R cs K) = .ok (.nw (.lst (glD (miss1 K a p fun xs => (xs.filter fun w => w.1 != p).map fun w => (b, w.1))))) (FS R cs K) := by
  rw [run_Finder__chained]
  refine run_of (fl := .rt (.nw (.lst (glD (miss1 K a p fun xs => (xs.filter fun w => w.1 != p).map fun w => (b, w.1))))) (FS R cs K)) rfl ?_ (by simp)
  show exec (cbOf tb n) body_Finder__chained [.mu 0, .dt (rwD (.fu a b g)), .dt (.int p), .un, .un, .un] _ = _
  unfold body_Finder__chained
  unfold miss1
  cases h : look K (a, p) with
  | none =>
    have hk := knone h
    unfold FS finC
    simp [rwD, VM.inR, hk, glD, goD, big]
  | some xs =>
    have hx := hl xs h
    have hk := kget h
    have b1 : xs.length ≤ 16000000 := by omega
    refine seq_nx (ρ1 := [.mu 0, .dt (rwD (.fu a b g)), .dt (.int p), .un, .un, .un]) (S1 := FS R cs K) (by unfold FS finC; simp [rwD, VM.inR, hk, big]) ?_
    refine seq_nx (ρ1 := [.mu 0, .dt (rwD (.fu a b g)), .dt (.int p), .dt (.list (xs.map fun w => .int w.1)), .un, .un]) (S1 := FS R cs K) ?_ ?_
    · have lp := lcF_filt (t := lcT (cbOf tb n) .none) (f := lcE (cbOf tb n) (.var 4)) (b := bindE (.tp [4, 5])) (ch := none) (n0 := 2) (ρ := [.mu 0, .dt (rwD (.fu a b g)), .dt (.int p), .un, .un, .un]) (S := FS R cs K) (fun w : Int × Ch => .dt (wD w)) (fun _ => true) (fun w => .int w.1) trivial (by simp [FS]) xs [] (by simp [big]; omega) (fun w _ => ⟨[.mu 0, .dt (rwD (.fu a b g)), .dt (.int p), .un, .dt (.int w.1), .dt (chD w.2)], rfl, by simp, fun _ => ⟨.v (.int w.1), by simp, rfl⟩⟩)
      rw [filt_true fun _ _ => rfl] at lp
      have e3 : (wsD xs).map En.dt = xs.map fun w => .dt (wD w) := by simp [wsD]
      unfold FS finC at lp ⊢
      simp [rwD, hk, e3, big, b1, wipeR] at lp ⊢
      simp [lp]
    · have lp := lcF_filt (t := lcT (cbOf tb n) (.some (.or (.cmp .eq (.idx (.var 1) (.con (.int 0))) (.con (.str "sequence"))) (.cmp .ne (.var 4) (.var 2))))) (f := lcE (cbOf tb n) (.tup (.cons (.idx (.var 1) (.con (.int 2))) (.cons (.var 4) .nil)))) (b := bindE (.nm 4)) (ch := none) (n0 := 2) (ρ := [.mu 0, .dt (rwD (.fu a b g)), .dt (.int p), .dt (.list (xs.map fun w => .int w.1)), .un, .un]) (S := FS R cs K) (fun w : Int × Ch => .dt (.int w.1)) (fun w => w.1 != p) (fun w => goD (b, w.1)) trivial (by simp [FS]) xs [] (by simp [big]; omega) (fun w _ => ⟨[.mu 0, .dt (rwD (.fu a b g)), .dt (.int p), .dt (.list (xs.map fun w => .int w.1)), .dt (.int w.1), .un], rfl, by
          by_cases e : w.1 = p <;> simp [rwD, e], fun _ => ⟨.v (goD (b, w.1)), by simp [rwD, goD, big], rfl⟩⟩)
      unfold FS finC at lp ⊢
      simp [big, b1, wipeR] at lp ⊢
      have e : (xs.map (En.dt ∘ fun w : Int × Ch => PyData.int w.1)) = xs.map fun w => En.dt (.int w.1) := rfl
      simp [e, lp, glD, goD]
/-- goals that are not known -/
def unk (K : KV) (gs : List (Nat × Int)) : List (Nat × Int) := gs.filter fun g => (look K g).isNone
theorem unk_lc {gs : List (Nat × Int)} {ρ : Rho} {S : Stv} (hS : S = FS R cs K) (h0 : ρ[0]? = some (.mu 0)) (h6 : 6 < ρ.length) (hl : gs.length ≤ 1000000) :
    lcF (lcT (cbOf tb n) (.some (.cmp .notin (.var 6) (.fld "known" (.var 0))))) (lcE (cbOf tb n) (.var 6)) (bindE (.nm 6)) none 2 ρ ((glD gs).map .dt) [] S = .ok (glD (unk K gs)) S := by
  subst hS
  have lp := lcF_filt (t := lcT (cbOf tb n) (.some (.cmp .notin (.var 6) (.fld "known" (.var 0))))) (f := lcE (cbOf tb n) (.var 6)) (b := bindE (.nm 6)) (ch := none) (n0 := 2) (ρ := ρ) (S := FS R cs K) (fun g : Nat × Int => .dt (goD g)) (fun g => (look K g).isNone) goD trivial (by simp [FS]) gs [] (by simp [big]; omega) (fun g _ => by
    have h0' : (ρ.set 6 (.dt (goD g)))[0]? = some (.mu 0) := by rw [List.getElem?_set_ne (by omega)]; exact h0
    have h6' : (ρ.set 6 (.dt (goD g)))[6]? = some (.dt (goD g)) := List.getElem?_set_self h6
    refine ⟨ρ.set 6 (.dt (goD g)), rfl, ?_, fun _ => ⟨.v (goD g), ?_, rfl⟩⟩
    · have hd := dget_kv K g
      unfold FS finC
      simp only [lcT_ap, evC_some, evT_cmp, evE_var, h6', varR_dt, Out.bind_ok, kTc1_ap, evE_fld, h0', varR_mu, fldR_mu]
      cases hk : look K g with
      | none => rw [hk] at hd; simp [VM.inR, hd]
      | some ws => rw [hk] at hd; simp [VM.inR, hd]
    · simp only [lcE_ap, evE_var, h6', varR_dt])
  have e : (glD gs).map En.dt = gs.map fun g => .dt (goD g) := by simp [glD]
  rw [e, lp]
  rfl
/-- what has to be known first -/
def rneeds (K : KV) (p : Int) : Rw → List (Nat × Int)
  | .ss a b => miss1 K a p fun xs => xs.map fun w => (b, w.1)
  | .fu a b _ => miss1 K a p fun xs => (xs.filter fun w => w.1 != p).map fun w => (b, w.1)
  | .cc a b => [(b, p), (a, p)]
  | .it _ a => [(a, p)]
  | .gp _ a => [(a, p)]
  | .lo _ _ a => [(a, p)]
  | _ => []
def needs (R : List Rw) (K : KV) (i : Nat) (p : Int) : List (Nat × Int) := match R[i]? with
  | some r => rneeds K p r
  | none => []
theorem needs_of {i : Nat} {p : Int} {r : Rw} (h : R[i]? = some r) : needs R K i p = rneeds K p r := by
  unfold needs
  rw [h]
theorem miss_len {a : Nat} {p : Int} {f : Ws → List (Nat × Int)} (hl : ∀ xs, look K (a, p) = some xs → xs.length ≤ 1000000) (hf : ∀ xs, (f xs).length ≤ xs.length) : (miss1 K a p f).length ≤ 1000000 := by
  unfold miss1
  cases h : look K (a, p) with
  | none => simp
  | some xs => exact Nat.le_trans (hf xs) (hl xs h)
theorem atN3 {a b c : PyData} : atI [a, b, c] (-1) = some c := rfl
theorem atN4 {a b c d : PyData} : atI [a, b, c, d] (-1) = some d := rfl
theorem ok_missing {i : Nat} {p : Int} {r : Rw} (hr : R[i]? = some r) (hu : look K (i, p) = none) (hK : ∀ g xs, look K g = some xs → xs.length ≤ 1000000) : run tb (n + 2) f_Finder__missing [.mu 0, .dt (.int (i : Int)), .dt (.int p)] (FS R cs K) = .ok (.nw (.lst (glD (unk K (needs R K i p))))) (FS R cs K) := by
  rw [run_Finder__missing]
  refine run_of (fl := .rt (.nw (.lst (glD (unk K (needs R K i p))))) (FS R cs K)) rfl ?_ (by simp)
  show exec (cbOf tb (n + 1)) body_Finder__missing [.mu 0, .dt (.int (i : Int)), .dt (.int p), .un, .un, .un, .un] _ = _
  unfold body_Finder__missing
  have hk := knone hu
  have ha := rows_at hr
  have hrow := needs_of (K := K) (p := p) hr
  have hlen : (needs R K i p).length ≤ 1000000 := by
    rw [hrow]
    cases r with
    | ss a b => exact miss_len (fun xs h => hK _ xs h) (fun xs => by simp)
    | fu a b g => exact miss_len (fun xs h => hK _ xs h) (fun xs => by simp; exact List.length_filter_le _ _)
    | _ => simp [rneeds]
  refine seq_nx (ρ1 := [.mu 0, .dt (.int (i : Int)), .dt (.int p), .un, .un, .un, .un]) (S1 := FS R cs K) (by unfold FS finC; simp [VM.inR, hk, big]) ?_
  refine seq_nx (ρ1 := [.mu 0, .dt (.int (i : Int)), .dt (.int p), .dt (rwD r), .un, .un, .un]) (S1 := FS R cs K) (by unfold FS finC; simp [ha]) ?_
  have fin : ∀ k : PyData, exec (cbOf tb (n + 1)) (.ret (.lc [6] (.nm 6) (.sq (.var 5)) (.some (.cmp .notin (.var 6) (.fld "known" (.var 0)))) (.var 6))) [.mu 0, .dt (.int (i : Int)), .dt (.int p), .dt (rwD r), .dt k, .dt (.list (glD (needs R K i p))), .un] (FS R cs K) = .rt (.nw (.lst (glD (unk K (needs R K i p))))) (FS R cs K) := fun k => by
    have lp := unk_lc (n := n + 1) (R := R) (cs := cs) (K := K) (gs := needs R K i p) (ρ := [.mu 0, .dt (.int (i : Int)), .dt (.int p), .dt (rwD r), .dt k, .dt (.list (glD (needs R K i p))), .un]) rfl rfl (by simp) hlen
    have b1 : (glD (needs R K i p)).length ≤ 16000000 := by simp [glD]; omega
    have b2 : (FS R cs K).length = 2 := rfl
    simp only [ex_ret, evE_lc, evI_sq, evE_var]
    simp [b1, b2, big, wipeR, lp]
  cases r with
  | st c b =>
    refine seq_nx (ρ1 := [.mu 0, .dt (.int (i : Int)), .dt (.int p), .dt (rwD (.st c b)), .dt (.str "set"), .un, .un]) (S1 := FS R cs K) (by simp [rwD]) ?_
    refine seq_nx (ρ1 := [.mu 0, .dt (.int (i : Int)), .dt (.int p), .dt (rwD (.st c b)), .dt (.str "set"), .dt (.list (glD (needs R K i p))), .un]) (S1 := FS R cs K) ?_ (fin _)
    rw [hrow]
    simp [rneeds, VM.inR, flatD, eqF, big, glD]
  | em =>
    refine seq_nx (ρ1 := [.mu 0, .dt (.int (i : Int)), .dt (.int p), .dt (rwD .em), .dt (.str "empty"), .un, .un]) (S1 := FS R cs K) (by simp [rwD]) ?_
    refine seq_nx (ρ1 := [.mu 0, .dt (.int (i : Int)), .dt (.int p), .dt (rwD .em), .dt (.str "empty"), .dt (.list (glD (needs R K i p))), .un]) (S1 := FS R cs K) ?_ (fin _)
    rw [hrow]
    simp [rneeds, VM.inR, flatD, eqF, big, glD]
  | an nm =>
    refine seq_nx (ρ1 := [.mu 0, .dt (.int (i : Int)), .dt (.int p), .dt (rwD (.an nm)), .dt (.str "anchor"), .un, .un]) (S1 := FS R cs K) (by simp [rwD]) ?_
    refine seq_nx (ρ1 := [.mu 0, .dt (.int (i : Int)), .dt (.int p), .dt (rwD (.an nm)), .dt (.str "anchor"), .dt (.list (glD (needs R K i p))), .un]) (S1 := FS R cs K) ?_ (fin _)
    rw [hrow]
    simp [rneeds, VM.inR, flatD, eqF, big, glD]
  | ss a b =>
    have hc := ok_chained_ss (n := n) (R := R) (cs := cs) (a := a) (b := b) (p := p) (fun xs h => hK _ xs h)
    refine seq_nx (ρ1 := [.mu 0, .dt (.int (i : Int)), .dt (.int p), .dt (rwD (.ss a b)), .dt (.str "sequence"), .un, .un]) (S1 := FS R cs K) (by simp [rwD]) ?_
    refine seq_nx (ρ1 := [.mu 0, .dt (.int (i : Int)), .dt (.int p), .dt (rwD (.ss a b)), .dt (.str "sequence"), .dt (.list (glD (needs R K i p))), .un]) (S1 := FS R cs K) ?_ (fin _)
    rw [hrow]
    unfold FS finC at hc ⊢
    simp [rneeds, VM.inR, flatD, eqF, big, hc]
  | fu a b g =>
    have hc := ok_chained_fu (n := n) (R := R) (cs := cs) (a := a) (b := b) (g := g) (p := p) (fun xs h => hK _ xs h)
    refine seq_nx (ρ1 := [.mu 0, .dt (.int (i : Int)), .dt (.int p), .dt (rwD (.fu a b g)), .dt (.str "further"), .un, .un]) (S1 := FS R cs K) (by simp [rwD]) ?_
    refine seq_nx (ρ1 := [.mu 0, .dt (.int (i : Int)), .dt (.int p), .dt (rwD (.fu a b g)), .dt (.str "further"), .dt (.list (glD (needs R K i p))), .un]) (S1 := FS R cs K) ?_ (fin _)
    rw [hrow]
    unfold FS finC at hc ⊢
    simp [rneeds, VM.inR, flatD, eqF, big, hc]
  | cc a b =>
    refine seq_nx (ρ1 := [.mu 0, .dt (.int (i : Int)), .dt (.int p), .dt (rwD (.cc a b)), .dt (.str "choice"), .un, .un]) (S1 := FS R cs K) (by simp [rwD]) ?_
    refine seq_nx (ρ1 := [.mu 0, .dt (.int (i : Int)), .dt (.int p), .dt (rwD (.cc a b)), .dt (.str "choice"), .dt (.list (glD (needs R K i p))), .un]) (S1 := FS R cs K) ?_ (fin _)
    rw [hrow]
    simp [rneeds, VM.inR, flatD, eqF, big, glD, goD, rwD]
  | it gs a =>
    refine seq_nx (ρ1 := [.mu 0, .dt (.int (i : Int)), .dt (.int p), .dt (rwD (.it gs a)), .dt (.str "iteration"), .un, .un]) (S1 := FS R cs K) (by simp [rwD]) ?_
    refine seq_nx (ρ1 := [.mu 0, .dt (.int (i : Int)), .dt (.int p), .dt (rwD (.it gs a)), .dt (.str "iteration"), .dt (.list (glD (needs R K i p))), .un]) (S1 := FS R cs K) ?_ (fin _)
    rw [hrow]
    simp [rneeds, VM.inR, flatD, eqF, big, glD, goD, rwD, atN3]
  | gp k a =>
    refine seq_nx (ρ1 := [.mu 0, .dt (.int (i : Int)), .dt (.int p), .dt (rwD (.gp k a)), .dt (.str "group"), .un, .un]) (S1 := FS R cs K) (by simp [rwD]) ?_
    refine seq_nx (ρ1 := [.mu 0, .dt (.int (i : Int)), .dt (.int p), .dt (rwD (.gp k a)), .dt (.str "group"), .dt (.list (glD (needs R K i p))), .un]) (S1 := FS R cs K) ?_ (fin _)
    rw [hrow]
    simp [rneeds, VM.inR, flatD, eqF, big, glD, goD, rwD, atN3]
  | lo pos gs a =>
    refine seq_nx (ρ1 := [.mu 0, .dt (.int (i : Int)), .dt (.int p), .dt (rwD (.lo pos gs a)), .dt (.str "look"), .un, .un]) (S1 := FS R cs K) (by simp [rwD]) ?_
    refine seq_nx (ρ1 := [.mu 0, .dt (.int (i : Int)), .dt (.int p), .dt (rwD (.lo pos gs a)), .dt (.str "look"), .dt (.list (glD (needs R K i p))), .un]) (S1 := FS R cs K) ?_ (fin _)
    rw [hrow]
    simp [rneeds, VM.inR, flatD, eqF, big, glD, goD, rwD, atN4]
/-- nothing is missing for what is known -/
theorem ok_missing_known {i p : Int} {ws : PyData} (h : dgetD true (kvD K) (.tuple [.int i, .int p]) = some (some ws)) : run tb (n + 1) f_Finder__missing [.mu 0, .dt (.int i), .dt (.int p)] (FS R cs K) = .ok (.nw (.lst [])) (FS R cs K) := by
  rw [run_Finder__missing]
  refine run_of (fl := .rt (.nw (.lst [])) (FS R cs K)) rfl ?_ (by simp)
  show exec (cbOf tb n) body_Finder__missing [.mu 0, .dt (.int i), .dt (.int p), .un, .un, .un, .un] _ = _
  unfold body_Finder__missing FS finC
  simp [VM.inR, h, big]
end

open FM (PT Ch Ws Rw)
def cwI : VM.St := (.ite (.cmp .notin (.var 7) (.var 4))
  (.seti (.var 4) (.var 7) (.call f_both (.cons (.var 6) (.cons (.var 8) .nil))))
  .nop)
def cwO : VM.St := (.seq (.ite (.and (.val (.var 3)) (.cmp .eq (.var 5) (.var 2)))
  .cnt
  .nop)
  (.for_ (.tp [7, 8]) (.sq (.idx (.fld "known" (.var 0)) (.tup (.cons (.idx (.var 1) (.con (.int 2))) (.cons (.var 5) .nil)))))
  cwI [7, 8]))
def pre (w : Int × Ch) (vs : Ws) : Ws := vs.map fun v => (v.1, FM.both w.2 v.2)
def oStep (fb : Bool) (p : Int) (f : Int → Ws) (acc : Ws) (w : Int × Ch) : Ws := if fb && w.1 == p then acc else (pre w (f w.1)).foldl dStep acc
def kept (fb : Bool) (p : Int) (ws : Ws) : Ws := if fb then ws.filter fun w => w.1 != p else ws
theorem foldl_oStep {fb : Bool} {p : Int} {f : Int → Ws} : ∀ (ws acc : Ws), ws.foldl (oStep fb p f) acc = (FM.lnk (kept fb p ws) f).foldl dStep acc
  | [], acc => by cases fb <;> rfl
  | w :: ws, acc => by
    rw [List.foldl_cons, foldl_oStep ws]
    unfold oStep kept FM.lnk
    cases fb with
    | false =>
      simp only [Bool.false_and, Bool.false_eq_true, if_false, List.flatMap_cons, List.foldl_append]
      rfl
    | true =>
      by_cases e : w.1 = p
      · simp [e]
      · simp [e, pre]
section
variable {n : Nat} {R : List Rw} {cs : List Int} {K : KV}
def FS3 (R : List Rw) (cs : List Int) (K : KV) (acc : Ws) : Stv := [finC R cs, .dct true (kvD K), .dct false (wkD acc)]
theorem cw_inner {row p fb : PyData} {w : Int × Ch} {vs acc : Ws} (hl : acc.length + vs.length ≤ 2000000) :
    loopF (forB (cbOf tb (n + 1)) (.tp [7, 8]) cwI) none [7, 8] 3 (vs.map fun v => .dt (wD v)) [.mu 0, .dt row, .dt p, .dt fb, .mu 2, .dt (.int w.1), .dt (chD w.2), .un, .un] (FS3 R cs K acc) = .nx [.mu 0, .dt row, .dt p, .dt fb, .mu 2, .dt (.int w.1), .dt (chD w.2), .un, .un] (FS3 R cs K ((pre w vs).foldl dStep acc)) := by
  have lp := loopF_fold (f := forB (cbOf tb (n + 1)) (.tp [7, 8]) cwI) (ch := none) (ks := [7, 8]) (n0 := 3) (fun _ : Ws => [.mu 0, .dt row, .dt p, .dt fb, .mu 2, .dt (.int w.1), .dt (chD w.2), .un, .un]) (fun acc => FS3 R cs K acc) (fun acc (v : Int × Ch) => dStep acc (v.1, FM.both w.2 v.2)) (fun v => .dt (wD v)) (fun acc vs => acc.length + vs.length ≤ 2000000) (fun acc v vs hi => by
    rw [List.length_cons] at hi
    have hb2 := ok_both (n := n) (x := w.2) (y := v.2)
    by_cases h : v.1 ∈ FM.keys acc
    · have e : dStep acc (v.1, FM.both w.2 v.2) = acc := if_pos h
      rw [e]
      refine ⟨by omega, [.mu 0, .dt row, .dt p, .dt fb, .mu 2, .dt (.int w.1), .dt (chD w.2), .dt (.int v.1), .dt (chD v.2)], FS3 R cs K acc, .inl ?_, rfl, rfl, trivial⟩
      obtain ⟨x, hb⟩ := dget_in h
      unfold FS3 cwI
      simp [wD, VM.inR, hb]
    · have e : dStep acc (v.1, FM.both w.2 v.2) = acc ++ [(v.1, FM.both w.2 v.2)] := if_neg h
      rw [e]
      refine ⟨by simp; omega, [.mu 0, .dt row, .dt p, .dt fb, .mu 2, .dt (.int w.1), .dt (chD w.2), .dt (.int v.1), .dt (chD v.2)], FS3 R cs K (acc ++ [(v.1, FM.both w.2 v.2)]), .inl ?_, rfl, rfl, trivial⟩
      have hb := dget_out h
      have hp := put_wk (ws := acc) (k := v.1) (c := FM.both w.2 v.2) h
      have hk : (wkD acc).length < 16000000 := by simp [wkD]; omega
      unfold FS3 cwI
      simp [wD, VM.inR, hb, hp, big, hk, hb2]) vs acc hl
  have e : vs.foldl (fun acc (v : Int × Ch) => dStep acc (v.1, FM.both w.2 v.2)) acc = (pre w vs).foldl dStep acc := by
    unfold pre
    rw [List.foldl_map]
  rw [e] at lp
  exact lp.1
theorem cw_outer {kd : Str} {rest : List PyData} {a b : Nat} {p : Int} {fb : Bool} {f : Int → Ws} (xs acc : Ws) (hk : ∀ w ∈ xs, (fb && w.1 == p) = false → look K (b, w.1) = some (f w.1)) (hl : acc.length + (FM.lnk (kept fb p xs) f).length ≤ 2000000) :
    loopF (forB (cbOf tb (n + 1)) (.tp [5, 6]) cwO) none [5, 6, 7, 8] 3 (xs.map fun v => .dt (wD v)) [.mu 0, .dt (.tuple (.str kd :: .int (a : Int) :: .int (b : Int) :: rest)), .dt (.int p), .dt (.bool fb), .mu 2, .un, .un, .un, .un] (FS3 R cs K acc) = .nx [.mu 0, .dt (.tuple (.str kd :: .int (a : Int) :: .int (b : Int) :: rest)), .dt (.int p), .dt (.bool fb), .mu 2, .un, .un, .un, .un] (FS3 R cs K ((FM.lnk (kept fb p xs) f).foldl dStep acc)) := by
  have lp := loopF_fold (f := forB (cbOf tb (n + 1)) (.tp [5, 6]) cwO) (ch := none) (ks := [5, 6, 7, 8]) (n0 := 3) (fun _ : Ws => [.mu 0, .dt (.tuple (.str kd :: .int (a : Int) :: .int (b : Int) :: rest)), .dt (.int p), .dt (.bool fb), .mu 2, .un, .un, .un, .un]) (fun acc => FS3 R cs K acc) (oStep fb p f) (fun v => .dt (wD v)) (fun acc ws => acc.length + (FM.lnk (kept fb p ws) f).length ≤ 2000000 ∧ ∀ w ∈ ws, (fb && w.1 == p) = false → look K (b, w.1) = some (f w.1)) (fun acc w ws hi => by
    obtain ⟨hi, hk⟩ := hi
    have hk' : ∀ v ∈ ws, (fb && v.1 == p) = false → look K (b, v.1) = some (f v.1) := fun v hv => hk v (List.mem_cons_of_mem _ hv)
    by_cases h : (fb && w.1 == p) = true
    · have e : oStep fb p f acc w = acc := if_pos h
      rw [e]
      have hfb : fb = true ∧ w.1 = p := by simpa using h
      obtain ⟨rfl, rfl⟩ := hfb
      refine ⟨⟨?_, hk'⟩, [.mu 0, .dt (.tuple (.str kd :: .int (a : Int) :: .int (b : Int) :: rest)), .dt (.int w.1), .dt (.bool true), .mu 2, .dt (.int w.1), .dt (chD w.2), .un, .un], FS3 R cs K acc, .inr ?_, rfl, rfl, trivial⟩
      · simpa [kept] using hi
      · unfold FS3 cwO
        simp [wD]
    · have h : (fb && w.1 == p) = false := by simpa using h
      have e : oStep fb p f acc w = (pre w (f w.1)).foldl dStep acc := if_neg (by simp [h])
      rw [e]
      have kp : kept fb p (w :: ws) = w :: kept fb p ws := by
        unfold kept
        cases fb with
        | false => rfl
        | true =>
          have : w.1 ≠ p := by simpa using h
          simp [this]
      rw [kp] at hi
      have hi2 : acc.length + ((f w.1).length + (FM.lnk (kept fb p ws) f).length) ≤ 2000000 := by simpa [FM.lnk] using hi
      have hlen : ((pre w (f w.1)).foldl dStep acc).length ≤ acc.length + (f w.1).length := by
        rw [foldl_dStep, List.length_append]
        have : ∀ (xs : Ws) (s : List Int), (FM.onceF s xs).length ≤ xs.length := fun xs => by
          induction xs with
          | nil => intro s; exact Nat.le_refl _
          | cons x xs ih =>
            intro s
            rw [FM.onceF_cons]
            split
            · exact Nat.le_succ_of_le (ih s)
            · exact Nat.succ_le_succ (ih _)
        have := this (pre w (f w.1)) (FM.keys acc)
        simp [pre] at this ⊢
        exact this
      refine ⟨⟨by omega, hk'⟩, [.mu 0, .dt (.tuple (.str kd :: .int (a : Int) :: .int (b : Int) :: rest)), .dt (.int p), .dt (.bool fb), .mu 2, .dt (.int w.1), .dt (chD w.2), .un, .un], FS3 R cs K ((pre w (f w.1)).foldl dStep acc), .inl ?_, rfl, rfl, trivial⟩
      have hg := kget (hk w List.mem_cons_self h)
      have li := cw_inner (n := n) (R := R) (cs := cs) (K := K) (row := .tuple (.str kd :: .int (a : Int) :: .int (b : Int) :: rest)) (p := .int p) (fb := .bool fb) (w := w) (vs := f w.1) (acc := acc) (by omega)
      have e3 : (wsD (f w.1)).map En.dt = (f w.1).map fun w => .dt (wD w) := by simp [wsD]
      rw [← e3] at li
      unfold FS3 finC at li ⊢
      unfold cwO
      cases fb with
      | false => simp [wD, hg, big, li]
      | true =>
        have hne : w.1 ≠ p := by simpa using h
        simp [wD, hg, big, li, hne]) xs acc ⟨hl, hk⟩
  rw [foldl_oStep] at lp
  exact lp.1
theorem ok_chain_ss {a b : Nat} {p : Int} {xs : Ws} {f : Int → Ws} (hx : look K (a, p) = some xs) (hk : ∀ w ∈ xs, look K (b, w.1) = some (f w.1)) (hl : (FM.lnk xs f).length ≤ 1000000) : run tb (n + 2) f_Finder__chain_ways [.mu 0, .dt (rwD (.ss a b)), .dt (.int p)] (FS R cs K) = .ok (.nw (.lst (wsD (FM.chain xs f)))) (FS R cs K) := by
  rw [run_Finder__chain_ways]
  refine run_of (fl := .rt (.nw (.lst (wsD (FM.chain xs f)))) (FS3 R cs K (FM.chain xs f))) rfl ?_ (by unfold FS3 FS finC; simp)
  show exec (cbOf tb (n + 1)) body_Finder__chain_ways [.mu 0, .dt (rwD (.ss a b)), .dt (.int p), .un, .un, .un, .un, .un, .un] _ = _
  unfold body_Finder__chain_ways
  refine seq_nx (ρ1 := [.mu 0, .dt (rwD (.ss a b)), .dt (.int p), .dt (.bool false), .un, .un, .un, .un, .un]) (S1 := FS R cs K) (by unfold FS finC; simp [rwD]) ?_
  refine seq_nx (ρ1 := [.mu 0, .dt (rwD (.ss a b)), .dt (.int p), .dt (.bool false), .mu 2, .un, .un, .un, .un]) (S1 := FS3 R cs K []) (by unfold FS3 FS finC; simp [wkD]) ?_
  refine seq_nx (ρ1 := [.mu 0, .dt (rwD (.ss a b)), .dt (.int p), .dt (.bool false), .mu 2, .un, .un, .un, .un]) (S1 := FS3 R cs K []) (by simp) ?_
  refine seq_nx (ρ1 := [.mu 0, .dt (rwD (.ss a b)), .dt (.int p), .dt (.bool false), .mu 2, .un, .un, .un, .un]) (S1 := FS3 R cs K (FM.chain xs f)) ?_ ?_
  · have lp := cw_outer (n := n) (R := R) (cs := cs) (K := K) (kd := "sequence") (rest := []) (a := a) (b := b) (p := p) (fb := false) (f := f) xs [] (fun w hw _ => hk w hw) (by simpa [kept] using (by omega : (FM.lnk xs f).length ≤ 2000000))
    have e1 : (FM.lnk (kept false p xs) f).foldl dStep [] = FM.chain xs f := by rw [foldl_dStep]; rfl
    have e3 : (wsD xs).map En.dt = xs.map fun w => .dt (wD w) := by simp [wsD]
    rw [e1, ← e3] at lp
    have hg := kget hx
    unfold FS3 finC at lp ⊢
    unfold cwO cwI at lp
    simp [rwD, hg, big, lp]
  · refine seq_nx (ρ1 := [.mu 0, .dt (rwD (.ss a b)), .dt (.int p), .dt (.bool false), .mu 2, .un, .un, .un, .un]) (S1 := FS3 R cs K (FM.chain xs f)) (by simp) ?_
    unfold FS3
    simp [its_wk]
theorem ok_chain_fu {a b : Nat} {g : Bool} {p : Int} {xs : Ws} {f : Int → Ws} (hx : look K (a, p) = some xs) (hk : ∀ w ∈ xs, w.1 ≠ p → look K (b, w.1) = some (f w.1)) (hn : p ∉ FM.keys (FM.lnk (xs.filter fun w => w.1 != p) f)) (hl : (FM.lnk (xs.filter fun w => w.1 != p) f).length ≤ 1000000) : run tb (n + 2) f_Finder__chain_ways [.mu 0, .dt (rwD (.fu a b g)), .dt (.int p)] (FS R cs K) = .ok (.nw (.lst (wsD (FM.furS g p xs f)))) (FS R cs K) := by
  rw [run_Finder__chain_ways]
  refine run_of (fl := .rt (.nw (.lst (wsD (FM.furS g p xs f)))) (FS3 R cs K (FM.furS g p xs f))) rfl ?_ (by unfold FS3 FS finC; simp)
  show exec (cbOf tb (n + 1)) body_Finder__chain_ways [.mu 0, .dt (rwD (.fu a b g)), .dt (.int p), .un, .un, .un, .un, .un, .un] _ = _
  unfold body_Finder__chain_ways
  obtain ⟨acc0, h0⟩ : ∃ acc0 : Ws, acc0 = if g then [] else [(p, .no)] := ⟨_, rfl⟩
  have hl0 : acc0.length ≤ 1 := by rw [h0]; cases g <;> simp
  refine seq_nx (ρ1 := [.mu 0, .dt (rwD (.fu a b g)), .dt (.int p), .dt (.bool true), .un, .un, .un, .un, .un]) (S1 := FS R cs K) (by unfold FS finC; simp [rwD]) ?_
  refine seq_nx (ρ1 := [.mu 0, .dt (rwD (.fu a b g)), .dt (.int p), .dt (.bool true), .mu 2, .un, .un, .un, .un]) (S1 := FS3 R cs K []) (by unfold FS3 FS finC; simp [wkD]) ?_
  refine seq_nx (ρ1 := [.mu 0, .dt (rwD (.fu a b g)), .dt (.int p), .dt (.bool true), .mu 2, .un, .un, .un, .un]) (S1 := FS3 R cs K acc0) ?_ ?_
  · have hp := put_wk (ws := []) (k := p) (c := .no) (by simp)
    simp only [chD, List.nil_append] at hp
    unfold FS3 finC
    rw [h0]
    cases g <;> simp [rwD, hp, big]
    simp [wkD]
  refine seq_nx (ρ1 := [.mu 0, .dt (rwD (.fu a b g)), .dt (.int p), .dt (.bool true), .mu 2, .un, .un, .un, .un]) (S1 := FS3 R cs K ((FM.lnk (xs.filter fun w => w.1 != p) f).foldl dStep acc0)) ?_ ?_
  · have lp := cw_outer (n := n) (R := R) (cs := cs) (K := K) (kd := "further") (rest := [.bool g]) (a := a) (b := b) (p := p) (fb := true) (f := f) xs acc0 (fun w hw e => hk w hw (by simpa using e)) (by
      have : kept true p xs = xs.filter fun w => w.1 != p := rfl
      rw [this]
      omega)
    have e0 : kept true p xs = xs.filter fun w => w.1 != p := rfl
    have e3 : (wsD xs).map En.dt = xs.map fun w => .dt (wD w) := by simp [wsD]
    rw [e0, ← e3] at lp
    have hg := kget hx
    unfold FS3 finC at lp ⊢
    unfold cwO cwI at lp
    simp [rwD, hg, big, lp]
  · rw [foldl_dStep]
    have hlen : (FM.onceF (FM.keys acc0) (FM.lnk (xs.filter fun w => w.1 != p) f)).length ≤ (FM.lnk (xs.filter fun w => w.1 != p) f).length := by
      generalize FM.lnk (xs.filter fun w => w.1 != p) f = ys
      generalize FM.keys acc0 = s
      induction ys generalizing s with
      | nil => exact Nat.le_refl _
      | cons x xs ih =>
        rw [FM.onceF_cons]
        split
        · exact Nat.le_succ_of_le (ih s)
        · exact Nat.succ_le_succ (ih _)
    refine seq_nx (ρ1 := [.mu 0, .dt (rwD (.fu a b g)), .dt (.int p), .dt (.bool true), .mu 2, .un, .un, .un, .un]) (S1 := FS3 R cs K (FM.furS g p xs f)) ?_ (by unfold FS3; simp [its_wk])
    unfold FM.furS FM.once
    rw [h0]
    cases g with
    | false =>
      unfold FS3 finC
      simp [rwD, FM.onceF_cons]
    | true =>
      rw [h0] at hlen
      simp only [if_true, FM.keys_nil] at hlen
      have hm : p ∉ FM.keys (FM.onceF [] (FM.lnk (xs.filter fun w => w.1 != p) f)) := fun h => hn (FM.keys_onceF.mp h).1
      have hp := put_wk (c := .no) hm
      simp only [chD] at hp
      have hk2 : (wkD (FM.onceF [] (FM.lnk (xs.filter fun w => w.1 != p) f))).length < 16000000 := by simp [wkD]; omega
      unfold FS3 finC
      simp [rwD, hp, big, hk2]
end

open FM (PT Ch Ws Rw Sol InL)
/-- all that a row needs is known: what it gives -/
def Rdy (cs : List Int) (K : KV) (p : Int) (ws : Ws) : Rw → Prop
  | .st c b => ws = FM.setW cs c b p
  | .em => ws = [(p, .no)]
  | .an nm => Anc nm ∧ ws = if FM.holds nm (FM.codeAt cs (p - 1)) (FM.codeAt cs p) then [(p, .no)] else []
  | .ss a b => ∃ xs f, look K (a, p) = some xs ∧ (∀ w ∈ xs, look K (b, w.1) = some (f w.1)) ∧ (FM.lnk xs f).length ≤ 1000000 ∧ ws = FM.chain xs f
  | .fu a b g => ∃ xs f, look K (a, p) = some xs ∧ (∀ w ∈ xs, w.1 ≠ p → look K (b, w.1) = some (f w.1)) ∧ p ∉ FM.keys (FM.lnk (xs.filter fun w => w.1 != p) f) ∧ (FM.lnk (xs.filter fun w => w.1 != p) f).length ≤ 1000000 ∧ ws = FM.furS g p xs f
  | .cc a b => ∃ xs ys, look K (a, p) = some xs ∧ look K (b, p) = some ys ∧ xs.length + ys.length < 1000000 ∧ ws = FM.once (xs ++ ys)
  | .it gs a => ∃ xs, look K (a, p) = some xs ∧ xs.length < 1000000 ∧ ws = FM.iterW gs xs
  | .gp k a => ∃ xs, look K (a, p) = some xs ∧ xs.length < 1000000 ∧ ws = FM.groupW k p xs
  | .lo pos gs a => ∃ xs, look K (a, p) = some xs ∧ ws = FM.lookW pos gs p xs
section
variable {n : Nat} {R : List Rw} {cs : List Int} {K : KV}
theorem ok_found {i : Nat} {p : Int} {r : Rw} {ws : Ws} (hr : R[i]? = some r) (h : Rdy cs K p ws r) : run tb (n + 5) f_Finder__found [.mu 0, .dt (.int (i : Int)), .dt (.int p)] (FS R cs K) = .ok (.nw (.lst (wsD ws))) (FS R cs K) := by
  rw [run_Finder__found]
  refine run_of (fl := .rt (.nw (.lst (wsD ws))) (FS R cs K)) rfl ?_ (by unfold FS finC; simp)
  show exec (cbOf tb (n + 4)) body_Finder__found [.mu 0, .dt (.int (i : Int)), .dt (.int p), .un, .un, .un, .un, .un] _ = _
  unfold body_Finder__found
  have ha := rows_at hr
  refine seq_nx (ρ1 := [.mu 0, .dt (.int (i : Int)), .dt (.int p), .dt (rwD r), .un, .un, .un, .un]) (S1 := FS R cs K) (by unfold FS finC; simp [ha]) ?_
  cases r with
  | st c b =>
    have h : ws = FM.setW cs c b p := h
    subst h
    have hs := ok_set_ways (n := n + 1) (R := R) (cs := cs) (K := K) (c := c) (b := b) (p := p)
    unfold FS finC at hs ⊢
    simp [rwD] at hs ⊢
    simp [hs]
  | em =>
    have h : ws = [(p, .no)] := h
    subst h
    unfold FS finC
    simp [rwD, VM.inR, flatD, eqF, big, wsD, wD, chD]
  | an nm =>
    obtain ⟨hn, rfl⟩ := h
    have hs := ok_holds (n := n) (R := R) (cs := cs) (K := K) (p := p) hn
    unfold FS finC at hs ⊢
    cases hh : FM.holds nm (FM.codeAt cs (p - 1)) (FM.codeAt cs p) <;> rw [hh] at hs <;> simp [rwD, VM.inR, flatD, eqF, big, wsD, wD, chD, hs]
  | ss a b =>
    obtain ⟨xs, f, h1, h2, h3, rfl⟩ := h
    have hs := ok_chain_ss (n := n + 2) (R := R) (cs := cs) h1 h2 h3
    unfold FS finC at hs ⊢
    simp [rwD, VM.inR, flatD, eqF, big] at hs ⊢
    simp [hs]
  | fu a b g =>
    obtain ⟨xs, f, h1, h2, h3, h4, rfl⟩ := h
    have hs := ok_chain_fu (n := n + 2) (R := R) (cs := cs) (g := g) h1 h2 h3 h4
    unfold FS finC at hs ⊢
    simp [rwD, VM.inR, flatD, eqF, big] at hs ⊢
    simp [hs]
  | cc a b =>
    obtain ⟨xs, ys, h1, h2, h3, rfl⟩ := h
    have k1 := kget h1
    have k2 := kget h2
    have hs := ok_once (n := n + 3) (xs := xs ++ ys) (by simpa using h3)
    have e : wsD (xs ++ ys) = wsD xs ++ wsD ys := by simp [wsD]
    have b1 : (wsD xs).length + (wsD ys).length ≤ 16000000 := by simp [wsD]; omega
    rw [e] at hs
    unfold FS finC
    simp [rwD, VM.inR, flatD, eqF, big, k1, k2, b1, hs]
  | it gs a =>
    obtain ⟨xs, h1, h2, rfl⟩ := h
    have k1 := kget h1
    have hc := ok_clearing (n := n + 3) (gs := gs)
    have lp := lcF_filt (t := lcT (cbOf tb (n + 4)) .none) (f := lcE (cbOf tb (n + 4)) (.tup (.cons (.var 6) (.cons (.call f_both (.cons (.var 5) (.cons (.var 7) .nil))) .nil)))) (b := bindE (.tp [6, 7])) (ch := none) (n0 := 2) (ρ := [.mu 0, .dt (.int (i : Int)), .dt (.int p), .dt (rwD (.it gs a)), .dt (.str "iteration"), .dt (chD (FM.clr gs)), .un, .un]) (S := FS R cs K) (fun w : Int × Ch => .dt (wD w)) (fun _ => true) (fun w => wD (w.1, FM.both (FM.clr gs) w.2)) trivial (by simp [FS]) xs [] (by simp [big]; omega) (fun w _ => by
      refine ⟨[.mu 0, .dt (.int (i : Int)), .dt (.int p), .dt (rwD (.it gs a)), .dt (.str "iteration"), .dt (chD (FM.clr gs)), .dt (.int w.1), .dt (chD w.2)], rfl, by simp, fun _ => ⟨.v (wD (w.1, FM.both (FM.clr gs) w.2)), ?_, rfl⟩⟩
      have hb := ok_both (n := n + 3) (x := FM.clr gs) (y := w.2)
      unfold FS finC
      simp [hb, wD, big])
    rw [filt_true fun _ _ => rfl] at lp
    have e3 : (wsD xs).map En.dt = xs.map fun w => .dt (wD w) := by simp [wsD]
    have b1 : (wsD xs).length ≤ 16000000 := by simp [wsD]; omega
    have b2 : xs.length ≤ 16000000 := by omega
    unfold FS finC at lp ⊢
    simp [rwD] at lp
    simp [rwD, VM.inR, flatD, eqF, big, k1, hc, e3, b1, b2, wipeR, lp]
    simp [wsD, FM.iterW]
  | gp k a =>
    obtain ⟨xs, h1, h2, rfl⟩ := h
    have k1 := kget h1
    have hs := ok_group_ways (n := n + 2) (k := k) (p := p) h2
    unfold FS finC
    simp [rwD, VM.inR, flatD, eqF, big, k1, hs]
  | lo pos gs a =>
    obtain ⟨xs, h1, rfl⟩ := h
    have k1 := kget h1
    have hs := ok_look_ways (n := n + 2) (p := p) (pos := pos) (gs := gs) (i := (a : Int)) (xs := xs)
    unfold FS finC
    simp [rwD, VM.inR, flatD, eqF, big, k1, hs]
/-! the worklist -/
def solB : VM.St := (.seq (.asg (.tp [4, 5]) (.idx (.var 3) (.neg (.con (.int 1)))))
  (.seq (.asg (.nm 6) (.mth 0 f_Finder__missing "_missing" (.var 0) (.cons (.var 4) (.cons (.var 5) .nil))))
  (.seq (.ite (.val (.var 6))
  (.seq (.exp (.bm .extend (.var 3) (.cons (.var 6) .nil)))
  .cnt)
  .nop)
  (.seq (.exp (.bm .pop (.var 3) .nil))
  (.ite (.cmp .notin (.tup (.cons (.var 4) (.cons (.var 5) .nil))) (.fld "known" (.var 0)))
  (.sett (.fld "known" (.var 0)) (.cons (.var 4) (.cons (.var 5) .nil)) (.mth 0 f_Finder__found "_found" (.var 0) (.cons (.var 4) (.cons (.var 5) .nil))))
  .nop)))))
def SS (R : List Rw) (cs : List Int) (K : KV) (todo : List (Nat × Int)) : Stv := [finC R cs, .dct true (kvD K), .lst (glD todo)]
def sRho (a b : En) : Rho := [.mu 0, a, b, .mu 2, .un, .un, .un]
abbrev SStps (n : Nat) (a b : En) (R : List Rw) (cs : List Int) (K : KV) (todo : List (Nat × Int)) (K' : KV) (todo' : List (Nat × Int)) : Prop := Stps (whT (cbOf tb (n + 5)) (.val (.var 3))) (kSeq (cbOf tb (n + 5)) solB) [4, 5, 6] 3 (sRho a b) (SS R cs K todo) (sRho a b) (SS R cs K' todo')
theorem atLast (l : List PyData) (d : PyData) : atI (l ++ [d]) (-1) = some d := by
  unfold atI
  have e : ixN (l ++ [d]).length (-1) = some l.length := by
    unfold ixN
    simp
    omega
  rw [e]
  simp
theorem gl_last (todo : List (Nat × Int)) (g : Nat × Int) : glD (todo ++ [g]) = glD todo ++ [goD g] := by simp [glD]
theorem sol_known {a b : En} {g : Nat × Int} {todo : List (Nat × Int)} {ws : Ws} (h : look K g = some ws) : SStps n a b R cs K (todo ++ [g]) K todo := by
  have hk := kget h
  have hm := ok_missing_known (n := n + 4) (R := R) (cs := cs) hk
  have hl := atLast (glD todo) (goD g)
  simp only [goD] at hl
  refine Stps.one (S1 := SS R cs K (todo ++ [g])) (ρ1 := [.mu 0, a, b, .mu 2, .dt (.int (g.1 : Int)), .dt (.int g.2), .dt (.list [])]) (S2 := SS R cs K todo) (by unfold sRho SS; simp [glD]) (.inl ?_)
  unfold solB sRho SS
  rw [gl_last]
  unfold FS finC at hm
  unfold finC
  simp [hl, goD, hm, VM.inR, hk, big]
theorem sol_push {a b : En} {i : Nat} {p : Int} {r : Rw} {todo : List (Nat × Int)} (hr : R[i]? = some r) (hu : look K (i, p) = none) (hK : ∀ g xs, look K g = some xs → xs.length ≤ 1000000) (hg : unk K (needs R K i p) ≠ []) (hl : todo.length + 1 + (unk K (needs R K i p)).length ≤ 1000000) : SStps n a b R cs K (todo ++ [(i, p)]) K (todo ++ [(i, p)] ++ unk K (needs R K i p)) := by
  have hm := ok_missing (n := n + 3) (cs := cs) hr hu hK
  have hl2 := atLast (glD todo) (goD (i, p))
  simp only [goD] at hl2
  generalize unk K (needs R K i p) = gs at *
  refine Stps.one (S1 := SS R cs K (todo ++ [(i, p)])) (ρ1 := [.mu 0, a, b, .mu 2, .dt (.int (i : Int)), .dt (.int p), .dt (.list (glD gs))]) (S2 := SS R cs K (todo ++ [(i, p)] ++ gs)) (by unfold sRho SS; simp [glD]) (.inr ?_)
  have e : glD (todo ++ [(i, p)] ++ gs) = glD todo ++ [goD (i, p)] ++ glD gs := by simp [glD]
  have b1 : (glD todo).length + 1 + (glD gs).length ≤ 16000000 := by simp [glD]; omega
  have ne : (glD gs).isEmpty = false := by
    cases gs with
    | nil => exact absurd rfl hg
    | cons g gs => rfl
  unfold solB sRho SS
  rw [gl_last, e]
  unfold FS finC at hm
  unfold finC
  have ne2 : glD gs ≠ [] := fun z => by rw [z] at ne; cases ne
  simp [hl2, goD, hm, big, b1, ne2]
theorem sol_put {a b : En} {i : Nat} {p : Int} {r : Rw} {ws : Ws} {todo : List (Nat × Int)} (hr : R[i]? = some r) (hu : look K (i, p) = none) (hK : ∀ g xs, look K g = some xs → xs.length ≤ 1000000) (hg : unk K (needs R K i p) = []) (hrd : Rdy cs K p ws r) (hl : K.length < 1000000) : SStps n a b R cs K (todo ++ [(i, p)]) (K ++ [((i, p), ws)]) todo := by
  have hm := ok_missing (n := n + 3) (cs := cs) hr hu hK
  have hf := ok_found (n := n) hr hrd
  have hl2 := atLast (glD todo) (goD (i, p))
  simp only [goD] at hl2
  have hk := knone hu
  have hp := put_kv (ws := ws) hu
  rw [hg] at hm
  refine Stps.one (S1 := SS R cs K (todo ++ [(i, p)])) (ρ1 := [.mu 0, a, b, .mu 2, .dt (.int (i : Int)), .dt (.int p), .dt (.list [])]) (S2 := SS R cs (K ++ [((i, p), ws)]) todo) (by unfold sRho SS; simp [glD]) (.inl ?_)
  have b1 : (kvD K).length < 16000000 := by simp [kvD]; omega
  unfold solB sRho SS
  rw [gl_last]
  unfold FS finC at hm hf
  unfold finC
  simp only [goD] at hp
  have hm2 : glD [] = [] := rfl
  rw [hm2] at hm
  simp [hl2, goD, hm, hf, hk, VM.inR, hp, big, b1]
end

open FM (PT Ch Ws Rw Sol InL)
section
variable {n : Nat} {R : List Rw} {cs : List Int} {K K' K1 K2 : KV}
/-- what is known is right -/
def KOk (R : List Rw) (cs : List Int) (K : KV) : Prop := (K.map (·.1)).Nodup ∧ ∀ e ∈ K, ∃ n, Sol R cs n e.1.1 e.1.2 e.2
theorem look_mem {g : Nat × Int} {ws : Ws} (h : look K g = some ws) : (g, ws) ∈ K := by
  unfold look at h
  obtain ⟨e, he, rfl⟩ := Option.map_eq_some_iff.mp h
  have := List.mem_of_find?_eq_some he
  have h2 := List.find?_some he
  have h2 : e.1 = g := by simpa using h2
  rw [← h2]
  exact this
theorem KOk.sol (h : KOk R cs K) {g : Nat × Int} {ws : Ws} (hl : look K g = some ws) : ∃ n, Sol R cs n g.1 g.2 ws := h.2 _ (look_mem hl)
theorem KOk.len (h : KOk R cs K) : K.length ≤ R.length * (cs.length + 1) := by
  have h1 : (K.map fun e => e.1.1 * (cs.length + 1) + e.1.2.toNat).Nodup := by
    have : (K.map fun e => e.1.1 * (cs.length + 1) + e.1.2.toNat) = (K.map (·.1)).map fun g => g.1 * (cs.length + 1) + g.2.toNat := by rw [List.map_map]; rfl
    rw [this]
    refine List.pairwise_map.mpr (List.Pairwise.imp_of_mem ?_ h.1)
    intro x y hx hy hne e
    obtain ⟨ex, hex, rfl⟩ := List.mem_map.mp hx
    obtain ⟨ey, hey, rfl⟩ := List.mem_map.mp hy
    obtain ⟨_, sx⟩ := h.2 ex hex
    obtain ⟨_, sy⟩ := h.2 ey hey
    have rx := sx.rng
    have ry := sy.rng
    obtain ⟨hx0, hx1⟩ := rx
    obtain ⟨hy0, hy1⟩ := ry
    apply hne
    have e1 : ex.1.2.toNat < cs.length + 1 := by omega
    have e2 : ey.1.2.toNat < cs.length + 1 := by omega
    have d1 : ex.1.1 = ey.1.1 := by
      have a1 : (ex.1.1 * (cs.length + 1) + ex.1.2.toNat) / (cs.length + 1) = ex.1.1 := by
        rw [Nat.mul_comm, Nat.mul_add_div (by omega), Nat.div_eq_of_lt e1, Nat.add_zero]
      have a2 : (ey.1.1 * (cs.length + 1) + ey.1.2.toNat) / (cs.length + 1) = ey.1.1 := by
        rw [Nat.mul_comm, Nat.mul_add_div (by omega), Nat.div_eq_of_lt e2, Nat.add_zero]
      rw [← a1, ← a2, e]
    rw [d1] at e
    exact Prod.ext d1 (by omega)
  have := FM.nodup_len (R.length * (cs.length + 1)) _ h1 fun k hk => by
    obtain ⟨e, he, rfl⟩ := List.mem_map.mp hk
    obtain ⟨_, s⟩ := h.2 e he
    obtain ⟨h0, h1⟩ := s.rng
    have hr := s.row
    have : (e.1.1 + 1) * (cs.length + 1) ≤ R.length * (cs.length + 1) := Nat.mul_le_mul_right _ hr
    rw [Nat.succ_mul] at this
    omega
  simpa using this
def Sub (K K' : KV) : Prop := ∀ g ws, look K g = some ws → look K' g = some ws
theorem Sub.refl : Sub K K := fun _ _ h => h
theorem Sub.trans (h : Sub K K1) (h' : Sub K1 K2) : Sub K K2 := fun g ws q => h' g ws (h g ws q)
theorem KOk.put (h : KOk R cs K) {m i : Nat} {p : Int} {ws : Ws} (hs : Sol R cs m i p ws) (hu : look K (i, p) = none) : KOk R cs (K ++ [((i, p), ws)]) ∧ Sub K (K ++ [((i, p), ws)]) ∧ look (K ++ [((i, p), ws)]) (i, p) = some ws := by
  refine ⟨⟨?_, fun e he => ?_⟩, fun g v hg => ?_, ?_⟩
  · rw [List.map_append, List.nodup_append]
    refine ⟨h.1, by simp, fun x hx y hy e => ?_⟩
    obtain ⟨ex, hex, rfl⟩ := List.mem_map.mp hx
    have hy : y = (i, p) := by simpa using hy
    subst hy
    unfold look at hu
    rw [Option.map_eq_none_iff, List.find?_eq_none] at hu
    exact hu ex hex (by simpa using e)
  · rcases List.mem_append.mp he with h1 | h1
    · exact h.2 e h1
    · cases List.mem_singleton.mp h1
      exact ⟨m, hs⟩
  · rw [look_app hu]
    split
    · rename_i e
      rw [e, hu] at hg
      cases hg
    · exact hg
  · rw [look_app hu, if_pos rfl]
theorem unk_known {gs : List (Nat × Int)} (h : unk K gs = []) : ∀ g ∈ gs, ∃ ws, look K g = some ws := fun g hg => by
  cases e : look K g with
  | some ws => exact ⟨ws, rfl⟩
  | none =>
    have : g ∈ unk K gs := List.mem_filter.mpr ⟨hg, by rw [e]; rfl⟩
    rw [h] at this
    cases this
theorem known_unk {gs : List (Nat × Int)} (h : ∀ g ∈ gs, ∃ ws, look K g = some ws) : unk K gs = [] := List.filter_eq_nil_iff.mpr fun g hg => by
  obtain ⟨ws, hw⟩ := h g hg
  rw [hw]
  simp
theorem miss1_none {a : Nat} {p : Int} {f : Ws → List (Nat × Int)} (h : look K (a, p) = none) : miss1 K a p f = [(a, p)] := by
  unfold miss1
  rw [h]
theorem miss1_some {a : Nat} {p : Int} {xs : Ws} {f : Ws → List (Nat × Int)} (h : look K (a, p) = some xs) : miss1 K a p f = f xs := by
  unfold miss1
  rw [h]
/-- one goal's row: what it needs, and what it gives -/
theorem sol_step {m i : Nat} {p : Int} {ws : Ws} (hA : ∀ (i : Nat) (nm : String), R[i]? = some (Rw.an nm) → Anc nm) (hL : cs.length ≤ 300) (h : Sol R cs (m + 1) i p ws) (hK : KOk R cs K) : ∃ r, R[i]? = some r ∧ (∀ g ∈ rneeds K p r, ∃ ws, Sol R cs m g.1 g.2 ws) ∧ (rneeds K p r).length ≤ cs.length + 2 ∧ (unk K (rneeds K p r) = [] → Rdy cs K p ws r) := by
  have one : ∀ {a : Nat} {xs : Ws}, Sol R cs m a p xs → (∀ g ∈ [(a, p)], ∃ ws, Sol R cs m g.1 g.2 ws) := fun h g hg => by
    cases List.mem_singleton.mp hg
    exact ⟨_, h⟩
  have kn : ∀ {a : Nat} {q : Int} {xs : Ws} {l : List (Nat × Int)}, Sol R cs m a q xs → (a, q) ∈ l → unk K l = [] → look K (a, q) = some xs := fun hs hm hu => by
    obtain ⟨v, hv⟩ := unk_known hu _ hm
    obtain ⟨_, s⟩ := hK.sol hv
    rw [hs.det s, hv]
  cases h with
  | st hp h => exact ⟨_, h, nofun, by simp [rneeds], fun _ => rfl⟩
  | em hp h => exact ⟨_, h, nofun, by simp [rneeds], fun _ => rfl⟩
  | an hp h => exact ⟨_, h, nofun, by simp [rneeds], fun _ => ⟨hA _ _ h, rfl⟩⟩
  | @ss _ _ a b _ xs f hp h h1 h2 hl =>
    refine ⟨_, h, ?_, ?_, fun hu => ?_⟩
    · show ∀ g ∈ miss1 K a p (fun xs => xs.map fun w => (b, w.1)), _
      cases e : look K (a, p) with
      | none => rw [miss1_none e]; exact one h1
      | some v =>
        obtain ⟨_, s⟩ := hK.sol e
        have := h1.det s
        subst this
        rw [miss1_some e]
        intro g hg
        obtain ⟨w, hw, rfl⟩ := List.mem_map.mp hg
        exact ⟨_, h2 w hw⟩
    · show (miss1 K a p (fun xs => xs.map fun w => (b, w.1))).length ≤ _
      cases e : look K (a, p) with
      | none => rw [miss1_none e]; simp
      | some v =>
        obtain ⟨_, s⟩ := hK.sol e
        have := h1.det s
        subst this
        rw [miss1_some e]
        simp
        omega
    · have hu : unk K (miss1 K a p (fun xs => xs.map fun w => (b, w.1))) = [] := hu
      cases e : look K (a, p) with
      | none =>
        rw [miss1_none e] at hu
        have := kn h1 (List.mem_singleton.mpr rfl) hu
        rw [e] at this
        cases this
      | some v =>
        obtain ⟨_, s⟩ := hK.sol e
        have := h1.det s
        subst this
        rw [miss1_some e] at hu
        refine ⟨xs, f, e, fun w hw => kn (h2 w hw) (List.mem_map.mpr ⟨w, hw, rfl⟩) hu, ?_, rfl⟩
        have := FM.lnk_len (xs := xs) (f := f) (B := cs.length + 1) fun w hw => (h2 w hw).len
        have h3 : xs.length * (cs.length + 1) ≤ (cs.length + 1) * (cs.length + 1) := Nat.mul_le_mul_right _ hl
        have h4 : (cs.length + 1) * (cs.length + 1) ≤ 301 * 301 := Nat.mul_le_mul (by omega) (by omega)
        omega
  | @fu _ _ a b _ g xs f hp h h1 h2 hl hn =>
    have hf : ∀ w ∈ xs.filter (fun w => w.1 != p), w ∈ xs ∧ w.1 ≠ p := fun w hw => ⟨(List.mem_filter.mp hw).1, by simpa using (List.mem_filter.mp hw).2⟩
    refine ⟨_, h, ?_, ?_, fun hu => ?_⟩
    · show ∀ g ∈ miss1 K a p (fun xs => (xs.filter fun w => w.1 != p).map fun w => (b, w.1)), _
      cases e : look K (a, p) with
      | none => rw [miss1_none e]; exact one h1
      | some v =>
        obtain ⟨_, s⟩ := hK.sol e
        have := h1.det s
        subst this
        rw [miss1_some e]
        intro g hg
        obtain ⟨w, hw, rfl⟩ := List.mem_map.mp hg
        exact ⟨_, h2 w (hf w hw).1 (hf w hw).2⟩
    · show (miss1 K a p (fun xs => (xs.filter fun w => w.1 != p).map fun w => (b, w.1))).length ≤ _
      cases e : look K (a, p) with
      | none => rw [miss1_none e]; simp
      | some v =>
        obtain ⟨_, s⟩ := hK.sol e
        have := h1.det s
        subst this
        rw [miss1_some e]
        have := List.length_filter_le (fun w : Int × Ch => w.1 != p) xs
        simp
        omega
    · have hu : unk K (miss1 K a p (fun xs => (xs.filter fun w => w.1 != p).map fun w => (b, w.1))) = [] := hu
      cases e : look K (a, p) with
      | none =>
        rw [miss1_none e] at hu
        have := kn h1 (List.mem_singleton.mpr rfl) hu
        rw [e] at this
        cases this
      | some v =>
        obtain ⟨_, s⟩ := hK.sol e
        have := h1.det s
        subst this
        rw [miss1_some e] at hu
        refine ⟨xs, f, e, fun w hw hne => kn (h2 w hw hne) (List.mem_map.mpr ⟨w, List.mem_filter.mpr ⟨hw, by simpa using hne⟩, rfl⟩) hu, hn, ?_, rfl⟩
        have := FM.lnk_len (xs := xs.filter fun w => w.1 != p) (f := f) (B := cs.length + 1) fun w hw => (h2 w (hf w hw).1 (hf w hw).2).len
        have h0 := List.length_filter_le (fun w : Int × Ch => w.1 != p) xs
        have h3 : (xs.filter fun w => w.1 != p).length * (cs.length + 1) ≤ (cs.length + 1) * (cs.length + 1) := Nat.mul_le_mul_right _ (by omega)
        have h4 : (cs.length + 1) * (cs.length + 1) ≤ 301 * 301 := Nat.mul_le_mul (by omega) (by omega)
        omega
  | @cc _ _ a b _ xs ys hp h h1 h2 =>
    refine ⟨_, h, fun g hg => ?_, by simp [rneeds], fun hu => ?_⟩
    · have hg : g = (b, p) ∨ g = (a, p) := by simpa [rneeds] using hg
      rcases hg with rfl | rfl
      · exact ⟨_, h2⟩
      · exact ⟨_, h1⟩
    · have l1 := h1.len
      have l2 := h2.len
      exact ⟨xs, ys, kn h1 (by simp [rneeds]) hu, kn h2 (by simp [rneeds]) hu, by omega, rfl⟩
  | @it _ _ a _ gs xs hp h h1 =>
    have l1 := h1.len
    exact ⟨_, h, one h1, by simp [rneeds], fun hu => ⟨xs, kn h1 (by simp [rneeds]) hu, by omega, rfl⟩⟩
  | @gp _ _ k a _ xs hp h h1 =>
    have l1 := h1.len
    exact ⟨_, h, one h1, by simp [rneeds], fun hu => ⟨xs, kn h1 (by simp [rneeds]) hu, by omega, rfl⟩⟩
  | @lo _ _ a _ pos gs xs hp h h1 => exact ⟨_, h, one h1, by simp [rneeds], fun hu => ⟨xs, kn h1 (by simp [rneeds]) hu, rfl⟩⟩
/-- after two rounds nothing is missing -/
theorem two_rounds {p : Int} {r : Rw} (s1 : Sub K K1) (s2 : Sub K1 K2) (h1 : ∀ g ∈ rneeds K p r, ∃ ws, look K1 g = some ws) (h2 : ∀ g ∈ rneeds K1 p r, ∃ ws, look K2 g = some ws) : unk K2 (rneeds K2 p r) = [] := by
  have ms : ∀ (a : Nat) (f : Ws → List (Nat × Int)), (∀ g ∈ miss1 K a p f, ∃ ws, look K1 g = some ws) → (∀ g ∈ miss1 K1 a p f, ∃ ws, look K2 g = some ws) → unk K2 (miss1 K2 a p f) = [] := by
    intro a f h1 h2
    have : ∃ xs, look K1 (a, p) = some xs := by
      cases e : look K (a, p) with
      | some xs => exact ⟨xs, s1 _ _ e⟩
      | none =>
        rw [miss1_none e] at h1
        exact h1 _ (List.mem_singleton.mpr rfl)
    obtain ⟨xs, hx⟩ := this
    rw [miss1_some hx] at h2
    rw [miss1_some (s2 _ _ hx)]
    exact known_unk h2
  cases r with
  | ss a b => exact ms a _ h1 h2
  | fu a b g => exact ms a _ h1 h2
  | st c b => rfl
  | em => rfl
  | an nm => rfl
  | cc a b => exact known_unk h2
  | it gs a => exact known_unk h2
  | gp k a => exact known_unk h2
  | lo pos gs a => exact known_unk h2
theorem solve {a b : En} (hA : ∀ (i : Nat) (nm : String), R[i]? = some (Rw.an nm) → Anc nm) (hL : cs.length ≤ 300) (hR : R.length * (cs.length + 1) < 1000000) : ∀ (m i : Nat) (p : Int) (ws : Ws), Sol R cs m i p ws → ∀ (K : KV) (todo : List (Nat × Int)), KOk R cs K → todo.length + m * (cs.length + 4) ≤ 900000 →
    ∃ K', KOk R cs K' ∧ Sub K K' ∧ look K' (i, p) = some ws ∧ SStps n a b R cs K (todo ++ [(i, p)]) K' todo := by
  intro m
  induction m with
  | zero => intro i p ws h; cases h
  | succ m ih =>
    intro i p ws h K todo hK ht
    rw [Nat.succ_mul] at ht
    -- goals, from the last one on
    have many : ∀ (gs : List (Nat × Int)) (K : KV) (todo : List (Nat × Int)), (∀ g ∈ gs, ∃ ws, Sol R cs m g.1 g.2 ws) → KOk R cs K → todo.length + gs.length + m * (cs.length + 4) ≤ 900000 → ∃ K', KOk R cs K' ∧ Sub K K' ∧ (∀ g ∈ gs, ∃ ws, look K' g = some ws) ∧ SStps n a b R cs K (todo ++ gs.reverse) K' todo := by
      intro gs
      induction gs with
      | nil => exact fun K todo _ hK _ => ⟨K, hK, .refl, nofun, by rw [List.reverse_nil, List.append_nil]; exact .refl⟩
      | cons g gs ihg =>
        intro K todo hg hK hl
        rw [List.length_cons] at hl
        obtain ⟨ws, hs⟩ := hg g List.mem_cons_self
        obtain ⟨K1, k1, k2, k3, k4⟩ := ih g.1 g.2 ws hs K (todo ++ gs.reverse) hK (by simp; omega)
        obtain ⟨K2, j1, j2, j3, j4⟩ := ihg K1 todo (fun g' h' => hg g' (List.mem_cons_of_mem _ h')) k1 (by omega)
        refine ⟨K2, j1, k2.trans j2, fun g' h' => ?_, ?_⟩
        · rcases List.mem_cons.mp h' with rfl | h'
          · exact ⟨ws, j2 _ _ k3⟩
          · exact j3 g' h'
        · rw [List.reverse_cons, ← List.append_assoc]
          exact Stps.trans k4 j4
    have lk : ∀ {K : KV}, KOk R cs K → ∀ g xs, look K g = some xs → xs.length ≤ 1000000 := fun hK g xs hx => by
      obtain ⟨_, s⟩ := hK.sol hx
      have := s.len
      omega
    have known : ∀ {K : KV} {v : Ws}, KOk R cs K → look K (i, p) = some v → v = ws := fun hK hv => by
      obtain ⟨_, s⟩ := hK.sol hv
      exact s.det h
    -- one round
    have round : ∀ (K : KV) (r : Rw), KOk R cs K → R[i]? = some r → look K (i, p) = none → (∀ g ∈ rneeds K p r, ∃ ws, Sol R cs m g.1 g.2 ws) → (rneeds K p r).length ≤ cs.length + 2 → ∃ K1, KOk R cs K1 ∧ Sub K K1 ∧ (∀ g ∈ rneeds K p r, ∃ ws, look K1 g = some ws) ∧ SStps n a b R cs K (todo ++ [(i, p)]) K1 (todo ++ [(i, p)]) := by
      intro K r hK hr hu hs hl
      have hn := needs_of (K := K) (p := p) hr
      by_cases he : unk K (rneeds K p r) = []
      · exact ⟨K, hK, .refl, unk_known he, .refl⟩
      · have hul : (unk K (rneeds K p r)).length ≤ cs.length + 2 := Nat.le_trans (List.length_filter_le _ _) hl
        have h1 := sol_push (n := n) (cs := cs) (a := a) (b := b) (todo := todo) hr hu (lk hK) (by rw [hn]; exact he) (by rw [hn]; omega)
        rw [hn] at h1
        obtain ⟨K1, k1, k2, k3, k4⟩ := many (unk K (rneeds K p r)).reverse K (todo ++ [(i, p)]) (fun g hg => hs g (List.mem_filter.mp (List.mem_reverse.mp hg)).1) hK (by simp; omega)
        rw [List.reverse_reverse] at k4
        refine ⟨K1, k1, k2, fun g hg => ?_, Stps.trans h1 k4⟩
        cases e : look K g with
        | some v => exact ⟨v, k2 _ _ e⟩
        | none => exact k3 g (List.mem_reverse.mpr (List.mem_filter.mpr ⟨hg, by rw [e]; rfl⟩))
    have fin : ∀ {K1 : KV}, KOk R cs K1 → Sub K K1 → ∀ {v : Ws}, look K1 (i, p) = some v → SStps n a b R cs K (todo ++ [(i, p)]) K1 (todo ++ [(i, p)]) → ∃ K', KOk R cs K' ∧ Sub K K' ∧ look K' (i, p) = some ws ∧ SStps n a b R cs K (todo ++ [(i, p)]) K' todo := fun k1 k2 v hv st => by
      have := known k1 hv
      subst this
      exact ⟨_, k1, k2, hv, Stps.trans st (sol_known hv)⟩
    cases e0 : look K (i, p) with
    | some v => exact fin hK .refl e0 .refl
    | none =>
      obtain ⟨r, hr, n1, n2, _⟩ := sol_step hA hL h hK
      obtain ⟨K1, k1, k2, k3, k4⟩ := round K r hK hr e0 n1 n2
      cases e1 : look K1 (i, p) with
      | some v => exact fin k1 k2 e1 k4
      | none =>
        obtain ⟨r', hr', m1, m2, _⟩ := sol_step hA hL h k1
        rw [hr] at hr'
        cases hr'
        obtain ⟨K2, j1, j2, j3, j4⟩ := round K1 r k1 hr e1 m1 m2
        cases e2 : look K2 (i, p) with
        | some v => exact fin j1 (k2.trans j2) e2 (Stps.trans k4 j4)
        | none =>
          obtain ⟨r', hr', _, _, rd⟩ := sol_step hA hL h j1
          rw [hr] at hr'
          cases hr'
          have hu := two_rounds k2 j2 k3 j3
          have hn := needs_of (K := K2) (p := p) hr
          have hlen := j1.len
          obtain ⟨q1, q2, q3⟩ := j1.put h e2
          exact ⟨_, q1, (k2.trans j2).trans q2, q3, Stps.trans (Stps.trans k4 j4) (sol_put hr e2 (lk j1) (by rw [hn]; exact hu) (rd hu) (by omega))⟩
end

open FM (PT Ch Ws Rw Sol InL)
/-! ### a plan is made -/
def ptD : PT → PyData
  | .st c => .tuple [.str "set", cD c]
  | .em => .tuple [.str "empty"]
  | .an nm => .tuple [.str "anchor", .str nm]
  | .sq a b => .tuple [.str "sequence", ptD a, ptD b]
  | .ch a b => .tuple [.str "choice", ptD a, ptD b]
  | .rp a lo more g => .tuple [.str "repeat", ptD a, .int (lo : Int), (match more with | none => .none | some k => .int ((lo : Int) + (k : Int))), .bool g]
  | .gr k a => .tuple [.str "group", .int (k : Int), ptD a]
  | .lk ahead pos a => .tuple [.str "look", .bool ahead, .bool pos, ptD a]
theorem ok_parts {n : Nat} {T : PT} : run tb (n + 1) f_parts [.dt (ptD T)] [] = .ok (.v (.tuple (T.kids.map ptD))) [] := by
  rw [run_parts]
  refine run_of (fl := .rt (.v (.tuple (T.kids.map ptD))) []) rfl ?_ (by simp)
  show exec (cbOf tb n) body_parts [.dt (ptD T), .un] _ = _
  unfold body_parts
  cases T <;> simp [ptD, PT.kids, VM.inR, flatD, eqF, big]
def buB : VM.St := (.seq (.asg (.nm 3) (.bm .pop (.var 2) .nil))
  (.seq (.exp (.bm .append (.var 1) (.cons (.var 3) .nil)))
  (.exp (.bm .extend (.var 2) (.cons (.call f_parts (.cons (.var 3) .nil)) .nil)))))
def ptsD (l : List PT) : List PyData := l.map ptD
theorem bu_steps {n : Nat} {a : En} : ∀ (T : PT) (fd td : List PT), fd.length + T.size ≤ 900000 → td.length + T.size ≤ 900000 →
    Stps (whT (cbOf tb (n + 1)) (.val (.var 2))) (kSeq (cbOf tb (n + 1)) buB) [3] 2 [a, .mu 0, .mu 1, .un] [.lst (ptsD fd), .lst (ptsD (td ++ [T]))] [a, .mu 0, .mu 1, .un] [.lst (ptsD (fd ++ T.post.reverse)), .lst (ptsD td)] := by
  have one : ∀ (T : PT) (fd td : List PT), fd.length < 900000 → td.length ≤ 900000 → Stps (whT (cbOf tb (n + 1)) (.val (.var 2))) (kSeq (cbOf tb (n + 1)) buB) [3] 2 [a, .mu 0, .mu 1, .un] [.lst (ptsD fd), .lst (ptsD (td ++ [T]))] [a, .mu 0, .mu 1, .un] [.lst (ptsD (fd ++ [T])), .lst (ptsD (td ++ T.kids))] := fun T fd td h1 h2 => by
    have hp := ok_parts (n := n) (T := T)
    have b1 : (ptsD fd).length < 16000000 := by simp [ptsD]; omega
    have b3 : T.kids.length ≤ 2 := by cases T <;> simp [PT.kids]
    have b2 : (ptsD td).length + T.kids.length ≤ 16000000 := by simp [ptsD]; omega
    refine Stps.one (S1 := [.lst (ptsD fd), .lst (ptsD (td ++ [T]))]) (ρ1 := [a, .mu 0, .mu 1, .dt (ptD T)]) (S2 := [.lst (ptsD (fd ++ [T])), .lst (ptsD (td ++ T.kids))]) (by simp [ptsD]) (.inl ?_)
    have e1 : ptsD (td ++ [T]) = ptsD td ++ [ptD T] := by simp [ptsD]
    have e2 : ptsD (fd ++ [T]) = ptsD fd ++ [ptD T] := by simp [ptsD]
    have e3 : ptsD (td ++ T.kids) = ptsD td ++ T.kids.map ptD := by simp [ptsD]
    rw [e1, e2, e3]
    unfold buB
    simp [hp, big, b1, b2]
  intro T
  induction T with
  | st c => intro fd td h1 h2; simpa [PT.post, PT.kids] using one (.st c) fd td (by simp [PT.size] at h1; omega) (by simp [PT.size] at h2; omega)
  | em => intro fd td h1 h2; simpa [PT.post, PT.kids] using one .em fd td (by simp [PT.size] at h1; omega) (by simp [PT.size] at h2; omega)
  | an nm => intro fd td h1 h2; simpa [PT.post, PT.kids] using one (.an nm) fd td (by simp [PT.size] at h1; omega) (by simp [PT.size] at h2; omega)
  | sq x y ix iy =>
    intro fd td h1 h2
    simp only [PT.size] at h1 h2
    have s0 := one (.sq x y) fd td (by omega) (by omega)
    have s1 := iy (fd ++ [.sq x y]) (td ++ [x]) (by simp; omega) (by simp; omega)
    have s2 := ix (fd ++ [.sq x y] ++ y.post.reverse) td (by simp [FM.post_len]; omega) (by omega)
    have e1 : td ++ (PT.sq x y).kids = td ++ [x] ++ [y] := by simp [PT.kids]
    have e2 : fd ++ (PT.sq x y).post.reverse = fd ++ [.sq x y] ++ y.post.reverse ++ x.post.reverse := by simp [PT.post]
    rw [e1] at s0
    rw [e2]
    exact s0.trans (s1.trans s2)
  | ch x y ix iy =>
    intro fd td h1 h2
    simp only [PT.size] at h1 h2
    have s0 := one (.ch x y) fd td (by omega) (by omega)
    have s1 := iy (fd ++ [.ch x y]) (td ++ [x]) (by simp; omega) (by simp; omega)
    have s2 := ix (fd ++ [.ch x y] ++ y.post.reverse) td (by simp [FM.post_len]; omega) (by omega)
    have e1 : td ++ (PT.ch x y).kids = td ++ [x] ++ [y] := by simp [PT.kids]
    have e2 : fd ++ (PT.ch x y).post.reverse = fd ++ [.ch x y] ++ y.post.reverse ++ x.post.reverse := by simp [PT.post]
    rw [e1] at s0
    rw [e2]
    exact s0.trans (s1.trans s2)
  | rp x lo more g ix =>
    intro fd td h1 h2
    simp only [PT.size] at h1 h2
    have s0 := one (.rp x lo more g) fd td (by omega) (by omega)
    have s2 := ix (fd ++ [.rp x lo more g]) td (by simp; omega) (by omega)
    have e2 : fd ++ (PT.rp x lo more g).post.reverse = fd ++ [.rp x lo more g] ++ x.post.reverse := by simp [PT.post]
    rw [e2]
    exact s0.trans s2
  | gr k x ix =>
    intro fd td h1 h2
    simp only [PT.size] at h1 h2
    have s0 := one (.gr k x) fd td (by omega) (by omega)
    have s2 := ix (fd ++ [.gr k x]) td (by simp; omega) (by omega)
    have e2 : fd ++ (PT.gr k x).post.reverse = fd ++ [.gr k x] ++ x.post.reverse := by simp [PT.post]
    rw [e2]
    exact s0.trans s2
  | lk ahead pos x ix =>
    intro fd td h1 h2
    simp only [PT.size] at h1 h2
    have s0 := one (.lk ahead pos x) fd td (by omega) (by omega)
    have s2 := ix (fd ++ [.lk ahead pos x]) td (by simp; omega) (by omega)
    have e2 : fd ++ (PT.lk ahead pos x).post.reverse = fd ++ [.lk ahead pos x] ++ x.post.reverse := by simp [PT.post]
    rw [e2]
    exact s0.trans s2
theorem ok_bottom_up {n : Nat} {T : PT} (h : T.size ≤ 900000) : run tb (n + 2) f_bottom_up [.dt (ptD T)] [] = .ok (.nw (.lst (ptsD T.post))) [] := by
  rw [run_bottom_up]
  refine run_of (fl := .rt (.mu 0) [.lst (ptsD T.post), .lst []]) rfl ?_ (by simp)
  show exec (cbOf tb (n + 1)) body_bottom_up [.dt (ptD T), .un, .un, .un] _ = _
  unfold body_bottom_up
  refine seq_nx (ρ1 := [.dt (ptD T), .mu 0, .un, .un]) (S1 := [.lst []]) (by simp [big]) ?_
  refine seq_nx (ρ1 := [.dt (ptD T), .mu 0, .mu 1, .un]) (S1 := [.lst [], .lst [ptD T]]) (by simp [big]) ?_
  refine seq_nx (ρ1 := [.dt (ptD T), .mu 0, .mu 1, .un]) (S1 := [.lst (ptsD T.post.reverse), .lst []]) ?_ ?_
  · rw [ex_whl]
    have := bu_steps (n := n) (a := .dt (ptD T)) T [] [] (by simpa using h) (by simpa using h)
    rw [List.nil_append, List.nil_append] at this
    exact this.done (by simp [ptsD])
  · refine seq_nx (ρ1 := [.dt (ptD T), .mu 0, .mu 1, .un]) (S1 := [.lst (ptsD T.post), .lst []]) ?_ (by simp)
    have e : (ptsD T.post.reverse).reverse = ptsD T.post := by simp [ptsD]
    simp [e]
theorem intsD_map : ∀ l : List Int, intsD (l.map PyData.int) = some l
  | [] => rfl
  | i :: l => by simp [intsD, intsD_map l]
theorem ok_inner {n : Nat} {T : PT} (h : T.size ≤ 900000) : run tb (n + 3) f_inner_groups [.dt (ptD T)] [] = .ok (.nw (.lst (gsD (FM.srtN T.grs)))) [] := by
  rw [run_inner_groups]
  refine run_of (fl := .rt (.nw (.lst (gsD (FM.srtN T.grs)))) []) rfl ?_ (by simp)
  show exec (cbOf tb (n + 2)) body_inner_groups [.dt (ptD T), .un] _ = _
  unfold body_inner_groups
  have hb := ok_bottom_up (n := n) h
  have hl : T.post.length ≤ 900000 := by rw [FM.post_len]; exact h
  have lp := lcF_filt (t := lcT (cbOf tb (n + 2)) (.some (.cmp .eq (.idx (.var 1) (.con (.int 0))) (.con (.str "group"))))) (f := lcE (cbOf tb (n + 2)) (.idx (.var 1) (.con (.int 1)))) (b := bindE (.nm 1)) (ch := none) (n0 := 0) (ρ := [.dt (ptD T), .un]) (S := []) (fun P : PT => .dt (ptD P)) (fun P => (FM.gnum P).isSome) (fun P => .int (((FM.gnum P).getD 0 : Nat) : Int)) trivial (by simp) T.post [] (by simp [big]; omega) (fun P _ => by
    refine ⟨[.dt (ptD T), .dt (ptD P)], rfl, ?_, fun hc => ⟨.v (.int (((FM.gnum P).getD 0 : Nat) : Int)), ?_, rfl⟩⟩
    · cases P <;> simp [ptD, FM.gnum]
    · cases P <;> simp [FM.gnum] at hc <;> simp [ptD, FM.gnum])
  have e3 : (ptsD T.post).map En.dt = T.post.map fun P => .dt (ptD P) := by simp [ptsD]
  have b1 : (ptsD T.post).length ≤ 16000000 := by simp [ptsD]; omega
  have b2 : T.post.length ≤ 16000000 := by omega
  have e4 : ((T.post.filter fun P => (FM.gnum P).isSome).map fun P => PyData.int (((FM.gnum P).getD 0 : Nat) : Int)) = ((T.post.filterMap FM.gnum).map fun k : Nat => (k : Int)).map PyData.int := by
    generalize T.post = l
    induction l with
    | nil => rfl
    | cons P l ih =>
      cases e : FM.gnum P with
      | none => simp [List.filter_cons, List.filterMap_cons, e, ih]
      | some k => simp [List.filter_cons, List.filterMap_cons, e, ih]
  rw [List.nil_append, e4] at lp
  have hs : sortI ((T.post.filterMap FM.gnum).map fun k : Nat => (k : Int)) = (FM.srtN T.grs).map fun k : Nat => (k : Int) := by
    refine sortI_eq ?_ ?_
    · exact (((FM.srtN_perm T.grs).trans (FM.post_groups T).symm)).map _
    · exact List.pairwise_map.mpr ((FM.srtN_le T.grs).imp fun h => by omega)
  have hsd : srtD (((T.post.filterMap FM.gnum).map fun k : Nat => (k : Int)).map PyData.int) = some (gsD (FM.srtN T.grs)) := by
    unfold srtD
    rw [intsD_map]
    simp only [hs]
    simp [gsD]
  generalize ((T.post.filterMap FM.gnum).map fun k : Nat => (k : Int)).map PyData.int = X at lp hsd
  simp [hb, e3, b1, b2, big, wipeR, lp, srtO, hsd]

open FM (PT Ch Ws Rw Sol InL)
def dpD (x : PT × Bool) : PyData := .tuple [ptD x.1, .bool x.2]
def dpsD (l : List (PT × Bool)) : List PyData := l.map dpD
def bdB : VM.St := (.seq (.asg (.tp [4, 5]) (.bm .pop (.var 3) .nil))
  (.seq (.exp (.bm .append (.var 2) (.cons (.tup (.cons (.var 4) (.cons (.var 5) .nil))) .nil)))
  (.seq (.ite (.cmp .eq (.idx (.var 4) (.con (.int 0))) (.con (.str "look")))
  (.asg (.nm 5) (.not (.idx (.var 4) (.con (.int 1)))))
  .nop)
  (.for_ (.nm 6) (.sq (.call f_parts (.cons (.var 4) .nil)))
  (.exp (.bm .append (.var 3) (.cons (.tup (.cons (.var 6) (.cons (.var 5) .nil))) .nil))) [6]))))
theorem bd_steps {n : Nat} {a b : En} : ∀ (T : PT) (back : Bool) (fd td : List (PT × Bool)), fd.length + T.size ≤ 900000 → td.length + T.size ≤ 900000 →
    Stps (whT (cbOf tb (n + 1)) (.val (.var 3))) (kSeq (cbOf tb (n + 1)) bdB) [4, 5, 6] 2 [a, b, .mu 0, .mu 1, .un, .un, .un] [.lst (dpsD fd), .lst (dpsD (td ++ [(T, back)]))] [a, b, .mu 0, .mu 1, .un, .un, .un] [.lst (dpsD (fd ++ (T.dpost back).reverse)), .lst (dpsD td)] := by
  have one : ∀ (T : PT) (back : Bool) (fd td : List (PT × Bool)), fd.length < 900000 → td.length ≤ 900000 → Stps (whT (cbOf tb (n + 1)) (.val (.var 3))) (kSeq (cbOf tb (n + 1)) bdB) [4, 5, 6] 2 [a, b, .mu 0, .mu 1, .un, .un, .un] [.lst (dpsD fd), .lst (dpsD (td ++ [(T, back)]))] [a, b, .mu 0, .mu 1, .un, .un, .un] [.lst (dpsD (fd ++ [(T, back)])), .lst (dpsD (td ++ T.kids.map fun k => (k, T.inner back)))] := fun T back fd td h1 h2 => by
    have hp := ok_parts (n := n) (T := T)
    have b1 : (dpsD fd).length < 16000000 := by simp [dpsD]; omega
    have b2 : (dpsD td).length < 16000000 := by simp [dpsD]; omega
    have b3 : (dpsD td).length + 1 < 16000000 := by simp [dpsD]; omega
    have e1 : dpsD (td ++ [(T, back)]) = dpsD td ++ [dpD (T, back)] := by simp [dpsD]
    have e2 : dpsD (fd ++ [(T, back)]) = dpsD fd ++ [dpD (T, back)] := by simp [dpsD]
    have e3 : dpsD (td ++ T.kids.map fun k => (k, T.inner back)) = dpsD td ++ T.kids.map fun k => dpD (k, T.inner back) := by simp [dpsD]
    obtain ⟨e6, he6⟩ : ∃ e6 : En, e6 = match T.kids.getLast? with | some k => .dt (ptD k) | none => .un := ⟨_, rfl⟩
    refine Stps.one (S1 := [.lst (dpsD fd), .lst (dpsD (td ++ [(T, back)]))]) (ρ1 := [a, b, .mu 0, .mu 1, .dt (ptD T), .dt (.bool (T.inner back)), .un]) (S2 := [.lst (dpsD (fd ++ [(T, back)])), .lst (dpsD (td ++ T.kids.map fun k => (k, T.inner back)))]) (by simp [dpsD]) (.inl ?_)
    rw [e1, e2, e3]
    generalize dpsD td = TD at *
    generalize dpsD fd = FD at *
    unfold bdB
    cases T <;> simp [ptD, PT.kids] at hp <;> simp [dpD, ptD, PT.kids, PT.inner, hp, big, b1, b2, b3, loopF, chk]
  intro T
  induction T with
  | st c => intro back fd td h1 h2; simpa [PT.dpost, PT.kids] using one (.st c) back fd td (by simp [PT.size] at h1; omega) (by simp [PT.size] at h2; omega)
  | em => intro back fd td h1 h2; simpa [PT.dpost, PT.kids] using one .em back fd td (by simp [PT.size] at h1; omega) (by simp [PT.size] at h2; omega)
  | an nm => intro back fd td h1 h2; simpa [PT.dpost, PT.kids] using one (.an nm) back fd td (by simp [PT.size] at h1; omega) (by simp [PT.size] at h2; omega)
  | sq x y ix iy =>
    intro back fd td h1 h2
    simp only [PT.size] at h1 h2
    have s0 := one (.sq x y) back fd td (by omega) (by omega)
    have s1 := iy back (fd ++ [(.sq x y, back)]) (td ++ [(x, back)]) (by simp; omega) (by simp; omega)
    have s2 := ix back (fd ++ [(.sq x y, back)] ++ (y.dpost back).reverse) td (by simp [FM.dpost_len]; omega) (by omega)
    have e1 : (td ++ (PT.sq x y).kids.map fun k => (k, (PT.sq x y).inner back)) = td ++ [(x, back)] ++ [(y, back)] := by simp [PT.kids, PT.inner]
    have e2 : fd ++ ((PT.sq x y).dpost back).reverse = fd ++ [(.sq x y, back)] ++ (y.dpost back).reverse ++ (x.dpost back).reverse := by simp [PT.dpost]
    rw [e1] at s0
    rw [e2]
    exact s0.trans (s1.trans s2)
  | ch x y ix iy =>
    intro back fd td h1 h2
    simp only [PT.size] at h1 h2
    have s0 := one (.ch x y) back fd td (by omega) (by omega)
    have s1 := iy back (fd ++ [(.ch x y, back)]) (td ++ [(x, back)]) (by simp; omega) (by simp; omega)
    have s2 := ix back (fd ++ [(.ch x y, back)] ++ (y.dpost back).reverse) td (by simp [FM.dpost_len]; omega) (by omega)
    have e1 : (td ++ (PT.ch x y).kids.map fun k => (k, (PT.ch x y).inner back)) = td ++ [(x, back)] ++ [(y, back)] := by simp [PT.kids, PT.inner]
    have e2 : fd ++ ((PT.ch x y).dpost back).reverse = fd ++ [(.ch x y, back)] ++ (y.dpost back).reverse ++ (x.dpost back).reverse := by simp [PT.dpost]
    rw [e1] at s0
    rw [e2]
    exact s0.trans (s1.trans s2)
  | rp x lo more g ix =>
    intro back fd td h1 h2
    simp only [PT.size] at h1 h2
    have s0 := one (.rp x lo more g) back fd td (by omega) (by omega)
    have s2 := ix back (fd ++ [(.rp x lo more g, back)]) td (by simp; omega) (by omega)
    have e2 : fd ++ ((PT.rp x lo more g).dpost back).reverse = fd ++ [(.rp x lo more g, back)] ++ (x.dpost back).reverse := by simp [PT.dpost]
    rw [e2]
    exact s0.trans s2
  | gr k x ix =>
    intro back fd td h1 h2
    simp only [PT.size] at h1 h2
    have s0 := one (.gr k x) back fd td (by omega) (by omega)
    have s2 := ix back (fd ++ [(.gr k x, back)]) td (by simp; omega) (by omega)
    have e2 : fd ++ ((PT.gr k x).dpost back).reverse = fd ++ [(.gr k x, back)] ++ (x.dpost back).reverse := by simp [PT.dpost]
    rw [e2]
    exact s0.trans s2
  | lk ahead pos x ix =>
    intro back fd td h1 h2
    simp only [PT.size] at h1 h2
    have s0 := one (.lk ahead pos x) back fd td (by omega) (by omega)
    have s2 := ix (!ahead) (fd ++ [(.lk ahead pos x, back)]) td (by simp; omega) (by omega)
    have e2 : fd ++ ((PT.lk ahead pos x).dpost back).reverse = fd ++ [(.lk ahead pos x, back)] ++ (x.dpost (!ahead)).reverse := by simp [PT.dpost]
    rw [e2]
    exact s0.trans s2
theorem ok_directed {n : Nat} {T : PT} {back : Bool} (h : T.size ≤ 900000) : run tb (n + 2) f_bottom_up_directed [.dt (ptD T), .dt (.bool back)] [] = .ok (.nw (.lst (dpsD (T.dpost back)))) [] := by
  rw [run_bottom_up_directed]
  refine run_of (fl := .rt (.mu 0) [.lst (dpsD (T.dpost back)), .lst []]) rfl ?_ (by simp)
  show exec (cbOf tb (n + 1)) body_bottom_up_directed [.dt (ptD T), .dt (.bool back), .un, .un, .un, .un, .un] _ = _
  unfold body_bottom_up_directed
  refine seq_nx (ρ1 := [.dt (ptD T), .dt (.bool back), .mu 0, .un, .un, .un, .un]) (S1 := [.lst []]) (by simp [big]) ?_
  refine seq_nx (ρ1 := [.dt (ptD T), .dt (.bool back), .mu 0, .mu 1, .un, .un, .un]) (S1 := [.lst [], .lst [dpD (T, back)]]) (by simp [big, dpD]) ?_
  refine seq_nx (ρ1 := [.dt (ptD T), .dt (.bool back), .mu 0, .mu 1, .un, .un, .un]) (S1 := [.lst (dpsD (T.dpost back).reverse), .lst []]) ?_ ?_
  · rw [ex_whl]
    have := bd_steps (n := n) (a := .dt (ptD T)) (b := .dt (.bool back)) T back [] [] (by simpa using h) (by simpa using h)
    rw [List.nil_append, List.nil_append] at this
    exact this.done (by simp [dpsD])
  · refine seq_nx (ρ1 := [.dt (ptD T), .dt (.bool back), .mu 0, .mu 1, .un, .un, .un]) (S1 := [.lst (dpsD (T.dpost back)), .lst []]) ?_ (by simp)
    have e : (dpsD (T.dpost back).reverse).reverse = dpsD (T.dpost back) := by simp [dpsD]
    simp [e]
theorem ok_add {n : Nat} {rows : List Rw} {r : Rw} (h : rows.length < 900000) : run tb (n + 1) f__add [.mu 0, .dt (rwD r)] [.lst (rwsD rows)] = .ok (.v (.int (rows.length : Int))) [.lst (rwsD (rows ++ [r]))] := by
  rw [run__add]
  refine run_of (fl := .rt (.v (.int (rows.length : Int))) [.lst (rwsD (rows ++ [r]))]) rfl ?_ (by simp)
  show exec (cbOf tb n) body__add [.mu 0, .dt (rwD r)] _ = _
  unfold body__add
  have e : rwsD (rows ++ [r]) = rwsD rows ++ [rwD r] := by simp [rwsD]
  have b : (rwsD rows).length = rows.length := by simp [rwsD]
  have b1 : rows.length < 16000000 := by omega
  rw [e]
  simp [big, b, b1]
theorem rng_dt (m : Nat) : (rngD 0 m).map En.dt = (List.range m).map fun i : Nat => .dt (.int (0 + (i : Int))) := by
  unfold rngD
  rw [List.map_map]
  rfl
theorem foldl_succ : ∀ (l : List Nat) (k : Nat), l.foldl (fun k (_ : Nat) => k + 1) k = k + l.length
  | [], k => rfl
  | x :: l, k => by rw [List.foldl_cons, foldl_succ l, List.length_cons]; omega
theorem ok_repeat {n : Nat} {a : PT} {lo i : Nat} {more : Option Nat} {g : Bool} {rows : List Rw} (ha : a.size ≤ 900000) (hl : rows.length + (more.getD 0 + 1 + lo + 1) ≤ 800000) :
    run tb (n + 4) f__add_repeat [.mu 0, .dt (ptD (.rp a lo more g)), .dt (.int (i : Int))] [.lst (rwsD rows)] = .ok (.v (.int ((rows.length + (more.getD 0 + 1 + lo + 1) - 1 : Nat) : Int))) [.lst (rwsD (rows ++ (.it (FM.srtN a.grs) i :: FM.repR rows.length g more lo)))] := by
  rw [run__add_repeat]
  refine run_of (fl := .rt (.v (.int ((rows.length + (more.getD 0 + 1 + lo + 1) - 1 : Nat) : Int))) [.lst (rwsD (rows ++ (.it (FM.srtN a.grs) i :: FM.repR rows.length g more lo)))]) rfl ?_ (by simp)
  show exec (cbOf tb (n + 3)) body__add_repeat [.mu 0, .dt (ptD (.rp a lo more g)), .dt (.int (i : Int)), .un, .un, .un, .un, .un, .un, .un] _ = _
  unfold body__add_repeat
  obtain ⟨m, hm⟩ : ∃ m : PyData, m = match more with | none => .none | some k => .int ((lo : Int) + (k : Int)) := ⟨_, rfl⟩
  have hD : ptD (.rp a lo more g) = .tuple [.str "repeat", ptD a, .int (lo : Int), m, .bool g] := by rw [hm]; cases more <;> rfl
  rw [hD]
  generalize hP : PyData.tuple [.str "repeat", ptD a, .int (lo : Int), m, .bool g] = P
  refine seq_nx (ρ1 := [.mu 0, .dt P, .dt (.int (i : Int)), .dt (.str "repeat"), .dt (ptD a), .dt (.int (lo : Int)), .dt m, .dt (.bool g), .un, .un]) (S1 := [.lst (rwsD rows)]) (by rw [← hP]; simp) ?_
  have hin := ok_inner (n := n) (T := a) ha
  have h0 := ok_add (n := n + 2) (rows := rows) (r := .it (FM.srtN a.grs) i) (by omega)
  obtain ⟨r1, hr1⟩ : ∃ r1, r1 = rows ++ [Rw.it (FM.srtN a.grs) i] := ⟨_, rfl⟩
  have hl1 : r1.length = rows.length + 1 := by rw [hr1]; simp
  rw [← hr1] at h0
  refine seq_nx (ρ1 := [.mu 0, .dt P, .dt (.int (i : Int)), .dt (.str "repeat"), .dt (ptD a), .dt (.int (lo : Int)), .dt m, .dt (.bool g), .dt (.int (rows.length : Int)), .un]) (S1 := [.lst (rwsD r1)]) ?_ ?_
  · simp only [rwD] at h0
    simp [hin, h0, big]
  obtain ⟨e9, he9⟩ : ∃ e : En, e = .un := ⟨_, rfl⟩
  -- the rows of the least number
  have seqs : ∀ (e3 : En) (r2 : List Rw) (o : Nat), r2.length = o + 1 → r2.length + lo ≤ 800000 → exec (cbOf tb (n + 3)) (.seq (.for_ (.nm 3) (.rg1 (.var 5))
      (.asg (.nm 9) (.call f__add (.cons (.var 0) (.cons (.tup (.cons (.con (.str "sequence")) (.cons (.var 8) (.cons (.var 9) .nil)))) .nil)))) [3])
      (.ret (.var 9))) [.mu 0, .dt P, .dt (.int (i : Int)), e3, .dt (ptD a), .dt (.int (lo : Int)), .dt m, .dt (.bool g), .dt (.int (rows.length : Int)), .dt (.int (o : Int))] [.lst (rwsD r2)] = .rt (.v (.int ((o + lo : Nat) : Int))) [.lst (rwsD (r2 ++ FM.seqR rows.length o lo))] := by
    intro e3 r2 o h1 h2
    have lp := loopF_fold (f := forB (cbOf tb (n + 3)) (.nm 3) (.asg (.nm 9) (.call f__add (.cons (.var 0) (.cons (.tup (.cons (.con (.str "sequence")) (.cons (.var 8) (.cons (.var 9) .nil)))) .nil))))) (ch := none) (ks := [3]) (n0 := 1) (fun k : Nat => [.mu 0, .dt P, .dt (.int (i : Int)), if k = 0 then e3 else .un, .dt (ptD a), .dt (.int (lo : Int)), .dt m, .dt (.bool g), .dt (.int (rows.length : Int)), .dt (.int ((o + k : Nat) : Int))]) (fun k => [.lst (rwsD (r2 ++ FM.seqR rows.length o k))]) (fun k (_ : Nat) => k + 1) (fun j : Nat => .dt (.int (0 + (j : Int)))) (fun k l => k + l.length ≤ lo) (fun k j l hi => by
      rw [List.length_cons] at hi
      have hsl : (r2 ++ FM.seqR rows.length o k).length = o + k + 1 := by rw [List.length_append, FM.seqR_len]; omega
      have ha := ok_add (n := n + 2) (rows := r2 ++ FM.seqR rows.length o k) (r := .ss rows.length (o + k)) (by omega)
      rw [hsl, List.append_assoc] at ha
      refine ⟨by omega, [.mu 0, .dt P, .dt (.int (i : Int)), .dt (.int (0 + (j : Int))), .dt (ptD a), .dt (.int (lo : Int)), .dt m, .dt (.bool g), .dt (.int (rows.length : Int)), .dt (.int ((o + (k + 1) : Nat) : Int))], [.lst (rwsD (r2 ++ FM.seqR rows.length o (k + 1)))], .inl ?_, rfl, rfl, trivial⟩
      simp only [rwD] at ha
      have e : FM.seqR rows.length o (k + 1) = FM.seqR rows.length o k ++ [.ss rows.length (o + k)] := rfl
      rw [e, show o + (k + 1) = o + k + 1 by omega]
      generalize FM.seqR rows.length o k = Q at *
      generalize (if k = 0 then e3 else En.un) = e4
      simp at ha
      simp [ha, big]) (List.range lo) 0 (by simp)
    rw [foldl_succ, List.length_range, Nat.zero_add] at lp
    have l1 := lp.1
    rw [← rng_dt] at l1
    have b1 : (lo : Int) ≤ 1000000000 := by omega
    have b2 : (-1000000000 : Int) ≤ lo := by omega
    simp only [Nat.add_zero, if_true] at l1
    have e0 : FM.seqR rows.length o 0 = [] := rfl
    rw [e0, List.append_nil] at l1
    simp [b1, b2, l1]
  have furs : ∀ (e3 : En) (r2 : List Rw) (o k : Nat), r2.length = o → r2.length + k ≤ 800000 → exec (cbOf tb (n + 3)) (.for_ (.nm 3) (.rg1 (.bin .sub (.var 6) (.var 5)))
      (.asg (.nm 9) (.call f__add (.cons (.var 0) (.cons (.tup (.cons (.con (.str "further")) (.cons (.var 8) (.cons (.var 9) (.cons (.var 7) .nil))))) .nil)))) [3]) [.mu 0, .dt P, .dt (.int (i : Int)), e3, .dt (ptD a), .dt (.int (lo : Int)), .dt (.int ((lo : Int) + (k : Int))), .dt (.bool g), .dt (.int (rows.length : Int)), .dt (.int (o : Int))] [.lst (rwsD (r2 ++ [.em]))] =
      .nx [.mu 0, .dt P, .dt (.int (i : Int)), if k = 0 then e3 else .un, .dt (ptD a), .dt (.int (lo : Int)), .dt (.int ((lo : Int) + (k : Int))), .dt (.bool g), .dt (.int (rows.length : Int)), .dt (.int ((o + k : Nat) : Int))] [.lst (rwsD (r2 ++ FM.furR rows.length o g k))] := by
    intro e3 r2 o m' h1 h2
    have lp := loopF_fold (f := forB (cbOf tb (n + 3)) (.nm 3) (.asg (.nm 9) (.call f__add (.cons (.var 0) (.cons (.tup (.cons (.con (.str "further")) (.cons (.var 8) (.cons (.var 9) (.cons (.var 7) .nil))))) .nil))))) (ch := none) (ks := [3]) (n0 := 1) (fun k : Nat => [.mu 0, .dt P, .dt (.int (i : Int)), if k = 0 then e3 else .un, .dt (ptD a), .dt (.int (lo : Int)), .dt (.int ((lo : Int) + (m' : Int))), .dt (.bool g), .dt (.int (rows.length : Int)), .dt (.int ((o + k : Nat) : Int))]) (fun k => [.lst (rwsD (r2 ++ FM.furR rows.length o g k))]) (fun k (_ : Nat) => k + 1) (fun j : Nat => .dt (.int (0 + (j : Int)))) (fun k l => k + l.length ≤ m') (fun k j l hi => by
      rw [List.length_cons] at hi
      have hsl : (r2 ++ FM.furR rows.length o g k).length = o + k + 1 := by rw [List.length_append, FM.furR_len]; omega
      have ha := ok_add (n := n + 2) (rows := r2 ++ FM.furR rows.length o g k) (r := .fu rows.length (o + k) g) (by omega)
      rw [hsl, List.append_assoc] at ha
      refine ⟨by omega, [.mu 0, .dt P, .dt (.int (i : Int)), .dt (.int (0 + (j : Int))), .dt (ptD a), .dt (.int (lo : Int)), .dt (.int ((lo : Int) + (m' : Int))), .dt (.bool g), .dt (.int (rows.length : Int)), .dt (.int ((o + (k + 1) : Nat) : Int))], [.lst (rwsD (r2 ++ FM.furR rows.length o g (k + 1)))], .inl ?_, rfl, rfl, trivial⟩
      simp only [rwD] at ha
      have e : FM.furR rows.length o g (k + 1) = FM.furR rows.length o g k ++ [.fu rows.length (o + k) g] := rfl
      rw [e, show o + (k + 1) = o + k + 1 by omega]
      generalize FM.furR rows.length o g k = Q at *
      generalize (if k = 0 then e3 else En.un) = e4
      simp at ha
      simp [ha, big]) (List.range m') 0 (by simp)
    rw [foldl_succ, List.length_range, Nat.zero_add] at lp
    have l1 := lp.1
    rw [← rng_dt] at l1
    have b1 : (m' : Int) ≤ 1000000000 := by omega
    have b2 : (-1000000000 : Int) ≤ m' := by omega
    simp only [Nat.add_zero, if_true] at l1
    have e0 : FM.furR rows.length o g 0 = [.em] := rfl
    rw [e0] at l1
    have e4 : (lo : Int) + (m' : Int) - lo = m' := by omega
    simp [e4, b1, b2, l1]
  cases more with
  | none =>
    simp only [Option.getD_none] at hl
    have hm : m = .none := hm
    subst hm
    have h2 := ok_add (n := n + 2) (rows := r1) (r := .fu rows.length (rows.length + 1) g) (by omega)
    rw [hl1] at h2
    obtain ⟨r2, hr2⟩ : ∃ r2, r2 = r1 ++ [Rw.fu rows.length (rows.length + 1) g] := ⟨_, rfl⟩
    rw [← hr2] at h2
    have hl2 : r2.length = rows.length + 1 + 1 := by rw [hr2, List.length_append, hl1]; rfl
    have hs := seqs (.dt (.str "repeat")) r2 (rows.length + 1) hl2 (by omega)
    have e : r2 ++ FM.seqR rows.length (rows.length + 1) lo = rows ++ (.it (FM.srtN a.grs) i :: FM.repR rows.length g none lo) := by rw [hr2, hr1]; simp [FM.repR]
    rw [e] at hs
    have ev : rows.length + ((none : Option Nat).getD 0 + 1 + lo + 1) - 1 = rows.length + 1 + lo := by simp; omega
    rw [ev]
    refine seq_nx (ρ1 := [.mu 0, .dt P, .dt (.int (i : Int)), .dt (.str "repeat"), .dt (ptD a), .dt (.int (lo : Int)), .dt .none, .dt (.bool g), .dt (.int (rows.length : Int)), .dt (.int ((rows.length + 1 : Nat) : Int))]) (S1 := [.lst (rwsD r2)]) ?_ hs
    have b0 : (rwsD r1).length = rows.length + 1 := by simp [rwsD, hl1]
    simp only [rwD] at h2
    simp at h2
    simp [h2, big, b0]
  | some k =>
    simp only [Option.getD_some] at hl
    have hm : m = .int ((lo : Int) + (k : Int)) := hm
    subst hm
    have h2 := ok_add (n := n + 2) (rows := r1) (r := .em) (by omega)
    rw [hl1] at h2
    have hf := furs (.dt (.str "repeat")) r1 (rows.length + 1) k hl1 (by omega)
    have hl2 : (r1 ++ FM.furR rows.length (rows.length + 1) g k).length = rows.length + 1 + k + 1 := by rw [List.length_append, hl1, FM.furR_len]; omega
    have hs := seqs (if k = 0 then .dt (.str "repeat") else .un) (r1 ++ FM.furR rows.length (rows.length + 1) g k) (rows.length + 1 + k) hl2 (by omega)
    have e : r1 ++ FM.furR rows.length (rows.length + 1) g k ++ FM.seqR rows.length (rows.length + 1 + k) lo = rows ++ (.it (FM.srtN a.grs) i :: FM.repR rows.length g (some k) lo) := by rw [hr1]; simp [FM.repR]
    rw [e] at hs
    have ev : rows.length + ((some k : Option Nat).getD 0 + 1 + lo + 1) - 1 = rows.length + 1 + k + lo := by simp; omega
    rw [ev]
    refine seq_nx ?_ hs
    have hc : exec (cbOf tb (n + 3)) (.asg (.nm 9) (.call f__add (.cons (.var 0) (.cons (.tup (.cons (.con (.str "empty")) .nil)) .nil)))) [.mu 0, .dt P, .dt (.int (i : Int)), .dt (.str "repeat"), .dt (ptD a), .dt (.int (lo : Int)), .dt (.int ((lo : Int) + (k : Int))), .dt (.bool g), .dt (.int (rows.length : Int)), .un] [.lst (rwsD r1)] = .nx [.mu 0, .dt P, .dt (.int (i : Int)), .dt (.str "repeat"), .dt (ptD a), .dt (.int (lo : Int)), .dt (.int ((lo : Int) + (k : Int))), .dt (.bool g), .dt (.int (rows.length : Int)), .dt (.int ((rows.length + 1 : Nat) : Int))] [.lst (rwsD (r1 ++ [.em]))] := by
      simp only [rwD] at h2
      simp at h2
      simp [h2, big]
    have ht : evT (cbOf tb (n + 3)) [.mu 0, .dt P, .dt (.int (i : Int)), .dt (.str "repeat"), .dt (ptD a), .dt (.int (lo : Int)), .dt (.int ((lo : Int) + (k : Int))), .dt (.bool g), .dt (.int (rows.length : Int)), .un] [.lst (rwsD r1)] (.cmp .isn (.var 6) (.con .none)) = .ok false [.lst (rwsD r1)] := by simp
    rw [ex_ite, ht]
    simp only [Out.fl_ok, kIte_ap, Bool.false_eq_true, if_false]
    exact seq_nx hc hf

open FM (PT Ch Ws Rw Sol InL)
def ixD (l : List Nat) : List PyData := l.map fun (k : Nat) => .int (k : Int)
theorem ok_add_part {n : Nat} {T : PT} {back : Bool} {below : List Nat} {rows : List Rw} (hb : below.length = T.kids.length) (hl : rows.length + T.addN ≤ 800000) (hs : T.size ≤ 900000) : run tb (n + 5) f__add_part [.mu 0, .dt (ptD T), .mu 1, .dt (.bool back)] [.lst (rwsD rows), .lst (ixD below)] = .ok (.v (.int ((rows.length + T.addN - 1 : Nat) : Int))) [.lst (rwsD (rows ++ T.add back below rows.length)), .lst (ixD below)] := by
  rw [run__add_part]
  refine run_of (fl := .rt (.v (.int ((rows.length + T.addN - 1 : Nat) : Int))) [.lst (rwsD (rows ++ T.add back below rows.length)), .lst (ixD below)]) rfl ?_ (by simp)
  show exec (cbOf tb (n + 4)) body__add_part [.mu 0, .dt (ptD T), .mu 1, .dt (.bool back), .un] _ = _
  unfold body__add_part
  have hpos : 0 < T.addN := by cases T <;> simp [PT.addN]
  have had : ∀ r : Rw, run tb (n + 4) f__add [.mu 0, .dt (rwD r)] [.lst (rwsD rows)] = .ok (.v (.int (rows.length : Int))) [.lst (rwsD (rows ++ [r]))] := fun r => ok_add (n := n + 3) (by omega)
  cases T with
  | st c =>
    have h := had (.st c back)
    simp only [rwD] at h
    simp [ptD, PT.add, PT.addN, h, big]
  | em =>
    have h := had .em
    simp only [rwD] at h
    simp [ptD, PT.add, PT.addN, h, big, VM.inR, flatD, eqF]
  | an nm =>
    have h := had (.an nm)
    simp only [rwD] at h
    simp [ptD, PT.add, PT.addN, h, big, VM.inR, flatD, eqF]
  | sq a b =>
    match below, hb with
    | [i, j], _ =>
      cases back with
      | true =>
        have h := had (.ss j i)
        simp only [rwD] at h
        simp [ptD, PT.add, PT.addN, h, big, VM.inR, flatD, eqF, ixD]
      | false =>
        have h := had (.ss i j)
        simp only [rwD] at h
        simp [ptD, PT.add, PT.addN, h, big, VM.inR, flatD, eqF, ixD]
  | ch a b =>
    match below, hb with
    | [i, j], _ =>
      have h := had (.cc i j)
      simp only [rwD] at h
      simp [ptD, PT.add, PT.addN, h, big, VM.inR, flatD, eqF, ixD]
  | rp a lo more g =>
    match below, hb with
    | [i], _ =>
      simp only [PT.size] at hs
      have h := ok_repeat (n := n) (a := a) (lo := lo) (i := i) (more := more) (g := g) (rows := rows) (by omega) hl
      simp only [ptD] at h
      simp [ptD, PT.add, h, big, VM.inR, flatD, eqF, ixD]
      rfl
  | gr k a =>
    match below, hb with
    | [i], _ =>
      have h := had (.gp k i)
      simp only [rwD] at h
      simp [ptD, PT.add, PT.addN, h, big, VM.inR, flatD, eqF, ixD]
  | lk ahead pos a =>
    match below, hb with
    | [i], _ =>
      simp only [PT.size] at hs
      have h := had (.lo pos (FM.srtN a.grs) i)
      have hi := ok_inner (n := n + 1) (T := a) (by omega)
      simp only [rwD] at h
      simp [ptD, PT.add, PT.addN, h, hi, big, VM.inR, flatD, eqF, ixD]
def mpB : VM.St := (.seq (.asg (.nm 6) (.own (.lc [7] (.nm 7) (.sq (.call f_parts (.cons (.var 4) .nil))) .none (.bm .pop (.var 3) .nil))))
  (.seq (.exp (.bm .reverse (.var 6) .nil))
  (.exp (.bm .append (.var 3) (.cons (.call f__add_part (.cons (.var 2) (.cons (.var 4) (.cons (.var 6) (.cons (.var 5) .nil))))) .nil)))))
theorem mp_turn {n : Nat} {a b : En} {T : PT} {back : Bool} {rows : List Rw} {d0 below : List Nat} (hb : below.length = T.kids.length) (hl : rows.length + T.addN ≤ 800000) (hs : T.size ≤ 900000) (hd : d0.length < 900000) :
    exec (cbOf tb (n + 5)) mpB [a, b, .mu 0, .mu 1, .dt (ptD T), .dt (.bool back), .un, .un] [.lst (rwsD rows), .lst (ixD (d0 ++ below))] = .nx [a, b, .mu 0, .mu 1, .dt (ptD T), .dt (.bool back), .mu 2, .un] [.lst (rwsD (rows ++ T.add back below rows.length)), .lst (ixD (d0 ++ [rows.length + T.addN - 1])), .lst (ixD below)] := by
  have hp := ok_parts (n := n + 4) (T := T)
  have ha := ok_add_part (n := n) (back := back) hb hl hs
  have e1 : ixD (d0 ++ below) = ixD d0 ++ ixD below := by simp [ixD]
  have e2 : ixD (d0 ++ [rows.length + T.addN - 1]) = ixD d0 ++ [.int ((rows.length + T.addN - 1 : Nat) : Int)] := by simp [ixD]
  have b1 : (ixD d0).length < 16000000 := by simp [ixD]; omega
  rw [e1, e2]
  unfold mpB
  refine seq_nx (ρ1 := [a, b, .mu 0, .mu 1, .dt (ptD T), .dt (.bool back), .mu 2, .un]) (S1 := [.lst (rwsD rows), .lst (ixD d0), .lst (ixD below).reverse]) ?_ ?_
  · match hk : T.kids, below, hb with
    | [], [], _ =>
      rw [hk] at hp
      simp [hp, big, lcF, wipeR, ixD]
    | [x], [i], _ =>
      rw [hk] at hp
      simp [hp, big, lcF, wipeR, ixD, chk]
    | [x, y], [i, j], _ =>
      rw [hk] at hp
      simp [hp, big, lcF, wipeR, ixD, chk]
    | x :: y :: z :: l, _, _ => cases T <;> simp [PT.kids] at hk
    | [], i :: l, h => exact absurd h (by simp [hk])
    | [x], [], h => exact absurd h (by simp [hk])
    | [x], i :: j :: l, h => exact absurd h (by simp [hk])
    | [x, y], [], h => exact absurd h (by simp [hk])
    | [x, y], [i], h => exact absurd h (by simp [hk])
    | [x, y], i :: j :: k :: l, h => exact absurd h (by simp [hk])
  generalize ixD d0 = D at *
  generalize ixD below = B at *
  refine seq_nx (ρ1 := [a, b, .mu 0, .mu 1, .dt (ptD T), .dt (.bool back), .mu 2, .un]) (S1 := [.lst (rwsD rows), .lst D, .lst B]) (by simp) ?_
  simp [ha, big, b1]
theorem ok_make_plan {n : Nat} {T : PT} {back : Bool} (hs : T.size ≤ 800000) (hr : T.rowsN ≤ 800000) : run tb (n + 6) f_make_plan [.dt (ptD T), .dt (.bool back)] [] = .ok (.nw (.lst (rwsD (T.plan back 0)))) [] := by
  rw [run_make_plan]
  refine run_of (fl := .rt (.mu 0) [.lst (rwsD (T.plan back 0)), .lst (ixD [T.rowsN - 1])]) rfl ?_ (by simp)
  show exec (cbOf tb (n + 5)) body_make_plan [.dt (ptD T), .dt (.bool back), .un, .un, .un, .un, .un, .un] _ = _
  unfold body_make_plan
  refine seq_nx (ρ1 := [.dt (ptD T), .dt (.bool back), .mu 0, .un, .un, .un, .un, .un]) (S1 := [.lst []]) (by simp [big]) ?_
  refine seq_nx (ρ1 := [.dt (ptD T), .dt (.bool back), .mu 0, .mu 1, .un, .un, .un, .un]) (S1 := [.lst [], .lst []]) (by simp [big]) ?_
  refine seq_nx (ρ1 := [.dt (ptD T), .dt (.bool back), .mu 0, .mu 1, .un, .un, .un, .un]) (S1 := [.lst (rwsD (T.plan back 0)), .lst (ixD [T.rowsN - 1])]) ?_ (by simp)
  have hd := ok_directed (n := n + 3) (T := T) (back := back) (by omega)
  have hsz : ∀ (T : PT) (back : Bool), ∀ x ∈ T.dpost back, x.1.size ≤ T.size := by
    intro T
    induction T with
    | sq a b ia ib =>
      intro back x hx
      simp only [PT.dpost, List.mem_append, List.mem_singleton] at hx
      rcases hx with (h | h) | rfl
      · have := ia back x h; simp [PT.size]; omega
      · have := ib back x h; simp [PT.size]; omega
      · exact Nat.le_refl _
    | ch a b ia ib =>
      intro back x hx
      simp only [PT.dpost, List.mem_append, List.mem_singleton] at hx
      rcases hx with (h | h) | rfl
      · have := ia back x h; simp [PT.size]; omega
      · have := ib back x h; simp [PT.size]; omega
      · exact Nat.le_refl _
    | rp a lo more g ia =>
      intro back x hx
      simp only [PT.dpost, List.mem_append, List.mem_singleton] at hx
      rcases hx with h | rfl
      · have := ia back x h; simp [PT.size]; omega
      · exact Nat.le_refl _
    | gr k a ia =>
      intro back x hx
      simp only [PT.dpost, List.mem_append, List.mem_singleton] at hx
      rcases hx with h | rfl
      · have := ia back x h; simp [PT.size]; omega
      · exact Nat.le_refl _
    | lk ahead pos a ia =>
      intro back x hx
      simp only [PT.dpost, List.mem_append, List.mem_singleton] at hx
      rcases hx with h | rfl
      · have := ia (!ahead) x h; simp [PT.size]; omega
      · exact Nat.le_refl _
    | st c => intro back x hx; simp only [PT.dpost, List.mem_singleton] at hx; subst hx; exact Nat.le_refl _
    | em => intro back x hx; simp only [PT.dpost, List.mem_singleton] at hx; subst hx; exact Nat.le_refl _
    | an nm => intro back x hx; simp only [PT.dpost, List.mem_singleton] at hx; subst hx; exact Nat.le_refl _
  have lp := loopF_fold (f := forB (cbOf tb (n + 5)) (.tp [4, 5]) mpB) (ch := none) (ks := [4, 5, 6]) (n0 := 2) (fun _ : FM.PS => [.dt (ptD T), .dt (.bool back), .mu 0, .mu 1, .un, .un, .un, .un]) (fun s => [.lst (rwsD s.1), .lst (ixD s.2)]) FM.pStep (fun x => .dt (dpD x)) (fun s xs => FM.Fine s.2.length xs ∧ s.1.length + (xs.map fun x => x.1.addN).sum ≤ 800000 ∧ s.2.length + xs.length ≤ 800000 ∧ ∀ x ∈ xs, x.1.size ≤ T.size) (fun s x xs hi => by
    obtain ⟨h1, h2, h3, h4⟩ := hi
    obtain ⟨hk, hf⟩ := h1
    simp only [List.map_cons, List.sum_cons, List.length_cons] at h2 h3
    obtain ⟨rows, dn⟩ := s
    obtain ⟨P, bk⟩ := x
    simp only at hk hf h2 h3
    have hx := h4 _ List.mem_cons_self
    simp only at hx
    have hbl : (dn.drop (dn.length - P.kids.length)).length = P.kids.length := by rw [List.length_drop]; omega
    have htl : (dn.take (dn.length - P.kids.length)).length = dn.length - P.kids.length := by rw [List.length_take]; omega
    have ht := mp_turn (n := n) (a := .dt (ptD T)) (b := .dt (.bool back)) (back := bk) (rows := rows) (d0 := dn.take (dn.length - P.kids.length)) hbl (by omega) (by omega) (by omega)
    rw [List.take_append_drop] at ht
    have hal := FM.add_len (T := P) (back := bk) (o := rows.length) hbl
    refine ⟨⟨?_, ?_, ?_, fun y hy => h4 y (List.mem_cons_of_mem _ hy)⟩, [.dt (ptD T), .dt (.bool back), .mu 0, .mu 1, .dt (ptD P), .dt (.bool bk), .mu 2, .un], [.lst (rwsD (rows ++ P.add bk (dn.drop (dn.length - P.kids.length)) rows.length)), .lst (ixD (dn.take (dn.length - P.kids.length) ++ [rows.length + P.addN - 1])), .lst (ixD (dn.drop (dn.length - P.kids.length)))], .inl ?_, rfl, ?_, trivial⟩
    · simp only [FM.pStep, List.length_append, htl, List.length_cons, List.length_nil]
      exact hf
    · simp only [FM.pStep, List.length_append, hal]
      omega
    · simp only [FM.pStep, List.length_append, htl, List.length_cons, List.length_nil]
      omega
    · simp only [dpD, forB_tp, List.length_cons, List.length_nil, if_true]
      exact ht
    · simp [FM.pStep]) (T.dpost back) ([], []) ⟨by
        have := FM.fine_post T back 0 [] trivial
        rw [List.append_nil] at this
        exact this, by
        rw [FM.addN_sum]
        simpa using hr, by
        rw [FM.dpost_len]
        simpa using hs, fun x hx => hsz T back x hx⟩
  have l1 := lp.1
  rw [FM.fold_plan] at l1
  have e3 : (dpsD (T.dpost back)).map En.dt = (T.dpost back).map fun x => .dt (dpD x) := by simp [dpsD]
  rw [← e3] at l1
  simp only [List.nil_append, List.length_nil, Nat.zero_add] at l1
  have er : rwsD [] = [] := rfl
  have ei : ixD [] = [] := rfl
  rw [er, ei] at l1
  rw [ex_for]
  simp [hd]
  exact l1

open FM (PT Ch Ws Rw Sol InL)
/-! changes: which groups, how large -/
theorem clr_lt {m : Nat} {gs : List Nat} (h : ∀ g ∈ gs, g < m) : chLt m (FM.clr gs) := by
  cases gs with
  | nil => trivial
  | cons g gs => exact h
theorem both_lt {m : Nat} {x y : Ch} (hx : chLt m x) (hy : chLt m y) : chLt m (FM.both x y) := by
  cases x <;> cases y <;> first | exact hx | exact hy | exact ⟨hx, hy⟩
theorem both_sz (x y : Ch) : chSz (FM.both x y) ≤ chSz x + chSz y + 1 := by
  cases x <;> cases y <;> simp [FM.both, chSz] <;> omega
theorem clr_sz (gs : List Nat) : chSz (FM.clr gs) = 1 := by cases gs <;> rfl
/-- changes of a list of ways: within m groups, of at most s parts -/
def Sml (m s : Nat) (ws : Ws) : Prop := ∀ w ∈ ws, chLt m w.2 ∧ chSz w.2 ≤ s
theorem Sml.up {m s s' : Nat} {ws : Ws} (h : Sml m s ws) (hs : s ≤ s') : Sml m s' ws := fun w hw => ⟨(h w hw).1, Nat.le_trans (h w hw).2 hs⟩
theorem Sml.lnk {m s t : Nat} {xs : Ws} {f : Int → Ws} (hx : Sml m s xs) (hf : ∀ w ∈ xs, Sml m t (f w.1)) : Sml m (s + t + 1) (FM.lnk xs f) := fun w hw => by
  obtain ⟨x, h1, h2⟩ := List.mem_flatMap.mp hw
  obtain ⟨v, h3, rfl⟩ := List.mem_map.mp h2
  refine ⟨both_lt (hx x h1).1 (hf x h1 v h3).1, Nat.le_trans (both_sz _ _) ?_⟩
  have := (hx x h1).2
  have := (hf x h1 v h3).2
  omega
theorem Sml.once {m s : Nat} {xs : Ws} (h : Sml m s xs) : Sml m s (FM.once xs) := fun w hw => h w (FM.mem_once hw)
theorem Sml.fur {m s : Nat} {g : Bool} {A : Int → Ws} (hA : ∀ p, Sml m s (A p)) : ∀ (k : Nat) (p : Int), Sml m (k * (s + 1) + 1) (FM.furW A g k p)
  | 0, p => fun w hw => by
    cases List.mem_singleton.mp hw
    exact ⟨trivial, by simp [chSz]⟩
  | k + 1, p => by
    have ih := fun p => Sml.fur (g := g) hA k p
    have hl : Sml m (s + (k * (s + 1) + 1) + 1) (FM.lnk ((A p).filter fun w => w.1 != p) (FM.furW A g k)) := Sml.lnk (fun w hw => hA p w (List.mem_filter.mp hw).1) fun w _ => ih w.1
    have hp : Sml m 1 [(p, Ch.no)] := fun w hw => by
      cases List.mem_singleton.mp hw
      exact ⟨trivial, by simp [chSz]⟩
    have e : s + (k * (s + 1) + 1) + 1 = (k + 1) * (s + 1) + 1 := by rw [Nat.succ_mul]; omega
    rw [e] at hl
    intro w hw
    change w ∈ FM.furS g p (A p) (FM.furW A g k) at hw
    unfold FM.furS at hw
    split at hw
    · rcases List.mem_append.mp hw with h | h
      · exact hl.once w h
      · exact hp.up (by omega) w h
    · have h := FM.mem_once hw
      rcases List.mem_cons.mp h with h | h
      · exact hp.up (by omega) w (List.mem_singleton.mpr h)
      · exact hl w h
theorem Sml.seq {m s t : Nat} {A F : Int → Ws} (hA : ∀ p, Sml m s (A p)) (hF : ∀ p, Sml m t (F p)) : ∀ (k : Nat) (p : Int), Sml m (k * (s + 1) + t) (FM.seqN A F k p)
  | 0, p => (hF p).up (by omega)
  | k + 1, p => by
    have h := Sml.lnk (hA p) fun w _ => Sml.seq hA hF k w.1
    exact (Sml.once (h.up (by rw [Nat.succ_mul]; omega)))
def csz (L : Nat) : PT → Nat
  | .sq a b => csz L a + csz L b + 1
  | .ch a b => csz L a + csz L b
  | .rp a lo more _ => (lo + more.getD (L + 1)) * (csz L a + 3) + 1
  | .gr _ a => csz L a + 2
  | .lk _ _ a => csz L a + 3
  | _ => 1
theorem sml_iter {m s : Nat} {gs : List Nat} {ws : Ws} (hg : ∀ g ∈ gs, g < m) (h : Sml m s ws) : Sml m (s + 2) (FM.iterW gs ws) := fun w hw => by
  obtain ⟨x, h1, rfl⟩ := List.mem_map.mp hw
  refine ⟨both_lt (clr_lt hg) (h x h1).1, Nat.le_trans (both_sz _ _) ?_⟩
  rw [clr_sz]
  have := (h x h1).2
  omega
theorem srt_mem {gs : List Nat} {g : Nat} (h : g ∈ FM.srtN gs) : g ∈ gs := (FM.srtN_perm gs).mem_iff.mp h
theorem sml_W {m : Nat} {cs : List Int} : ∀ (T : PT) (back : Bool) (p : Int), (∀ g ∈ T.grs, g < m) → Sml m (csz cs.length T) (T.W cs back p)
  | .st c, back, p, _ => fun w hw => by
    have : w.2 = .no := by
      unfold PT.W FM.setW at hw
      split at hw
      · split at hw
        · cases List.mem_singleton.mp hw; rfl
        · cases hw
      · cases hw
    rw [this]
    exact ⟨trivial, by simp [chSz, csz]⟩
  | .em, back, p, _ => fun w hw => by
    cases List.mem_singleton.mp hw
    exact ⟨trivial, by simp [chSz, csz]⟩
  | .an nm, back, p, _ => fun w hw => by
    unfold PT.W at hw
    split at hw
    · cases List.mem_singleton.mp hw
      exact ⟨trivial, by simp [chSz, csz]⟩
    · cases hw
  | .sq a b, back, p, h => by
    have ga : ∀ g ∈ a.grs, g < m := fun g hg => h g (List.mem_append_left _ hg)
    have gb : ∀ g ∈ b.grs, g < m := fun g hg => h g (List.mem_append_right _ hg)
    unfold PT.W FM.chain
    split
    · exact (Sml.lnk (sml_W b back p gb) fun w _ => sml_W a back w.1 ga).once.up (by simp [csz]; omega)
    · exact (Sml.lnk (sml_W a back p ga) fun w _ => sml_W b back w.1 gb).once.up (by simp [csz])
  | .ch a b, back, p, h => fun w hw => by
    have ga : ∀ g ∈ a.grs, g < m := fun g hg => h g (List.mem_append_left _ hg)
    have gb : ∀ g ∈ b.grs, g < m := fun g hg => h g (List.mem_append_right _ hg)
    rcases List.mem_append.mp (FM.mem_once hw) with h1 | h1
    · exact (sml_W a back p ga).up (by simp [csz]) w h1
    · exact (sml_W b back p gb).up (by simp [csz]) w h1
  | .rp a lo more g, back, p, h => by
    have hi : ∀ q, Sml m (csz cs.length a + 2) (FM.iterW (FM.srtN a.grs) (a.W cs back q)) := fun q => sml_iter (fun g hg => h g (srt_mem hg)) (sml_W a back q h)
    have hf := fun q => Sml.fur (g := g) hi (more.getD (cs.length + 1)) q
    have := Sml.seq hi hf lo p
    refine this.up ?_
    have e : csz cs.length a + 2 + 1 = csz cs.length a + 3 := rfl
    rw [e]
    simp only [csz]
    rw [Nat.add_mul]
    omega
  | .gr k a, back, p, h => fun w hw => by
    obtain ⟨x, h1, rfl⟩ := List.mem_map.mp hw
    have := sml_W a back p (fun g hg => h g (List.mem_cons_of_mem _ hg)) x h1
    refine ⟨both_lt this.1 (h k List.mem_cons_self), Nat.le_trans (both_sz _ _) ?_⟩
    simp only [chSz, csz]
    omega
  | .lk ahead pos a, back, p, h => fun w hw => by
    have hi := sml_W (cs := cs) a (!ahead) p h
    unfold PT.W at hw
    cases hx : a.W cs (!ahead) p with
    | nil =>
      rw [hx] at hw
      cases pos <;> simp [FM.lookW] at hw
      subst hw
      exact ⟨trivial, by simp [chSz, csz]⟩
    | cons x xs =>
      rw [hx] at hw hi
      cases pos <;> simp [FM.lookW] at hw
      subst hw
      refine ⟨both_lt (clr_lt fun g hg => h g (srt_mem hg)) (hi x List.mem_cons_self).1, Nat.le_trans (both_sz _ _) ?_⟩
      rw [clr_sz]
      have := (hi x List.mem_cons_self).2
      simp only [csz]
      omega
/-! ### the finder of a tree -/
def codesT (t : Str) : List Int := t.cps.toList.map fun (c : Nat) => (c : Int)
theorem ok_finI {n : Nat} {T : PT} {t : Str} {back : Bool} (hs : T.size ≤ 800000) (hr : T.rowsN ≤ 800000) (ht : t.length ≤ 1000) : run tb (n + 7) f_Finder___init__ [.mu 0, .dt (ptD T), .dt (.str t), .dt (.bool back)] [.obj 0 []] = .ok (.v .none) (FS (T.plan back 0) (codesT t) []) := by
  rw [run_Finder___init__]
  refine run_of (fl := .nx [.mu 0, .dt (ptD T), .dt (.str t), .dt (.bool back), .un] (FS (T.plan back 0) (codesT t) [])) rfl ?_ (by unfold FS finC; simp)
  show exec (cbOf tb (n + 6)) body_Finder___init__ [.mu 0, .dt (ptD T), .dt (.str t), .dt (.bool back), .un] _ = _
  unfold body_Finder___init__
  have hp := ok_make_plan (n := n) (back := back) hs hr
  have hl : t.cps.toList.length ≤ 1000 := by simpa [Str.length] using ht
  have lp := lcF_filt (t := lcT (cbOf tb (n + 6)) .none) (f := lcE (cbOf tb (n + 6)) (.bi .ord (.cons (.var 4) .nil))) (b := bindE (.nm 4)) (ch := none) (n0 := 1) (ρ := [.mu 0, .dt (ptD T), .dt (.str t), .dt (.bool back), .un]) (S := [.obj 0 [("rows", .dt (.list (rwsD (T.plan back 0))))]]) (fun c : Nat => .dt (.str ⟨#[c]⟩)) (fun _ => true) (fun c : Nat => .int (c : Int)) trivial (by simp) t.cps.toList [] (by simp only [big, List.length_nil]; omega) (fun c _ => by
    refine ⟨[.mu 0, .dt (ptD T), .dt (.str t), .dt (.bool back), .dt (.str ⟨#[c]⟩)], rfl, by simp, fun _ => ⟨.v (.int (c : Int)), ?_, rfl⟩⟩
    have h1 : (⟨#[c]⟩ : Str).length = 1 := rfl
    simp [h1])
  rw [filt_true fun _ _ => rfl, List.nil_append] at lp
  have e1 : t.cps.toList.map (fun c : Nat => PyData.int (c : Int)) = csD (codesT t) := by simp [csD, codesT]
  rw [e1] at lp
  have b1 : t.cps.toList.length ≤ 16000000 := by omega
  have b2 : t.cps.size ≤ 16000000 := by simpa using b1
  refine seq_nx (ρ1 := [.mu 0, .dt (ptD T), .dt (.str t), .dt (.bool back), .un]) (S1 := [.obj 0 [("rows", .dt (.list (rwsD (T.plan back 0))))]]) (by simp [hp]) ?_
  refine seq_nx (ρ1 := [.mu 0, .dt (ptD T), .dt (.str t), .dt (.bool back), .un]) (S1 := [.obj 0 [("rows", .dt (.list (rwsD (T.plan back 0)))), ("codes", .dt (.list (csD (codesT t))))]]) ?_ ?_
  · simp only [ex_setf, evE_lc, evI_sq, evE_var]
    simp [b2, big, wipeR]
    simp [lp]
  · unfold FS finC
    simp [kvD]
theorem plan_anc : ∀ (T : PT) (back : Bool) (o : Nat), (∀ nm, PT.an nm ∈ T.post → Anc nm) → ∀ nm, Rw.an nm ∈ T.plan back o → Anc nm
  | .st c, back, o, h, nm, hm => by simp [PT.plan] at hm
  | .em, back, o, h, nm, hm => by simp [PT.plan] at hm
  | .an x, back, o, h, nm, hm => by
    have : nm = x := by simpa [PT.plan] using hm
    subst this
    exact h nm (by simp [PT.post])
  | .sq a b, back, o, h, nm, hm => by
    simp only [PT.plan, List.mem_append, List.mem_singleton] at hm
    rcases hm with (hm | hm) | hm
    · exact plan_anc a back _ (fun nm h' => h nm (by simp [PT.post, h'])) nm hm
    · exact plan_anc b back _ (fun nm h' => h nm (by simp [PT.post, h'])) nm hm
    · cases back <;> simp at hm
  | .ch a b, back, o, h, nm, hm => by
    simp only [PT.plan, List.mem_append, List.mem_singleton] at hm
    rcases hm with (hm | hm) | hm
    · exact plan_anc a back _ (fun nm h' => h nm (by simp [PT.post, h'])) nm hm
    · exact plan_anc b back _ (fun nm h' => h nm (by simp [PT.post, h'])) nm hm
    · cases hm
  | .rp a lo more g, back, o, h, nm, hm => by
    simp only [PT.plan, List.mem_append, List.mem_singleton] at hm
    rcases hm with (hm | hm) | hm
    · exact plan_anc a back _ (fun nm h' => h nm (by simp [PT.post, h'])) nm hm
    · cases hm
    · have hf : ∀ (a o k : Nat), Rw.an nm ∉ FM.furR a o g k := fun a o k => by
        induction k with
        | zero => simp [FM.furR]
        | succ k ih => simp [FM.furR, ih]
      have hq : ∀ (a o k : Nat), Rw.an nm ∉ FM.seqR a o k := fun a o k => by
        induction k with
        | zero => simp [FM.seqR]
        | succ k ih => simp [FM.seqR, ih]
      cases more <;> simp [FM.repR, hf, hq] at hm
  | .gr k a, back, o, h, nm, hm => by
    simp only [PT.plan, List.mem_append, List.mem_singleton] at hm
    rcases hm with hm | hm
    · exact plan_anc a back _ (fun nm h' => h nm (by simp [PT.post, h'])) nm hm
    · cases hm
  | .lk ahead pos a, back, o, h, nm, hm => by
    simp only [PT.plan, List.mem_append, List.mem_singleton] at hm
    rcases hm with hm | hm
    · exact plan_anc a (!ahead) _ (fun nm h' => h nm (by simp [PT.post, h'])) nm hm
    · cases hm
/-- a tree that can be asked -/
structure Good (T : PT) (cs : List Int) : Prop where
  sz : T.size ≤ 100000
  rw : T.rowsN * (cs.length + 1) < 700000
  tx : cs.length ≤ 300
  hg : T.hgt cs.length * (cs.length + 4) ≤ 800000
  an : ∀ nm, PT.an nm ∈ T.post → Anc nm
  cz : csz cs.length T < 900000
theorem ok_solved {n : Nat} {T : PT} {back : Bool} {cs : List Int} {p : Int} (G : Good T cs) (hp : InL cs p) : ∃ K', run tb (n + 6) f_Finder__solved [.mu 0, .dt (.int p)] (FS (T.plan back 0) cs []) = .ok (.v (.list (wsD (T.W cs back p)))) (FS (T.plan back 0) cs K') := by
  have hpos := FM.plan_pos T back 0
  have hlen := FM.plan_len T back 0
  obtain ⟨R, hR⟩ : ∃ R, R = T.plan back 0 := ⟨_, rfl⟩
  have hsol := FM.root_sol (cs := cs) T back hp
  rw [← hR] at hsol hpos hlen ⊢
  have hA : ∀ (i : Nat) (nm : String), R[i]? = some (Rw.an nm) → Anc nm := fun i nm h => plan_anc T back 0 G.an nm (by rw [← hR]; exact List.mem_of_getElem? h)
  obtain ⟨K', k1, k2, k3, k4⟩ := solve (n := n) (a := .dt (.int p)) (b := .dt (goD (R.length - 1, p))) hA G.tx (by rw [hlen]; exact Nat.lt_trans G.rw (by omega)) _ _ _ _ hsol [] [] ⟨.nil, nofun⟩ (by have := G.hg; simp; omega)
  refine ⟨K', ?_⟩
  rw [run_Finder__solved]
  refine run_of (fl := .rt (.v (.list (wsD (T.W cs back p)))) (SS R cs K' [])) rfl ?_ (by unfold SS FS finC; simp)
  show exec (cbOf tb (n + 5)) body_Finder__solved [.mu 0, .dt (.int p), .un, .un, .un, .un, .un] _ = _
  unfold body_Finder__solved
  have hz : ((R.length - 1 : Nat) : Int) = (R.length : Int) - 1 := by omega
  have b0 : (rwsD R).length = R.length := by simp [rwsD]
  refine seq_nx (ρ1 := [.mu 0, .dt (.int p), .dt (goD (R.length - 1, p)), .un, .un, .un, .un]) (S1 := FS R cs []) ?_ ?_
  · unfold FS finC goD
    simp [b0, big, hz]
  refine seq_nx (ρ1 := sRho (.dt (.int p)) (.dt (goD (R.length - 1, p)))) (S1 := SS R cs [] [(R.length - 1, p)]) ?_ ?_
  · unfold FS finC SS sRho
    simp [big, glD, finC]
  refine seq_nx (ρ1 := sRho (.dt (.int p)) (.dt (goD (R.length - 1, p)))) (S1 := SS R cs K' []) ?_ ?_
  · rw [ex_whl]
    rw [List.nil_append] at k4
    exact k4.done (by unfold sRho SS; simp [glD])
  · have hk := kget k3
    simp only [sRho, SS, goD, finC]
    simp [hk]
theorem ok_ways_from {n : Nat} {T : PT} {back : Bool} {cs : List Int} {p : Int} {h : List PyData} (G : Good T cs) (hp : InL cs p) (hg : ∀ g ∈ T.grs, g < h.length) : ∃ K', run tb (n + 7) f_Finder_ways_from [.mu 0, .dt (.int p), .dt (.tuple h)] (FS (T.plan back 0) cs []) = .ok (.nw (.lst ((T.W cs back p).map fun w => .tuple [.int w.1, .tuple (ap w.2 h)]))) (FS (T.plan back 0) cs K') := by
  obtain ⟨K', hs⟩ := ok_solved (n := n) (back := back) G hp
  refine ⟨K', ?_⟩
  rw [run_Finder_ways_from]
  refine run_of (fl := .rt (.nw (.lst ((T.W cs back p).map fun w => .tuple [.int w.1, .tuple (ap w.2 h)]))) (FS (T.plan back 0) cs K')) rfl ?_ (by unfold FS finC; simp)
  show exec (cbOf tb (n + 6)) body_Finder_ways_from [.mu 0, .dt (.int p), .dt (.tuple h), .un, .un] _ = _
  unfold body_Finder_ways_from
  have hsm := sml_W (m := h.length) (cs := cs) T back p hg
  have hwl : (T.W cs back p).length ≤ cs.length + 1 := by
    refine FM.ends_len (FM.W_nodup T back p hp.1 hp.2) fun w hw => ?_
    have := FM.W_rng T back p hp.1 hp.2 w hw
    exact ⟨this.1, this.2.1⟩
  have htx := G.tx
  generalize T.W cs back p = ws at *
  have lp := lcF_filt (t := lcT (cbOf tb (n + 6)) .none) (f := lcE (cbOf tb (n + 6)) (.tup (.cons (.var 3) (.cons (.call f_changed (.cons (.var 2) (.cons (.var 4) .nil))) .nil)))) (b := bindE (.tp [3, 4])) (ch := none) (n0 := 2) (ρ := [.mu 0, .dt (.int p), .dt (.tuple h), .un, .un]) (S := FS (T.plan back 0) cs K') (fun w : Int × Ch => .dt (wD w)) (fun _ => true) (fun w => .tuple [.int w.1, .tuple (ap w.2 h)]) trivial (by simp [FS]) ws [] (by simp [big]; omega) (fun w hw => by
    have hc := ok_changed (n := n + 5) (c := w.2) (h := h) (hsm w hw).1 (Nat.lt_of_le_of_lt (hsm w hw).2 G.cz)
    refine ⟨[.mu 0, .dt (.int p), .dt (.tuple h), .dt (.int w.1), .dt (chD w.2)], rfl, by simp, fun _ => ⟨.v (.tuple [.int w.1, .tuple (ap w.2 h)]), ?_, rfl⟩⟩
    unfold FS finC
    simp [hc, big])
  rw [filt_true fun _ _ => rfl, List.nil_append] at lp
  have e3 : (wsD ws).map En.dt = ws.map fun w => .dt (wD w) := by simp [wsD]
  have b1 : ws.length ≤ 16000000 := by omega
  have b2 : (wsD ws).length ≤ 16000000 := by simp [wsD]; omega
  unfold FS finC at hs lp ⊢
  simp [hs, e3, b1, b2, big, wipeR] at lp ⊢
  simp [lp]
/-- the ways of a tree, with what the groups hold -/
def gwD (w : Int × List PyData) : PyData := .tuple [.int w.1, .tuple w.2]
theorem ok_ways {n : Nat} {T : PT} {back : Bool} {t : Str} {p : Int} {h : List PyData} (G : Good T (codesT t)) (hp : InL (codesT t) p) (hg : ∀ g ∈ T.grs, g < h.length) : run tb (n + 9) f_ways [.dt (ptD T), .dt (.str t), .dt (.int p), .dt (.tuple h), .dt (.bool back)] [] = .ok (.nw (.lst ((FM.wg prD .none (T.W (codesT t) back p) h).map gwD))) [] := by
  have hl : t.length ≤ 1000 := by
    have := G.tx
    simp [codesT] at this
    show t.cps.size ≤ _
    omega
  have hi := ok_finI (n := n) (back := back) (Nat.le_trans G.sz (by omega)) (by have := G.rw; have h1 : T.rowsN ≤ T.rowsN * ((codesT t).length + 1) := Nat.le_mul_of_pos_right _ (by omega); omega) hl
  obtain ⟨K', hw⟩ := ok_ways_from (n := n + 1) (back := back) G hp hg
  rw [run_ways]
  have e : (FM.wg prD .none (T.W (codesT t) back p) h).map gwD = (T.W (codesT t) back p).map fun w => .tuple [.int w.1, .tuple (ap w.2 h)] := by
    unfold FM.wg
    rw [List.map_map]
    rfl
  rw [e]
  refine run_of (fl := .rt (.nw (.lst ((T.W (codesT t) back p).map fun w => .tuple [.int w.1, .tuple (ap w.2 h)]))) (FS (T.plan back 0) (codesT t) K')) rfl ?_ (by unfold FS finC; simp)
  show exec (cbOf tb (n + 8)) body_ways [.dt (ptD T), .dt (.str t), .dt (.int p), .dt (.tuple h), .dt (.bool back)] _ = _
  unfold body_ways
  generalize (T.W (codesT t) back p).map (fun w => PyData.tuple [.int w.1, .tuple (ap w.2 h)]) = X at *
  unfold FS finC at hi hw ⊢
  simp [hi, hw]

open FM (PT Ch Ws Rw Sol InL)
/-! ### pattern trees that a script draws -/
def stX (s : St2) (xs : List PyData) : Cell := .lst (.int s.1 :: .int s.2 :: xs)
def cdL : List PyData := [cD [], cD [(0, 128)], cD [(48, 58), (65, 91), (95, 96), (97, 123)], cD [(10, 11), (13, 14)]]
theorem ok_codes2 {n : Nat} {ns : List Int} {s : St2} {xs : List PyData} (ho : okS s) : ∃ c s', okS s' ∧ c.length ≤ 4 ∧ run tb (n + 3) f__law_codes [.dt (scr ns), .mu 0] [stX s xs] = .ok (.v (cD c)) [stX s' xs] := by
  have h0 := ok_digX (n := n) (ns := ns) (m := 16) (xs := xs) ho (by omega) (by omega)
  have o1 := dgS_ok (ns := ns) (m := 16) ho (by omega)
  have n1 := dg_nn (ns := ns) (s := s) (m := 16) (by omega)
  have l1 := dg_lt (ns := ns) (s := s) (m := 16) (by omega)
  rw [run__law_codes]
  generalize dg ns s 16 = k at *
  generalize dgS ns s 16 = s1 at *
  have go : ∀ c s', okS s' → c.length ≤ 4 → exec (cbOf tb (n + 2)) body__law_codes [.dt (scr ns), .mu 0, .un, .un, .un, .un, .un] [stX s xs] = .rt (.v (cD c)) [stX s' xs] → ∃ c s', okS s' ∧ c.length ≤ 4 ∧ runF (cbOf tb (n + 2)) fd__law_codes [.dt (scr ns), .mu 0] [stX s xs] = .ok (.v (cD c)) [stX s' xs] := fun c s' h1 h2 h3 => ⟨c, s', h1, h2, run_of rfl h3 (by unfold stX; simp)⟩
  unfold stX at *
  by_cases c1 : k < 9
  · refine go [(97 + k % 3, 97 + k % 3 + 1)] s1 o1 (by simp) ?_
    unfold body__law_codes
    simp [h0, c1, big, cD, encP]
  by_cases c2 : k < 11
  · refine go [(97, 99 + k - 9)] s1 o1 (by simp) ?_
    unfold body__law_codes
    simp [h0, c1, c2, big, cD, encP]
  by_cases c3 : k = 11
  · subst c3
    refine go [(0, 10), (11, 13), (14, 128)] s1 o1 (by simp) ?_
    unfold body__law_codes
    simp [h0, big, cD, encP]
  by_cases c4 : k = 12
  · subst c4
    have h1 := ok_digX (n := n) (ns := ns) (m := 4) (xs := xs) o1 (by omega) (by omega)
    obtain ⟨d, hd, hd2⟩ := atI_in (l := cdL) (dg_nn (ns := ns) (s := s1) (m := 4) (by omega)) (dg_lt (by omega))
    have hc : ∃ c : List (Int × Int), c.length ≤ 4 ∧ d = cD c := by
      unfold cdL at hd2
      simp only [List.mem_cons, List.not_mem_nil, or_false] at hd2
      rcases hd2 with rfl | rfl | rfl | rfl <;> exact ⟨_, by simp, rfl⟩
    obtain ⟨c, hc, rfl⟩ := hc
    refine go c _ (dgS_ok (ns := ns) (m := 4) o1 (by omega)) hc ?_
    unfold cdL at hd
    simp only [cD, encP, List.map_cons, List.map_nil] at hd
    unfold body__law_codes
    simp [h0, h1, hd, big, cD]
  by_cases c5 : k = 13
  · subst c5
    have h1 := ok_digX (n := n) (ns := ns) (m := 60) (xs := xs) o1 (by omega) (by omega)
    have o2 := dgS_ok (ns := ns) (m := 60) o1 (by omega)
    have h2 := ok_digX (n := n) (ns := ns) (m := 30) (xs := xs) o2 (by omega) (by omega)
    have o3 := dgS_ok (ns := ns) (m := 30) o2 (by omega)
    have h3 := ok_digX (n := n) (ns := ns) (m := 20) (xs := xs) o3 (by omega) (by omega)
    have o4 := dgS_ok (ns := ns) (m := 20) o3 (by omega)
    have h4 := ok_digX (n := n) (ns := ns) (m := 17) (xs := xs) o4 (by omega) (by omega)
    have o5 := dgS_ok (ns := ns) (m := 17) o4 (by omega)
    generalize dgS ns (dgS ns (dgS ns (dgS ns s1 60) 30) 20) 17 = s5 at *
    generalize dg ns (dgS ns (dgS ns (dgS ns s1 60) 30) 20) 17 = g4 at *
    generalize dgS ns (dgS ns (dgS ns s1 60) 30) 20 = s4 at *
    generalize dg ns (dgS ns (dgS ns s1 60) 30) 20 = g3 at *
    generalize dgS ns (dgS ns s1 60) 30 = s3 at *
    generalize dg ns (dgS ns s1 60) 30 = g2 at *
    generalize dgS ns s1 60 = s2 at *
    generalize dg ns s1 60 = g1 at *
    refine go [(g1, g1 + 1 + g2), (g1 + 1 + g2 + 1 + g3, g1 + 1 + g2 + 1 + g3 + 1 + g4)] s5 o5 (by simp) ?_
    unfold body__law_codes
    simp [h0, h1, h2, h3, h4, big, cD, encP]
  have h1 := ok_digX (n := n) (ns := ns) (m := 128) (xs := xs) o1 (by omega) (by omega)
  have n2 := dg_nn (ns := ns) (s := s1) (m := 128) (by omega)
  have l2 := dg_lt (ns := ns) (s := s1) (m := 128) (by omega)
  have o2 := dgS_ok (ns := ns) (m := 128) o1 (by omega)
  have h2 := ok_digX (n := n) (ns := ns) (m := 128 - dg ns s1 128) (xs := xs) o2 (by omega) (by omega)
  have o3 := dgS_ok (ns := ns) (m := 128 - dg ns s1 128) o2 (by omega)
  refine go [(dg ns s1 128, dg ns s1 128 + 1 + dg ns (dgS ns s1 128) (128 - dg ns s1 128))] _ o3 (by simp) ?_
  unfold body__law_codes
  simp [h0, h1, h2, c1, c2, c3, c4, c5, big, cD, encP]
/-- trees of at most d levels above their leaves -/
def Lim : Nat → PT → Prop
  | _, .st c => c.length ≤ 4
  | _, .em => True
  | _, .an nm => Anc nm
  | 0, _ => False
  | d + 1, .sq a b => Lim d a ∧ Lim d b
  | d + 1, .ch a b => Lim d a ∧ Lim d b
  | d + 1, .rp a lo more _ => Lim d a ∧ lo ≤ 2 ∧ more.getD 0 ≤ 2
  | d + 1, .gr _ a => Lim d a
  | d + 1, .lk _ _ a => Lim d a
theorem lim_leaf {d : Nat} {T : PT} (h : Lim 0 T) : Lim d T := by
  cases T <;> simp only [Lim] at h <;> cases d <;> simpa [Lim] using h
def anL : List PyData := [.str "text_start", .str "text_end", .str "line_start", .str "line_end", .str "word_boundary", .str "no_word_boundary"]
theorem ok_leaf2 {n : Nat} {ns : List Int} {s : St2} {k : Int} {xs : List PyData} (ho : okS s) : ∃ T s', okS s' ∧ Lim 0 T ∧ T.grs = [] ∧ run tb (n + 4) f__law_leaf [.dt (scr ns), .mu 0, .dt (.int k)] [stX s xs] = .ok (.v (ptD T)) [stX s' xs] := by
  rw [run__law_leaf]
  have go : ∀ T s', okS s' → Lim 0 T → T.grs = [] → exec (cbOf tb (n + 3)) body__law_leaf [.dt (scr ns), .mu 0, .dt (.int k), .un] [stX s xs] = .rt (.v (ptD T)) [stX s' xs] → ∃ T s', okS s' ∧ Lim 0 T ∧ T.grs = [] ∧ runF (cbOf tb (n + 3)) fd__law_leaf [.dt (scr ns), .mu 0, .dt (.int k)] [stX s xs] = .ok (.v (ptD T)) [stX s' xs] := fun T s' h1 h2 h3 h4 => ⟨T, s', h1, h2, h3, run_of rfl h4 (by unfold stX; simp)⟩
  by_cases c1 : k < 13
  · obtain ⟨c, s', o', hc, hr⟩ := ok_codes2 (n := n) (ns := ns) (xs := xs) ho
    refine go (.st c) s' o' hc rfl ?_
    unfold body__law_leaf
    unfold stX at hr ⊢
    simp [c1, hr, ptD, big]
  by_cases c2 : k = 13
  · subst c2
    refine go .em s ho trivial rfl ?_
    unfold body__law_leaf stX
    simp [ptD, big]
  have h6 := ok_digX (n := n + 1) (ns := ns) (m := 6) (xs := xs) ho (by omega) (by omega)
  have o6 := dgS_ok (ns := ns) (m := 6) ho (by omega)
  obtain ⟨a, ha, ha2⟩ := atI_in (l := anL) (dg_nn (ns := ns) (s := s) (m := 6) (by omega)) (dg_lt (by omega))
  have hn : ∃ nm, Anc nm ∧ a = .str nm := by
    unfold anL at ha2
    simp only [List.mem_cons, List.not_mem_nil, or_false] at ha2
    rcases ha2 with rfl | rfl | rfl | rfl | rfl | rfl <;> exact ⟨_, by simp [Anc], rfl⟩
  obtain ⟨nm, hn, rfl⟩ := hn
  refine go (.an nm) _ o6 hn rfl ?_
  unfold anL at ha
  unfold body__law_leaf stX
  simp [c1, c2, h6, ha, ptD, big]
/-- groups numbered in order -/
def Cns (g g' : Nat) (l : List Nat) : Prop := g' = g + l.length ∧ l = List.range' g l.length
theorem cns_app {g g2 g3 : Nat} {a b : List Nat} (h : Cns g g2 a) (k : Cns g2 g3 b) : Cns g g3 (a ++ b) := by
  obtain ⟨rfl, h2⟩ := h
  obtain ⟨rfl, k2⟩ := k
  refine ⟨by rw [List.length_append]; omega, ?_⟩
  rw [List.length_append, ← List.range'_append_1, ← h2, ← k2]
theorem cns_cons {g g2 : Nat} {a : List Nat} (h : Cns (g + 1) g2 a) : Cns g g2 (g :: a) := by
  obtain ⟨rfl, h2⟩ := h
  refine ⟨by rw [List.length_cons]; omega, ?_⟩
  rw [List.length_cons, List.range'_succ, ← h2]
theorem ok_tree2 : ∀ (d : Nat) {n : Nat} {ns : List Int} {s : St2} {g l : Nat}, okS s → ∃ (T : PT) (s' : St2) (g' l' : Nat), okS s' ∧ Lim d T ∧ (∀ k ∈ T.grs, k < g') ∧ Cns g g' T.grs ∧ g' ≤ g + 2 ^ (d + 1) ∧ run tb (n + 2 * d + 5) f__law_tree [.dt (scr ns), .mu 0, .dt (.int (d : Int))] [stX s [.int (g : Int), .int (l : Int)]] = .ok (.v (ptD T)) [stX s' [.int (g' : Int), .int (l' : Int)]] := by
  intro d
  induction d with
  | zero =>
    intro n ns s g l ho
    have h0 := ok_digX (n := n + 2) (ns := ns) (m := 15) (xs := [.int (g : Int), .int (l : Int)]) ho (by omega) (by omega)
    have o1 := dgS_ok (ns := ns) (m := 15) ho (by omega)
    generalize dg ns s 15 = k at *
    generalize dgS ns s 15 = s1 at *
    obtain ⟨T, s', o', hT, hg, hr⟩ := ok_leaf2 (n := n) (ns := ns) (k := k) (xs := [.int (g : Int), .int (l : Int)]) o1
    refine ⟨T, s', g, l, o', hT, by rw [hg]; exact nofun, ⟨by rw [hg]; rfl, by rw [hg]; rfl⟩, by omega, ?_⟩
    show run tb (n + 4 + 1) _ _ _ = _
    rw [run__law_tree]
    refine run_of (fl := .rt (.v (ptD T)) [stX s' [.int (g : Int), .int (l : Int)]]) rfl ?_ (by unfold stX; simp)
    show exec (cbOf tb (n + 4)) body__law_tree [.dt (scr ns), .mu 0, .dt (.int 0), .un, .un, .un, .un, .un] _ = _
    unfold body__law_tree
    unfold stX at hr ⊢
    simp [h0, hr]
  | succ d ih =>
    intro n ns s g l ho
    have h0 := ok_digX (n := n + 2 * d + 4) (ns := ns) (m := 15) (xs := [.int (g : Int), .int (l : Int)]) ho (by omega) (by omega)
    have o1 := dgS_ok (ns := ns) (m := 15) ho (by omega)
    have n1 := dg_nn (ns := ns) (s := s) (m := 15) (by omega)
    generalize dg ns s 15 = k at *
    generalize dgS ns s 15 = s1 at *
    have e2 : 2 ^ (d + 1 + 1) = 2 ^ (d + 1) + 2 ^ (d + 1) := by rw [Nat.pow_succ]; omega
    have hp : 0 < 2 ^ (d + 1) := Nat.pow_pos (by omega)
    rw [show n + 2 * (d + 1) + 5 = n + 2 * d + 6 + 1 by omega, run__law_tree]
    have hz : ((d + 1 : Nat) : Int) - 1 = (d : Int) := by omega
    have hz0 : ¬ ((d + 1 : Nat) : Int) = 0 := by omega
    have go : ∀ T s' (g' l' : Nat), okS s' → Lim (d + 1) T → (∀ k ∈ T.grs, k < g') → Cns g g' T.grs → g' ≤ g + 2 ^ (d + 1 + 1) → exec (cbOf tb (n + 2 * d + 6)) body__law_tree [.dt (scr ns), .mu 0, .dt (.int ((d + 1 : Nat) : Int)), .un, .un, .un, .un, .un] [stX s [.int (g : Int), .int (l : Int)]] = .rt (.v (ptD T)) [stX s' [.int (g' : Int), .int (l' : Int)]] →
        ∃ (T : PT) (s' : St2) (g' l' : Nat), okS s' ∧ Lim (d + 1) T ∧ (∀ k ∈ T.grs, k < g') ∧ Cns g g' T.grs ∧ g' ≤ g + 2 ^ (d + 1 + 1) ∧ runF (cbOf tb (n + 2 * d + 6)) fd__law_tree [.dt (scr ns), .mu 0, .dt (.int ((d + 1 : Nat) : Int))] [stX s [.int (g : Int), .int (l : Int)]] = .ok (.v (ptD T)) [stX s' [.int (g' : Int), .int (l' : Int)]] := fun T s' g' l' h1 h2 h3 h4 h5 h6 => ⟨T, s', g', l', h1, h2, h3, h4, h5, run_of rfl h6 (by unfold stX; simp)⟩
    generalize ((d + 1 : Nat) : Int) = e at hz hz0 go ⊢
    by_cases c1 : k = 0 ∨ k = 14
    · obtain ⟨T, s', o', hT, hg, hr⟩ := ok_leaf2 (n := n + 2 * d + 2) (ns := ns) (k := k) (xs := [.int (g : Int), .int (l : Int)]) o1
      refine go T s' g l o' (lim_leaf hT) (by rw [hg]; exact nofun) ⟨by rw [hg]; rfl, by rw [hg]; rfl⟩ (by omega) ?_
      have hr' : run tb (n + 2 * d + 6) f__law_leaf [.dt (scr ns), .mu 0, .dt (.int k)] [stX s1 [.int (g : Int), .int (l : Int)]] = .ok (.v (ptD T)) [stX s' [.int (g : Int), .int (l : Int)]] := hr
      unfold body__law_tree
      unfold stX at hr' ⊢
      rcases c1 with rfl | rfl <;> simp [h0, hz0, hr']
    have c1a : ¬ k = 0 := fun z => c1 (.inl z)
    have c1b : ¬ k = 14 := fun z => c1 (.inr z)
    by_cases c2 : k < 5
    · obtain ⟨A, s2, g2, l2, o2, lA, gA, ⟨q1, r1⟩, q2, ha⟩ := ih (n := n + 1) (ns := ns) (s := s1) (g := g) (l := l) o1
      obtain ⟨B, s3, g3, l3, o3, lB, gB, ⟨q3, r3⟩, q4, hb⟩ := ih (n := n + 1) (ns := ns) (s := s2) (g := g2) (l := l2) o2
      rw [show n + 1 + 2 * d + 5 = n + 2 * d + 6 by omega] at ha hb
      refine go (.sq A B) s3 g3 l3 o3 ⟨lA, lB⟩ (fun k hk => ?_) (cns_app ⟨q1, r1⟩ ⟨q3, r3⟩) (by omega) ?_
      · rcases List.mem_append.mp hk with h | h
        · have := gA k h; omega
        · exact gB k h
      unfold body__law_tree
      unfold stX at ha hb ⊢
      simp [h0, hz0, hz, c1a, c1b, c2, ha, hb, ptD, big]
    by_cases c3 : k < 8
    · obtain ⟨A, s2, g2, l2, o2, lA, gA, ⟨q1, r1⟩, q2, ha⟩ := ih (n := n + 1) (ns := ns) (s := s1) (g := g) (l := l) o1
      obtain ⟨B, s3, g3, l3, o3, lB, gB, ⟨q3, r3⟩, q4, hb⟩ := ih (n := n + 1) (ns := ns) (s := s2) (g := g2) (l := l2) o2
      rw [show n + 1 + 2 * d + 5 = n + 2 * d + 6 by omega] at ha hb
      refine go (.ch A B) s3 g3 l3 o3 ⟨lA, lB⟩ (fun k hk => ?_) (cns_app ⟨q1, r1⟩ ⟨q3, r3⟩) (by omega) ?_
      · rcases List.mem_append.mp hk with h | h
        · have := gA k h; omega
        · exact gB k h
      unfold body__law_tree
      unfold stX at ha hb ⊢
      simp [h0, hz0, hz, c1a, c1b, c2, c3, ha, hb, ptD, big]
    by_cases c4 : k < 11
    · have rp : ∃ (a : PT) (lo : Nat) (more : Option Nat) (gr : Bool) (s' : St2) (g' l' : Nat), okS s' ∧ Lim d a ∧ lo ≤ 2 ∧ (more : Option Nat).getD 0 ≤ 2 ∧ (∀ k ∈ PT.grs a, k < g') ∧ Cns g g' (PT.grs a) ∧ g' ≤ g + 2 ^ (d + 1) ∧ run tb (n + 2 * d + 6) f__law_repeat [.dt (scr ns), .mu 0, .dt (.int e)] [stX s1 [.int (g : Int), .int (l : Int)]] = .ok (.v (ptD (.rp a lo more gr))) [stX s' [.int (g' : Int), .int (l' : Int)]] := by
        have d1 := ok_digX (n := n + 2 * d + 3) (ns := ns) (m := 3) (xs := [.int (g : Int), .int (l : Int)]) o1 (by omega) (by omega)
        have p1 := dgS_ok (ns := ns) (m := 3) o1 (by omega)
        have a1 := dg_nn (ns := ns) (s := s1) (m := 3) (by omega)
        have b1 := dg_lt (ns := ns) (s := s1) (m := 3) (by omega)
        obtain ⟨lo, hlo⟩ : ∃ lo : Nat, dg ns s1 3 = (lo : Int) := ⟨(dg ns s1 3).toNat, by omega⟩
        rw [hlo] at d1 a1 b1
        generalize dgS ns s1 3 = s2 at *
        have d2 := ok_digX (n := n + 2 * d + 3) (ns := ns) (m := 2) (xs := [.int (g : Int), .int (l : Int)]) p1 (by omega) (by omega)
        have p2 := dgS_ok (ns := ns) (m := 2) p1 (by omega)
        generalize dg ns s2 2 = j at *
        generalize dgS ns s2 2 = s3 at *
        by_cases hj : j = 1
        · subst hj
          have d3 := ok_digX (n := n + 2 * d + 3) (ns := ns) (m := 3) (xs := [.int (g : Int), .int (l : Int)]) p2 (by omega) (by omega)
          have p3 := dgS_ok (ns := ns) (m := 3) p2 (by omega)
          have a3 := dg_nn (ns := ns) (s := s3) (m := 3) (by omega)
          have b3 := dg_lt (ns := ns) (s := s3) (m := 3) (by omega)
          obtain ⟨mo, hmo⟩ : ∃ mo : Nat, dg ns s3 3 = (mo : Int) := ⟨(dg ns s3 3).toNat, by omega⟩
          rw [hmo] at d3 a3 b3
          generalize dgS ns s3 3 = s4 at *
          have d4 := ok_digX (n := n + 2 * d + 3) (ns := ns) (m := 3) (xs := [.int (g : Int), .int (l : Int)]) p3 (by omega) (by omega)
          have p4 := dgS_ok (ns := ns) (m := 3) p3 (by omega)
          generalize dg ns s4 3 = i at *
          generalize dgS ns s4 3 = s5 at *
          obtain ⟨A, s6, g2, l2, o2, lA, gA, ⟨q1, r1⟩, q2, ha⟩ := ih (n := n) (ns := ns) (s := s5) (g := g) (l := l) p4
          refine ⟨A, lo, some mo, decide (0 < i), s6, g2, l2, o2, lA, by omega, by simp; omega, gA, ⟨q1, r1⟩, q2, ?_⟩
          rw [show n + 2 * d + 6 = n + 2 * d + 5 + 1 by omega, run__law_repeat]
          refine run_of (fl := .rt (.v (ptD (.rp A lo (some mo) (decide (0 < i))))) [stX s6 [.int (g2 : Int), .int (l2 : Int)]]) rfl ?_ (by unfold stX; simp)
          show exec (cbOf tb (n + 2 * d + 5)) body__law_repeat [.dt (scr ns), .mu 0, .dt (.int e), .un, .un, .un] _ = _
          unfold body__law_repeat
          unfold stX at ha ⊢
          simp [d1, d2, d3, d4, hz, ha, ptD, big]
        · have d4 := ok_digX (n := n + 2 * d + 3) (ns := ns) (m := 3) (xs := [.int (g : Int), .int (l : Int)]) p2 (by omega) (by omega)
          have p4 := dgS_ok (ns := ns) (m := 3) p2 (by omega)
          generalize dg ns s3 3 = i at *
          generalize dgS ns s3 3 = s5 at *
          obtain ⟨A, s6, g2, l2, o2, lA, gA, ⟨q1, r1⟩, q2, ha⟩ := ih (n := n) (ns := ns) (s := s5) (g := g) (l := l) p4
          refine ⟨A, lo, none, decide (0 < i), s6, g2, l2, o2, lA, by omega, by simp, gA, ⟨q1, r1⟩, q2, ?_⟩
          rw [show n + 2 * d + 6 = n + 2 * d + 5 + 1 by omega, run__law_repeat]
          refine run_of (fl := .rt (.v (ptD (.rp A lo none (decide (0 < i))))) [stX s6 [.int (g2 : Int), .int (l2 : Int)]]) rfl ?_ (by unfold stX; simp)
          show exec (cbOf tb (n + 2 * d + 5)) body__law_repeat [.dt (scr ns), .mu 0, .dt (.int e), .un, .un, .un] _ = _
          unfold body__law_repeat
          unfold stX at ha ⊢
          simp [d1, d2, d4, hj, hz, ha, ptD, big]
      obtain ⟨a, lo, more, gr, s', g', l', q1, q2, q3, q4, q5, q6, q7, hr⟩ := rp
      refine go (.rp a lo more gr) s' g' l' q1 ⟨q2, q3, q4⟩ q5 q6 (by omega) ?_
      unfold body__law_tree
      unfold stX at hr ⊢
      simp [h0, hz0, c1a, c1b, c2, c3, c4, hr]
    by_cases c5 : k < 13 ∨ 2 < (l : Int)
    · obtain ⟨A, s2, g2, l2, o2, lA, gA, ⟨q1, r1⟩, q2, ha⟩ := ih (n := n + 1) (ns := ns) (s := s1) (g := g + 1) (l := l) o1
      rw [show n + 1 + 2 * d + 5 = n + 2 * d + 6 by omega] at ha
      refine go (.gr g A) s2 g2 l2 o2 lA (fun k hk => ?_) (cns_cons ⟨q1, r1⟩) (by omega) ?_
      · rcases List.mem_cons.mp hk with rfl | h
        · omega
        · exact gA k h
      have hg : ((g + 1 : Nat) : Int) = (g : Int) + 1 := by omega
      rw [hg] at ha
      unfold body__law_tree
      unfold stX at ha ⊢
      by_cases c6 : k < 13
      · simp [h0, hz0, hz, c1a, c1b, c2, c3, c4, c6, ha, ptD, big]
      · have c7 : (2 : Int) < l := c5.resolve_left c6
        have c7' : 2 < l := by omega
        simp [h0, hz0, hz, c1a, c1b, c2, c3, c4, c6, c7, c7', ha, ptD, big]
    · have c6 : ¬ k < 13 := fun z => c5 (.inl z)
      have c7 : ¬ (2 : Int) < l := fun z => c5 (.inr z)
      have d1 := ok_digX (n := n + 2 * d + 4) (ns := ns) (m := 2) (xs := [.int (g : Int), .int ((l : Int) + 1)]) o1 (by omega) (by omega)
      have p1 := dgS_ok (ns := ns) (m := 2) o1 (by omega)
      generalize dg ns s1 2 = j at *
      generalize dgS ns s1 2 = s2 at *
      have d2 := ok_digX (n := n + 2 * d + 4) (ns := ns) (m := 3) (xs := [.int (g : Int), .int ((l : Int) + 1)]) p1 (by omega) (by omega)
      have p2 := dgS_ok (ns := ns) (m := 3) p1 (by omega)
      generalize dg ns s2 3 = i at *
      generalize dgS ns s2 3 = s3 at *
      obtain ⟨A, s4, g2, l2, o2, lA, gA, ⟨q1, r1⟩, q2, ha⟩ := ih (n := n + 1) (ns := ns) (s := s3) (g := g) (l := l + 1) p2
      rw [show n + 1 + 2 * d + 5 = n + 2 * d + 6 by omega] at ha
      have hg : ((l + 1 : Nat) : Int) = (l : Int) + 1 := by omega
      rw [hg] at ha
      refine go (.lk (decide (j = 0)) (decide (0 < i)) A) s4 g2 l2 o2 lA gA ⟨q1, r1⟩ (by omega) ?_
      unfold body__law_tree
      unfold stX at ha ⊢
      have c7' : ¬ 2 < l := by omega
      simp [h0, hz0, hz, c1a, c1b, c2, c3, c4, c6, c7, c7', d1, d2, ha, ptD, big]

/-! ### the text of the script -/
def One (d : PyData) : Prop := ∃ x : Str, x.length = 1 ∧ d = .str x
theorem strsD_ones : ∀ {ds : List PyData}, (∀ d ∈ ds, One d) → ∃ ys : List Str, strsD ds = some ys ∧ ys.length = ds.length ∧ ∀ y ∈ ys, y.length = 1
  | [], _ => ⟨[], rfl, rfl, nofun⟩
  | d :: ds, h => by
    obtain ⟨x, hx, rfl⟩ := h d List.mem_cons_self
    obtain ⟨ys, h1, h2, h3⟩ := strsD_ones fun d hd => h d (List.mem_cons_of_mem _ hd)
    refine ⟨x :: ys, by simp [strsD, h1], by simp [h2], fun y hy => ?_⟩
    rcases List.mem_cons.mp hy with rfl | hy
    · exact hx
    · exact h3 _ hy
theorem len_app (a b : Str) : (a ++ b).length = a.length + b.length := by
  show (a.cps ++ b.cps).size = _
  simp [Str.length]
theorem join_len' : ∀ (ys : List Str), (∀ y ∈ ys, y.length = 1) → (PySem.Str.join (Str.ofString "") ys).length = ys.length
  | [], _ => rfl
  | [y], h => h y List.mem_cons_self
  | y :: z :: ys, h => by
    show ((y ++ Str.ofString "") ++ PySem.Str.join (Str.ofString "") (z :: ys)).length = _
    rw [len_app, len_app, join_len' (z :: ys) fun w hw => h w (List.mem_cons_of_mem _ hw), h y List.mem_cons_self, show (Str.ofString "").length = 0 from rfl, List.length_cons, List.length_cons, List.length_cons]
    omega
theorem join_len (ys : List Str) (h : ∀ y ∈ ys, y.length = 1) : (Txt.join (Str.ofString "") ys).length = ys.length := by
  show (Builtin.Str.glued (Str.ofString "") ys).length = _
  rw [PySem.StrLaws.glued_eq_join]
  exact join_len' ys h
theorem sum_ones : ∀ (ys : List Str), (∀ y ∈ ys, y.length = 1) → (ys.map (·.length)).sum = ys.length
  | [], _ => rfl
  | y :: ys, h => by
    rw [List.map_cons, List.sum_cons, sum_ones ys fun w hw => h w (List.mem_cons_of_mem _ hw), h y List.mem_cons_self, List.length_cons, Nat.add_comm]
/-- the store of a state behind which nothing stands -/
def isSX (xs : List PyData) (S : Stv) : Prop := ∃ s, okS s ∧ S = [.lst (.int s.1 :: .int s.2 :: xs)]
theorem text_loopX {n : Nat} {xs : List PyData} {ns : List Int} {x : Str} {m k : Int} {S : Stv} (hx : 0 < x.length) (hx2 : x.length ≤ 1000) (hk : k < 1000) (hs : isSX xs S) : ∃ ds S', lcF (lcT (cbOf tb (n + 2)) .none) (lcE (cbOf tb (n + 2)) (.idx (.var 3) (.call f__law_digit (.cons (.var 0) (.cons (.var 1) (.cons (.bi .len (.cons (.var 3) .nil)) .nil)))))) (bindE (.nm 5)) none 1 [.dt (scr ns), .mu 0, .dt (.int m), .dt (.str x), .dt (.int k), .un] ((rngD 0 k.toNat).map .dt) [] S = .ok ds S' ∧ ds.length = k.toNat ∧ (∀ d ∈ ds, One d) ∧ isSX xs S' := by
  have hstep : ∀ e ∈ (rngD 0 k.toNat).map En.dt, ∀ S, isSX xs S → ∃ ρ1 r S2 d, bindE (.nm 5) e [.dt (scr ns), .mu 0, .dt (.int m), .dt (.str x), .dt (.int k), .un] = some ρ1 ∧ lcT (cbOf tb (n + 2)) .none ρ1 S = .ok true S ∧ lcE (cbOf tb (n + 2)) (.idx (.var 3) (.call f__law_digit (.cons (.var 0) (.cons (.var 1) (.cons (.bi .len (.cons (.var 3) .nil)) .nil))))) ρ1 S = .ok r S2 ∧ rvD r = some d ∧ One d ∧ chk none (trim 1 [.dt (scr ns), .mu 0, .dt (.int m), .dt (.str x), .dt (.int k), .un] S2) ∧ (isSX xs) (trim 1 [.dt (scr ns), .mu 0, .dt (.int m), .dt (.str x), .dt (.int k), .un] S2) := by
    intro e he S hS
    obtain ⟨s, ho, rfl⟩ := hS
    have hm : (0 : Int) < x.length := by omega
    have hd := ok_digX (n := n) (xs := xs) (ns := ns) ho hm (by omega)
    have hl : x.length ≤ 16777216 := by omega
    obtain ⟨c, hc, _⟩ := atI_in (l := x.cps.toList) (dg_nn (ns := ns) (s := s) hm) (dg_lt hm)
    refine ⟨_, .v (.str ⟨#[c]⟩), [.lst (.int (dgS ns s x.length).1 :: .int (dgS ns s x.length).2 :: xs)], .str ⟨#[c]⟩, rfl, ?_, ?_, rfl, ⟨_, rfl, rfl⟩, trivial, ?_⟩
    · simp
    · simp [hd, hl, hc, sizeLine]
    · exact ⟨_, dgS_ok ho hm, rfl⟩
  obtain ⟨ds, S', h1, h2, h3, h4⟩ := lcF_inv (isSX xs) One ((rngD 0 k.toNat).map .dt) [] S hs (by simp [rngD, big]; omega) hstep
  exact ⟨ds, S', h1, by simpa [rngD] using h2, h3, h4⟩
abbrev sgA : Str := Str.ofString " !\"#$&'()*+,-./0123456789:;<=>?@ABCDEFGHIJKLMNOPQRSTUVWXYZ[\\]^_`"
abbrev sgB : Str := Str.ofString "abcdefghijklmnopqrstuvwxyz{|}~\n\t"
theorem sgAB : sgA.length + sgB.length ≤ 16777216 := by decide +kernel
def sgs : List PyData := [.str (Str.ofString "ab"), .str (Str.ofString "abc"), .str (Str.ofString "aab"), .str (Str.ofString "abA_ 1\n-"), .str (Str.ofString "ab\n"), .str (sgA ++ sgB)]
theorem sgs_in {d : PyData} (h : d ∈ sgs) : ∃ x : Str, d = .str x ∧ 0 < x.length ∧ x.length ≤ 1000 := by
  unfold sgs at h
  simp only [List.mem_cons, List.not_mem_nil, or_false] at h
  rcases h with rfl | rfl | rfl | rfl | rfl | rfl <;> exact ⟨_, rfl, by decide +kernel, by decide +kernel⟩
theorem ok_textX {n : Nat} {xs : List PyData} {ns : List Int} {m : Int} {S : Stv} (h0 : 0 ≤ m) (hm : m < 900) (hs : isSX xs S) : ∃ t S', (t.length : Int) ≤ m ∧ isSX xs S' ∧ run tb (n + 3) f__law_text [.dt (scr ns), .mu 0, .dt (.int m)] S = .ok (.v (.str t)) S' := by
  obtain ⟨s, ho, rfl⟩ := hs
  have d1 := ok_digX (n := n) (xs := xs) (ns := ns) (m := 6) ho (by omega) (by omega)
  obtain ⟨d, hd, hd2⟩ := atI_in (l := sgs) (dg_nn (ns := ns) (s := s) (m := 6) (by omega)) (dg_lt (by omega))
  obtain ⟨x, rfl, hx, hx2⟩ := sgs_in hd2
  have o1 := dgS_ok (ns := ns) (m := 6) ho (by omega)
  have d2 := ok_digX (n := n) (xs := xs) (ns := ns) (m := m + 1) o1 (by omega) (by omega)
  have o2 := dgS_ok (ns := ns) (m := m + 1) o1 (by omega)
  have d3 := ok_digX (n := n) (xs := xs) (ns := ns) (m := m + 1) o2 (by omega) (by omega)
  have o3 := dgS_ok (ns := ns) (m := m + 1) o2 (by omega)
  have l2 := dg_lt (ns := ns) (s := dgS ns s 6) (m := m + 1) (by omega)
  have n2 := dg_nn (ns := ns) (s := dgS ns s 6) (m := m + 1) (by omega)
  have l3 := dg_lt (ns := ns) (s := dgS ns (dgS ns s 6) (m + 1)) (m := m + 1) (by omega)
  have n3 := dg_nn (ns := ns) (s := dgS ns (dgS ns s 6) (m + 1)) (m := m + 1) (by omega)
  generalize dgS ns (dgS ns (dgS ns s 6) (m + 1)) (m + 1) = s3 at *
  generalize hk : Max.max (dg ns (dgS ns s 6) (m + 1)) (dg ns (dgS ns (dgS ns s 6) (m + 1)) (m + 1)) = k
  have hk0 : 0 ≤ k ∧ k ≤ m := by omega
  obtain ⟨ds, S', h1, h2, h3, h4⟩ := text_loopX (n := n) (xs := xs) (ns := ns) (x := x) (m := m) (k := k) hx hx2 (by omega) ⟨s3, o3, rfl⟩
  obtain ⟨ys, g1, g2, g3⟩ := strsD_ones h3
  have hlen := join_len ys g3
  have hsum := sum_ones ys g3
  refine ⟨Txt.join (Str.ofString "") ys, S', by omega, h4, ?_⟩
  rw [run__law_text]
  refine run_of (fl := .rt (.v (.str (Txt.join (Str.ofString "") ys))) S') rfl ?_ (by
    obtain ⟨s', _, rfl⟩ := h4
    simp)
  show exec (cbOf tb (n + 2)) body__law_text [.dt (scr ns), .mu 0, .dt (.int m), .un, .un, .un] _ = _
  unfold body__law_text
  refine seq_nx rfl ?_
  refine seq_nx (ρ1 := [.dt (scr ns), .mu 0, .dt (.int m), .dt (.str (sgA ++ sgB)), .un, .un]) (S1 := [.lst (.int s.1 :: .int s.2 :: xs)]) ?_ ?_
  · have := sgAB
    simp [sizeLine, this]
  refine seq_nx (ρ1 := [.dt (scr ns), .mu 0, .dt (.int m), .dt (.str x), .un, .un]) (S1 := [.lst (.int (dgS ns s 6).1 :: .int (dgS ns s 6).2 :: xs)]) ?_ ?_
  · unfold sgs at hd
    simp [big, d1, hd]
  have b1 : (1 : Int) ≤ m + 1 := by omega
  refine seq_nx (ρ1 := [.dt (scr ns), .mu 0, .dt (.int m), .dt (.str x), .dt (.int k), .un]) (S1 := [.lst (.int s3.1 :: .int s3.2 :: xs)]) ?_ ?_
  · simp [d2, d3, hk]
  have b2 : (-1000000000 : Int) ≤ k ∧ k ≤ 1000000000 := by omega
  have b3 : k.toNat ≤ 16000000 := by omega
  have b4 : ys.length ≤ 16777216 := by omega
  have b5 : (Str.ofString "").length = 0 := rfl
  simp [big, b2, b3, wipeR, h1, g1, hsum, b4, b5]

open FM (PT Ch Ws Rw Sol InL)
/-! ### trees that a script draws can be asked -/
def szB : Nat → Nat
  | 0 => 1
  | d + 1 => 2 * szB d + 1
def rwB : Nat → Nat
  | 0 => 1
  | d + 1 => 2 * rwB d + 6
def hgB : Nat → Nat
  | 0 => 1
  | d + 1 => hgB d + 20
def czB : Nat → Nat
  | 0 => 1
  | d + 1 => 17 * (czB d + 3) + 1
theorem lim_B {cs : List Int} (hL : cs.length ≤ 14) : ∀ (d : Nat) (T : PT), Lim d T → T.size ≤ szB d ∧ T.rowsN ≤ rwB d ∧ T.hgt cs.length ≤ hgB d ∧ csz cs.length T ≤ czB d ∧ (∀ nm, PT.an nm ∈ T.post → Anc nm) := by
  have lf : ∀ d, 1 ≤ szB d ∧ 1 ≤ rwB d ∧ 1 ≤ hgB d ∧ 1 ≤ czB d := fun d => by
    cases d <;> simp [szB, rwB, hgB, czB] <;> omega
  intro d
  induction d with
  | zero =>
    intro T h
    cases T <;> simp only [Lim] at h <;> simp [PT.size, PT.rowsN, PT.hgt, csz, szB, rwB, hgB, czB, PT.post]
    exact h
  | succ d ih =>
    intro T h
    have l := lf (d + 1)
    cases T with
    | st c => exact ⟨l.1, l.2.1, l.2.2.1, l.2.2.2, by simp [PT.post]⟩
    | em => exact ⟨l.1, l.2.1, l.2.2.1, l.2.2.2, by simp [PT.post]⟩
    | an nm => exact ⟨l.1, l.2.1, l.2.2.1, l.2.2.2, by simp only [Lim] at h; simp [PT.post, h]⟩
    | sq a b =>
      obtain ⟨a1, a2, a3, a4, a5⟩ := ih a h.1
      obtain ⟨b1, b2, b3, b4, b5⟩ := ih b h.2
      simp only [PT.size, PT.rowsN, PT.hgt, csz, szB, rwB, hgB, czB, PT.post]
      refine ⟨by omega, by omega, by omega, by omega, fun nm hm => ?_⟩
      simp only [List.mem_append, List.mem_singleton, reduceCtorEq, or_false] at hm
      exact hm.elim (a5 nm) (b5 nm)
    | ch a b =>
      obtain ⟨a1, a2, a3, a4, a5⟩ := ih a h.1
      obtain ⟨b1, b2, b3, b4, b5⟩ := ih b h.2
      simp only [PT.size, PT.rowsN, PT.hgt, csz, szB, rwB, hgB, czB, PT.post]
      refine ⟨by omega, by omega, by omega, by omega, fun nm hm => ?_⟩
      simp only [List.mem_append, List.mem_singleton, reduceCtorEq, or_false] at hm
      exact hm.elim (a5 nm) (b5 nm)
    | rp a lo more g =>
      obtain ⟨a1, a2, a3, a4, a5⟩ := ih a h.1
      have h2 := h.2.1
      have h3 := h.2.2
      simp only [PT.size, PT.rowsN, PT.hgt, csz, szB, rwB, hgB, czB, PT.post]
      have hm : more.getD (cs.length + 1) ≤ 15 := by
        cases more with
        | none => simp; omega
        | some k => simp at h3 ⊢; omega
      refine ⟨by omega, by omega, by omega, ?_, fun nm hm => ?_⟩
      · have : (lo + more.getD (cs.length + 1)) * (csz cs.length a + 3) ≤ 17 * (czB d + 3) := Nat.mul_le_mul (by omega) (by omega)
        omega
      · simp only [List.mem_append, List.mem_singleton, reduceCtorEq, or_false] at hm
        exact a5 nm hm
    | gr k a =>
      obtain ⟨a1, a2, a3, a4, a5⟩ := ih a h
      simp only [PT.size, PT.rowsN, PT.hgt, csz, szB, rwB, hgB, czB, PT.post]
      refine ⟨by omega, by omega, by omega, by omega, fun nm hm => ?_⟩
      simp only [List.mem_append, List.mem_singleton, reduceCtorEq, or_false] at hm
      exact a5 nm hm
    | lk ahead pos a =>
      obtain ⟨a1, a2, a3, a4, a5⟩ := ih a h
      simp only [PT.size, PT.rowsN, PT.hgt, csz, szB, rwB, hgB, czB, PT.post]
      refine ⟨by omega, by omega, by omega, by omega, fun nm hm => ?_⟩
      simp only [List.mem_append, List.mem_singleton, reduceCtorEq, or_false] at hm
      exact a5 nm hm
theorem lim_good {d : Nat} {T : PT} {cs : List Int} (h : Lim d T) (hd : d ≤ 4) (hL : cs.length ≤ 14) : Good T cs := by
  obtain ⟨a1, a2, a3, a4, a5⟩ := lim_B hL d T h
  have b : szB d ≤ 31 ∧ rwB d ≤ 106 ∧ hgB d ≤ 81 ∧ czB d < 900000 := by
    match d, hd with
    | 0, _ => decide
    | 1, _ => decide
    | 2, _ => decide
    | 3, _ => decide
    | 4, _ => decide
    | d + 5, h => omega
  refine ⟨by omega, ?_, by omega, ?_, a5, by omega⟩
  · have : T.rowsN * (cs.length + 1) ≤ 106 * 15 := Nat.mul_le_mul (by omega) (by omega)
    omega
  · have : T.hgt cs.length * (cs.length + 4) ≤ 81 * 18 := Nat.mul_le_mul (by omega) (by omega)
    omega
theorem codesT_len (t : Str) : (codesT t).length = t.length := by
  simp [codesT]
  rfl
abbrev GW := Int × List PyData
abbrev wgP (ws : Ws) (h : List PyData) : List GW := FM.wg prD .none ws h
theorem ways_lim {n d : Nat} {T : PT} {back : Bool} {t : Str} {p : Int} {h : List PyData} (hT : Lim d T) (hd : d ≤ 4) (ht : t.length ≤ 14) (h0 : 0 ≤ p) (hp : p ≤ (t.length : Int)) (hg : ∀ g ∈ T.grs, g < h.length) : run tb (n + 9) f_ways [.dt (ptD T), .dt (.str t), .dt (.int p), .dt (.tuple h), .dt (.bool back)] [] = .ok (.nw (.lst ((wgP (T.W (codesT t) back p) h).map gwD))) [] :=
  ok_ways (lim_good hT hd (by rw [codesT_len]; exact ht)) ⟨h0, by rw [codesT_len]; exact hp⟩ hg
/-! data that can be compared -/
theorem ap_all {P : PyData → Prop} (hn : P .none) (hp : ∀ a b, P (prD a b)) : ∀ (c : Ch) (h : List PyData), (∀ d ∈ h, P d) → ∀ d ∈ ap c h, P d
  | .no, h, hh => hh
  | .ho k a b, h, hh => fun d hd => by
    rcases List.mem_or_eq_of_mem_set hd with h1 | rfl
    · exact hh d h1
    · exact hp a b
  | .cl gs, h, hh => by
    show ∀ d ∈ gs.foldl (fun h g => h.set g .none) h, P d
    induction gs generalizing h with
    | nil => exact hh
    | cons g gs ih =>
      refine ih (h.set g .none) fun d hd => ?_
      rcases List.mem_or_eq_of_mem_set hd with h1 | rfl
      · exact hh d h1
      · exact hn
  | .bo x y, h, hh => ap_all hn hp y _ (ap_all hn hp x h hh)
def HOk (h : List PyData) : Prop := h.length ≤ 100000 ∧ ∀ d ∈ h, dOk 3 d
theorem HOk.ap {h : List PyData} (hh : HOk h) (c : Ch) : HOk (ap c h) := ⟨by rw [FM.ap_len]; exact hh.1, ap_all (by simp [dOk]) (fun a b => by simp [prD, dOk]) c h hh.2⟩
theorem dOk_up {n : Nat} : ∀ {d : PyData}, dOk n d → dOk (n + 1) d := by
  induction n with
  | zero => intro d h; exact h.elim
  | succ n ih =>
    intro d h
    cases d with
    | list ds => exact ⟨h.1, fun d hd => ih (h.2 d hd)⟩
    | tuple ds => exact ⟨h.1, fun d hd => ih (h.2 d hd)⟩
    | dict _ => exact h.elim
    | str x => exact h
    | _ => trivial
theorem dOk_le {n m : Nat} (hm : n ≤ m) {d : PyData} (h : dOk n d) : dOk m d := by
  induction hm with
  | refl => exact h
  | step _ ih => exact dOk_up ih
theorem dOk_gw {w : GW} (h : HOk w.2) : dOk 5 (gwD w) := by
  refine ⟨by simp, fun d hd => ?_⟩
  have hd : d = .int w.1 ∨ d = .tuple w.2 := by simpa using hd
  rcases hd with rfl | rfl
  · trivial
  · exact ⟨h.1, fun d hd => h.2 d hd⟩
theorem dOk_gws {ws : List GW} (hl : ws.length ≤ 100000) (h : ∀ w ∈ ws, HOk w.2) : dOk 6 (.list (ws.map gwD)) := by
  refine ⟨by simpa using hl, fun d hd => ?_⟩
  obtain ⟨w, hw, rfl⟩ := List.mem_map.mp hd
  exact dOk_gw (h w hw)
theorem wg_hok {ws : Ws} {h : List PyData} (hh : HOk h) : ∀ w ∈ wgP ws h, HOk w.2 := fun w hw => by
  obtain ⟨x, _, rfl⟩ := List.mem_map.mp hw
  exact hh.ap x.2
theorem W_len {cs : List Int} {T : PT} {back : Bool} {p : Int} (h0 : 0 ≤ p) (hp : p ≤ (cs.length : Int)) : (T.W cs back p).length ≤ cs.length + 1 := FM.ends_len (FM.W_nodup T back p h0 hp) fun w hw => by
  have := FM.W_rng T back p h0 hp w hw
  exact ⟨this.1, this.2.1⟩
theorem once_len {α : Type} (xs : List (Int × α)) : (FM.once xs).length ≤ xs.length := by
  have : ∀ (xs : List (Int × α)) (s : List Int), (FM.onceF s xs).length ≤ xs.length := fun xs => by
    induction xs with
    | nil => intro s; exact Nat.le_refl _
    | cons x xs ih =>
      intro s
      rw [FM.onceF_cons]
      split
      · exact Nat.le_succ_of_le (ih s)
      · exact Nat.succ_le_succ (ih _)
  exact this xs []

/-! ### small things that laws draw -/
theorem dgE {ns : List Int} {s : St2} {m : Int} (hm : 0 < m) : ∃ k : Nat, dg ns s m = (k : Int) ∧ (k : Int) < m := ⟨(dg ns s m).toNat, by have := dg_nn (ns := ns) (s := s) hm; omega, by have := dg_nn (ns := ns) (s := s) hm; have := dg_lt (ns := ns) (s := s) hm; omega⟩
def prL : List PyData := [.none, prD 0 0, prD 1 3]
theorem prL_ok {d : PyData} (h : d ∈ prL) : dOk 3 d := by
  unfold prL at h
  simp only [List.mem_cons, List.not_mem_nil, or_false] at h
  rcases h with rfl | rfl | rfl <;> simp [dOk, prD]
/-- a list of so many equal things -/
theorem rep_lc {cb : CB} {e : Ex} {i m : Nat} {v : PyData} {ρ : Rho} {S : Stv} (hi : i < ρ.length) (hm : m ≤ 100000) (he : ∀ x : En, evE cb (ρ.set i x) S e = .ok (.v v) S) : lcF (lcT cb .none) (lcE cb e) (bindE (.nm i)) none S.length ρ ((rngD 0 m).map .dt) [] S = .ok (List.replicate m v) S := by
  have lp := lcF_filt (t := lcT cb .none) (f := lcE cb e) (b := bindE (.nm i)) (ch := none) (n0 := S.length) (ρ := ρ) (S := S) (fun j : Nat => .dt (.int (0 + (j : Int)))) (fun _ => true) (fun _ => v) trivial (by simp) (List.range m) [] (by simp [big]; omega) (fun j _ => ⟨ρ.set i (.dt (.int (0 + (j : Int)))), rfl, by simp, fun _ => ⟨.v v, by rw [lcE_ap]; exact he _, rfl⟩⟩)
  rw [filt_true fun _ _ => rfl, List.nil_append, ← rng_dt, List.map_const', List.length_range] at lp
  exact lp
theorem trim1 (ρ : Rho) (c : Cell) : trim 1 ρ [c] = [c] := by unfold trim; simp

/-- the range of the positions of a text -/
theorem evI_pos {n i : Nat} {t : Str} {ρ : Rho} {S : Stv} (h3 : ρ[i]? = some (.dt (.str t))) (ht : t.length ≤ 1000) : evI (cbOf tb n) ρ S (.rg1 (.bin .add (.bi .len (.cons (.var i) .nil)) (.con (.int 1)))) = .ok ((rngD 0 (t.length + 1)).map .dt, none) S := by
  have b3 : t.length ≤ 16777216 := by omega
  obtain ⟨m, hm⟩ : ∃ m : Int, m = (t.length : Int) + 1 := ⟨_, rfl⟩
  have e1 : m.toNat = t.length + 1 := by omega
  have b4 : m ≤ 1000000000 := by omega
  have b5 : (-1000000000 : Int) ≤ m := by omega
  have he : evE (cbOf tb n) ρ S (.bin .add (.bi .len (.cons (.var i) .nil)) (.con (.int 1))) = .ok (.v (.int m)) S := by
    rw [hm]
    simp [sizeLine, b3, h3]
  rw [evI_rg1, he]
  clear hm he
  simp [b4, b5, e1]

open FM (PT Ch Ws Rw Sol InL)
/-! ### mirrored and numbered trees -/
theorem anc_sw {nm : String} (h : Anc nm) : Anc (FM.swN nm) := by
  unfold Anc at h ⊢
  simp only [List.mem_cons, List.not_mem_nil, or_false] at h
  rcases h with rfl | rfl | rfl | rfl | rfl | rfl <;> simp [FM.swN]
theorem lim_mir : ∀ (d : Nat) (T : PT), Lim d T → Lim d T.mir
  | d, .st c, h => h
  | d, .em, h => h
  | d, .an nm, h => by
    have h' : Anc nm := by cases d <;> exact h
    have := anc_sw h'
    cases d <;> exact this
  | d + 1, .sq a b, h => ⟨lim_mir d b h.2, lim_mir d a h.1⟩
  | d + 1, .ch a b, h => ⟨lim_mir d a h.1, lim_mir d b h.2⟩
  | d + 1, .rp a lo more g, h => ⟨lim_mir d a h.1, h.2.1, h.2.2⟩
  | d + 1, .gr k a, h => lim_mir d a h
  | d + 1, .lk x y a, h => lim_mir d a h
theorem lim_num : ∀ (d : Nat) (T : PT) (n : Nat), Lim d T → Lim d (T.num n)
  | d, .st c, _, h => h
  | d, .em, _, h => h
  | d, .an nm, _, h => h
  | d + 1, .sq a b, n, h => ⟨lim_num d a _ h.1, lim_num d b _ h.2⟩
  | d + 1, .ch a b, n, h => ⟨lim_num d a _ h.1, lim_num d b _ h.2⟩
  | d + 1, .rp a lo more g, n, h => ⟨lim_num d a _ h.1, h.2.1, h.2.2⟩
  | d + 1, .gr k a, n, h => lim_num d a _ h
  | d + 1, .lk x y a, n, h => lim_num d a _ h
def swD : List (PyData × PyData) := [(.str "text_start", .str "text_end"), (.str "text_end", .str "text_start"), (.str "line_start", .str "line_end"), (.str "line_end", .str "line_start")]
theorem dget_sw {nm : String} (h : Anc nm) : (match dgetD false swD (.str nm) with
      | some (some e) => some e
      | some none => some (.str nm)
      | none => none) = some (PyData.str (FM.swN nm)) := by
  unfold Anc at h
  simp only [List.mem_cons, List.not_mem_nil, or_false] at h
  rcases h with rfl | rfl | rfl | rfl | rfl | rfl <;> simp [FM.swN, swD, dgetD, keyK]
theorem ok_mirror : ∀ (d : Nat) {n : Nat} (T : PT), Lim d T → run tb (n + d + 1) f__law_mirror [.dt (ptD T)] [] = .ok (.v (ptD T.mir)) [] := by
  have nd : (["text_start", "text_end", "line_start", "line_end"] : List Str).Nodup := by decide +kernel
  have an : ∀ (m : Nat) (nm : String), Anc nm → run tb (m + 1) f__law_mirror [.dt (ptD (.an nm))] [] = .ok (.v (ptD (PT.an nm).mir)) [] := fun m nm h => by
    rw [run__law_mirror]
    refine run_of (fl := .rt (.v (ptD (PT.an nm).mir)) [.dct false swD]) rfl ?_ (by simp)
    show exec (cbOf tb m) body__law_mirror [.dt (ptD (.an nm)), .un] _ = _
    unfold body__law_mirror
    refine seq_nx (ρ1 := [.dt (ptD (.an nm)), .mu 0]) (S1 := [.dct false swD]) (by simp [nd, swD]) ?_
    have hd := dget_sw h
    generalize swD = w at *
    cases hq : dgetD false w (.str nm) with
    | none => rw [hq] at hd; cases hd
    | some r =>
      rw [hq] at hd
      cases r with
      | none =>
        have hd : (PyData.str (FM.swN nm : Str)) = .str nm := by simpa using hd.symm
        have e : ptD (PT.an nm).mir = .tuple [.str "anchor", .str nm] := by simp only [FM.PT.mir, ptD, hd]
        rw [e]
        simp [ptD, hq, big]
      | some e =>
        have hd : e = PyData.str (FM.swN nm) := by simpa using hd
        subst hd
        simp [ptD, FM.PT.mir, hq, big]
  have st : ∀ (m : Nat) (c : List (Int × Int)), run tb (m + 1) f__law_mirror [.dt (ptD (.st c))] [] = .ok (.v (ptD (PT.st c).mir)) [] := fun m c => by
    rw [run__law_mirror]
    refine run_of (fl := .rt (.v (ptD (PT.st c).mir)) [.dct false swD]) rfl ?_ (by simp)
    show exec (cbOf tb m) body__law_mirror [.dt (ptD (.st c)), .un] _ = _
    unfold body__law_mirror
    refine seq_nx (ρ1 := [.dt (ptD (.st c)), .mu 0]) (S1 := [.dct false swD]) (by simp [nd, swD]) ?_
    generalize swD = w at *
    simp [ptD, FM.PT.mir, big]
  have em : ∀ (m : Nat), run tb (m + 1) f__law_mirror [.dt (ptD .em)] [] = .ok (.v (ptD PT.em.mir)) [] := fun m => by
    rw [run__law_mirror]
    refine run_of (fl := .rt (.v (ptD PT.em.mir)) [.dct false swD]) rfl ?_ (by simp)
    show exec (cbOf tb m) body__law_mirror [.dt (ptD .em), .un] _ = _
    unfold body__law_mirror
    refine seq_nx (ρ1 := [.dt (ptD .em), .mu 0]) (S1 := [.dct false swD]) (by simp [nd, swD]) ?_
    generalize swD = w at *
    simp [ptD, FM.PT.mir, big]
  intro d
  induction d with
  | zero =>
    intro n T h
    cases T with
    | st c => exact st _ c
    | em => exact em _
    | an nm => exact an _ nm h
    | _ => exact h.elim
  | succ d ih =>
    intro n T h
    cases T with
    | st c => exact st _ c
    | em => exact em _
    | an nm => exact an _ nm h
    | sq a b =>
      have ha := ih (n := n) a h.1
      have hb := ih (n := n) b h.2
      rw [show n + (d + 1) + 1 = n + d + 1 + 1 by omega, run__law_mirror]
      refine run_of (fl := .rt (.v (ptD (PT.sq a b).mir)) [.dct false swD]) rfl ?_ (by simp)
      show exec (cbOf tb (n + d + 1)) body__law_mirror [.dt (ptD (.sq a b)), .un] _ = _
      unfold body__law_mirror
      refine seq_nx (ρ1 := [.dt (ptD (.sq a b)), .mu 0]) (S1 := [.dct false swD]) (by simp [nd, swD]) ?_
      generalize swD = w at *
      simp [ptD, FM.PT.mir, big, ha, hb]
    | ch a b =>
      have ha := ih (n := n) a h.1
      have hb := ih (n := n) b h.2
      rw [show n + (d + 1) + 1 = n + d + 1 + 1 by omega, run__law_mirror]
      refine run_of (fl := .rt (.v (ptD (PT.ch a b).mir)) [.dct false swD]) rfl ?_ (by simp)
      show exec (cbOf tb (n + d + 1)) body__law_mirror [.dt (ptD (.ch a b)), .un] _ = _
      unfold body__law_mirror
      refine seq_nx (ρ1 := [.dt (ptD (.ch a b)), .mu 0]) (S1 := [.dct false swD]) (by simp [nd, swD]) ?_
      generalize swD = w at *
      simp [ptD, FM.PT.mir, big, ha, hb]
    | rp a lo more g =>
      have ha := ih (n := n) a h.1
      rw [show n + (d + 1) + 1 = n + d + 1 + 1 by omega, run__law_mirror]
      refine run_of (fl := .rt (.v (ptD (PT.rp a lo more g).mir)) [.dct false swD]) rfl ?_ (by simp)
      show exec (cbOf tb (n + d + 1)) body__law_mirror [.dt (ptD (.rp a lo more g)), .un] _ = _
      unfold body__law_mirror
      refine seq_nx (ρ1 := [.dt (ptD (.rp a lo more g)), .mu 0]) (S1 := [.dct false swD]) (by simp [nd, swD]) ?_
      generalize swD = w at *
      simp [ptD, FM.PT.mir, big, ha]
    | gr k a =>
      have ha := ih (n := n) a h
      rw [show n + (d + 1) + 1 = n + d + 1 + 1 by omega, run__law_mirror]
      refine run_of (fl := .rt (.v (ptD (PT.gr k a).mir)) [.dct false swD]) rfl ?_ (by simp)
      show exec (cbOf tb (n + d + 1)) body__law_mirror [.dt (ptD (.gr k a)), .un] _ = _
      unfold body__law_mirror
      refine seq_nx (ρ1 := [.dt (ptD (.gr k a)), .mu 0]) (S1 := [.dct false swD]) (by simp [nd, swD]) ?_
      generalize swD = w at *
      simp [ptD, FM.PT.mir, big, ha]
    | lk x y a =>
      have ha := ih (n := n) a h
      rw [show n + (d + 1) + 1 = n + d + 1 + 1 by omega, run__law_mirror]
      refine run_of (fl := .rt (.v (ptD (PT.lk x y a).mir)) [.dct false swD]) rfl ?_ (by simp)
      show exec (cbOf tb (n + d + 1)) body__law_mirror [.dt (ptD (.lk x y a)), .un] _ = _
      unfold body__law_mirror
      refine seq_nx (ρ1 := [.dt (ptD (.lk x y a)), .mu 0]) (S1 := [.dct false swD]) (by simp [nd, swD]) ?_
      generalize swD = w at *
      simp [ptD, FM.PT.mir, big, ha]

open FM (PT Ch Ws Rw Sol InL)
theorem gsD_app (a b : List Nat) : gsD (a ++ b) = gsD a ++ gsD b := by simp [gsD]
theorem ok_numb : ∀ (d : Nat) {n : Nat} (T : PT) (L : List Nat), Lim d T → L.length + T.grs.length ≤ 100000 → run tb (n + d + 1) f__law_numbered [.dt (ptD T), .mu 0] [.lst (gsD L)] = .ok (.v (ptD (T.num L.length))) [.lst (gsD (L ++ T.grs))] := by
  have lf : ∀ (m : Nat) (T : PT) (L : List Nat), Lim 0 T → run tb (m + 1) f__law_numbered [.dt (ptD T), .mu 0] [.lst (gsD L)] = .ok (.v (ptD (T.num L.length))) [.lst (gsD (L ++ T.grs))] := fun m T L h => by
    rw [run__law_numbered]
    refine run_of (fl := .rt (.v (ptD (T.num L.length))) [.lst (gsD (L ++ T.grs))]) rfl ?_ (by simp)
    show exec (cbOf tb m) body__law_numbered [.dt (ptD T), .mu 0, .un, .un] _ = _
    unfold body__law_numbered
    cases T with
    | st c => simp [ptD, FM.PT.num, PT.grs]
    | em => simp [ptD, FM.PT.num, PT.grs]
    | an nm => simp [ptD, FM.PT.num, PT.grs]
    | _ => exact h.elim
  intro d
  induction d with
  | zero => exact fun {n} T L h _ => lf _ T L h
  | succ d ih =>
    intro n T L h hl
    have hlf : Lim 0 T → run tb (n + (d + 1) + 1) f__law_numbered [.dt (ptD T), .mu 0] [.lst (gsD L)] = .ok (.v (ptD (T.num L.length))) [.lst (gsD (L ++ T.grs))] := lf _ T L
    cases T with
    | st c => exact hlf h
    | em => exact hlf h
    | an nm => exact hlf h
    | sq a b =>
      have e : (PT.sq a b).grs = a.grs ++ b.grs := rfl
      rw [e, List.length_append] at hl
      have ha := ih (n := n) a L h.1 (by omega)
      have hb := ih (n := n) b (L ++ a.grs) h.2 (by rw [List.length_append]; omega)
      rw [List.append_assoc, ← e, List.length_append] at hb
      rw [show n + (d + 1) + 1 = n + d + 1 + 1 by omega, run__law_numbered]
      refine run_of (fl := .rt (.v (ptD ((PT.sq a b).num L.length))) [.lst (gsD (L ++ (PT.sq a b).grs))]) rfl ?_ (by simp)
      show exec (cbOf tb (n + d + 1)) body__law_numbered [.dt (ptD (.sq a b)), .mu 0, .un, .un] _ = _
      unfold body__law_numbered
      generalize gsD (L ++ (PT.sq a b).grs) = g2 at *
      simp [ptD, FM.PT.num, big, ha, hb]
    | ch a b =>
      have e : (PT.ch a b).grs = a.grs ++ b.grs := rfl
      rw [e, List.length_append] at hl
      have ha := ih (n := n) a L h.1 (by omega)
      have hb := ih (n := n) b (L ++ a.grs) h.2 (by rw [List.length_append]; omega)
      rw [List.append_assoc, ← e, List.length_append] at hb
      rw [show n + (d + 1) + 1 = n + d + 1 + 1 by omega, run__law_numbered]
      refine run_of (fl := .rt (.v (ptD ((PT.ch a b).num L.length))) [.lst (gsD (L ++ (PT.ch a b).grs))]) rfl ?_ (by simp)
      show exec (cbOf tb (n + d + 1)) body__law_numbered [.dt (ptD (.ch a b)), .mu 0, .un, .un] _ = _
      unfold body__law_numbered
      generalize gsD (L ++ (PT.ch a b).grs) = g2 at *
      simp [ptD, FM.PT.num, big, ha, hb]
    | rp a lo more g =>
      have ha := ih (n := n) a L h.1 hl
      rw [show n + (d + 1) + 1 = n + d + 1 + 1 by omega, run__law_numbered]
      refine run_of (fl := .rt (.v (ptD ((PT.rp a lo more g).num L.length))) [.lst (gsD (L ++ (PT.rp a lo more g).grs))]) rfl ?_ (by simp)
      show exec (cbOf tb (n + d + 1)) body__law_numbered [.dt (ptD (.rp a lo more g)), .mu 0, .un, .un] _ = _
      unfold body__law_numbered
      rw [show (PT.rp a lo more g).grs = a.grs from rfl]
      generalize gsD (L ++ a.grs) = g2 at *
      simp [ptD, FM.PT.num, big, ha]
    | gr k a =>
      have e : (PT.gr k a).grs = k :: a.grs := rfl
      rw [e, List.length_cons] at hl
      have ha := ih (n := n) a (L ++ [k]) h (by rw [List.length_append]; simp; omega)
      rw [List.append_assoc, List.length_append, show [k] ++ a.grs = (PT.gr k a).grs from rfl, gsD_app] at ha
      have ek : gsD [k] = [.int (k : Int)] := rfl
      rw [ek, show L.length + [k].length = L.length + 1 from rfl] at ha
      have gl : (gsD L).length = L.length := by simp [gsD]
      have bl : L.length < 16000000 := by omega
      rw [show n + (d + 1) + 1 = n + d + 1 + 1 by omega, run__law_numbered]
      refine run_of (fl := .rt (.v (ptD ((PT.gr k a).num L.length))) [.lst (gsD (L ++ (PT.gr k a).grs))]) rfl ?_ (by simp)
      show exec (cbOf tb (n + d + 1)) body__law_numbered [.dt (ptD (.gr k a)), .mu 0, .un, .un] _ = _
      unfold body__law_numbered
      generalize gsD (L ++ (PT.gr k a).grs) = g2 at *
      generalize gsD L = g1 at *
      simp [ptD, FM.PT.num, big, ha, gl, bl]
    | lk x y a =>
      have ha := ih (n := n) a L h hl
      rw [show n + (d + 1) + 1 = n + d + 1 + 1 by omega, run__law_numbered]
      refine run_of (fl := .rt (.v (ptD ((PT.lk x y a).num L.length))) [.lst (gsD (L ++ (PT.lk x y a).grs))]) rfl ?_ (by simp)
      show exec (cbOf tb (n + d + 1)) body__law_numbered [.dt (ptD (.lk x y a)), .mu 0, .un, .un] _ = _
      unfold body__law_numbered
      rw [show (PT.lk x y a).grs = a.grs from rfl]
      generalize gsD (L ++ a.grs) = g2 at *
      simp [ptD, FM.PT.num, big, ha]

open FM (PT Ch Ws Rw Sol InL)
/-! ### turned ways -/
def trD (L : Int) : PyData → PyData
  | .tuple [.int a, .int b] => .tuple [.int (L - b), .int (L - a)]
  | d => d
def PrN (d : PyData) : Prop := d = .none ∨ ∃ a b, d = prD a b
def trnG (L : Int) (order : List Nat) (h : List PyData) : List PyData := (List.range order.length).map fun k => trD L (h.getD (order.idxOf k) .none)
theorem findD_nat (k : Nat) : ∀ (gs : List Nat), k ∈ gs → findD (.int (k : Int)) (gsD gs) = some (gs.idxOf k)
  | [], h => by cases h
  | g :: gs, h => by
    show findD (.int (k : Int)) (.int (g : Int) :: gsD gs) = _
    unfold findD
    by_cases e : g = k
    · subst e
      simp [eqF]
    · have e1 : ¬ ((g : Int) = (k : Int)) := by omega
      have hk : k ∈ gs := by
        rcases List.mem_cons.mp h with h | h
        · exact absurd h.symm e
        · exact h
      have e2 : (g == k) = false := by simpa using e
      simp [eqF, e1, findD_nat k gs hk, List.idxOf_cons, e2]
theorem flat_gs (gs : List Nat) : (gsD gs).all flatD = true := by
  unfold gsD
  rw [List.all_eq_true]
  intro d hd
  obtain ⟨k, _, rfl⟩ := List.mem_map.mp hd
  rfl
theorem ok_turned {n : Nat} {order : List Nat} {w : Int × List PyData} {L : Int} (hl : order.length ≤ 100000) (ho : ∀ k, k < order.length → k ∈ order) (hw : w.2.length = order.length) (hp : ∀ d ∈ w.2, PrN d) :
    run tb (n + 1) f__law_turned [.dt (gwD w), .dt (.int L), .mu 0] [.lst (gsD order)] = .ok (.v (gwD (L - w.1, trnG L order w.2))) [.lst (gsD order)] := by
  rw [run__law_turned]
  refine run_of (fl := .rt (.v (gwD (L - w.1, trnG L order w.2))) [.lst (gsD order), .lst (trnG L order w.2)]) rfl ?_ (by simp)
  show exec (cbOf tb n) body__law_turned [.dt (gwD w), .dt (.int L), .mu 0, .un, .un, .un] _ = _
  unfold body__law_turned
  refine seq_nx (ρ1 := [.dt (gwD w), .dt (.int L), .mu 0, .mu 1, .un, .un]) (S1 := [.lst (gsD order), .lst []]) (by simp [big]) ?_
  have gl : (gsD order).length = order.length := by simp [gsD]
  refine seq_nx (ρ1 := [.dt (gwD w), .dt (.int L), .mu 0, .mu 1, .un, .un]) (S1 := [.lst (gsD order), .lst (trnG L order w.2)]) ?_ ?_
  · rw [ex_for]
    have b1 : (-1000000000 : Int) ≤ (order.length : Int) := by omega
    have b2 : (order.length : Int) ≤ 1000000000 := by omega
    have hi : evI (cbOf tb n) [.dt (gwD w), .dt (.int L), .mu 0, .mu 1, .un, .un] [.lst (gsD order), .lst []] (.rg1 (.bi .len (.cons (.var 2) .nil))) = .ok ((rngD 0 order.length).map .dt, none) [.lst (gsD order), .lst []] := by simp [gl, b1, b2]
    rw [hi]
    obtain ⟨ρ', S', h1, h2⟩ := loopF_inv (f := forB (cbOf tb n) (.nm 4) (.seq (.asg (.nm 5) (.idx (.idx (.var 0) (.con (.int 1))) (.bm .index (.var 2) (.cons (.var 4) .nil))))
  (.ite (.cmp .isn (.var 5) (.con .none))
  (.exp (.bm .append (.var 3) (.cons (.con .none) .nil)))
  (.exp (.bm .append (.var 3) (.cons (.tup (.cons (.bin .sub (.var 1) (.idx (.var 5) (.con (.int 1)))) (.cons (.bin .sub (.var 1) (.idx (.var 5) (.con (.int 0)))) .nil))) .nil)))))) (ch := none) (ks := [4, 5]) (n0 := 2) (fun i ρ S => ρ = [.dt (gwD w), .dt (.int L), .mu 0, .mu 1, .un, .un] ∧ S = [.lst (gsD order), .lst ((List.range i).map fun k => trD L (w.2.getD (order.idxOf k) .none))]) ((rngD 0 order.length).map .dt) 0 [.dt (gwD w), .dt (.int L), .mu 0, .mu 1, .un, .un] [.lst (gsD order), .lst []] ⟨rfl, rfl⟩ (fun i e ρ S he hi => by
      obtain ⟨rfl, rfl⟩ := hi
      rw [Nat.zero_add]
      have hik : i < order.length := by
        have := (List.getElem?_eq_some_iff.mp he).1
        simpa [rngD] using this
      have hee : e = .dt (.int (i : Int)) := by
        rw [List.getElem?_map] at he
        unfold rngD at he
        rw [List.getElem?_map, List.getElem?_range hik] at he
        simpa using he.symm
      subst hee
      have hj : order.idxOf i < order.length := List.idxOf_lt_length_of_mem (ho i hik)
      have hat : atI w.2 ((order.idxOf i : Nat) : Int) = some (w.2.getD (order.idxOf i) .none) := atI_nat (by rw [List.getD_eq_getElem?_getD, List.getElem?_eq_getElem (by omega)]; rfl)
      have hpr : PrN (w.2.getD (order.idxOf i) .none) := by
        rw [List.getD_eq_getElem?_getD, List.getElem?_eq_getElem (by omega)]
        exact hp _ (List.getElem_mem _)
      have hf := findD_nat i order (ho i hik)
      have hfl := flat_gs order
      have hrs : (List.range (i + 1)).map (fun k => trD L (w.2.getD (order.idxOf k) .none)) = (List.range i).map (fun k => trD L (w.2.getD (order.idxOf k) .none)) ++ [trD L (w.2.getD (order.idxOf i) .none)] := by
        rw [List.range_succ, List.map_append]
        rfl
      rw [hrs]
      have hlen : ((List.range i).map fun k => trD L (w.2.getD (order.idxOf k) .none)).length < 16000000 := by simp; omega
      generalize (List.range i).map (fun k => trD L (w.2.getD (order.idxOf k) .none)) = acc at *
      generalize w.2.getD (order.idxOf i) .none = x at *
      generalize order.idxOf i = j at *
      generalize gsD order = G at *
      have fi : flatD (.int (i : Int)) = true := rfl
      refine ⟨[.dt (gwD w), .dt (.int L), .mu 0, .mu 1, .dt (.int (i : Int)), .dt x], [.lst G, .lst (acc ++ [trD L x])], .inl ?_, trivial, by simp, by simp⟩
      rw [forB_nm]
      unfold gwD
      rcases hpr with rfl | ⟨a, b, rfl⟩
      · simp [hf, hfl, hat, fi, hlen, big, trD]
      · unfold prD at hat ⊢
        simp [hf, hfl, hat, fi, hlen, big, trD])
    obtain ⟨rfl, rfl⟩ := h2
    rw [Nat.zero_add, show ((rngD 0 order.length).map En.dt).length = order.length by simp [rngD]] at h1
    exact h1
  · have tl : (trnG L order w.2).length ≤ 16000000 := by simp [trnG]; omega
    generalize trnG L order w.2 = acc at *
    unfold gwD
    simp [big, tl]
/-! ### the turned ways are the ways -/
theorem trD_tr (L : Int) (a b : Int) : trD L (prD a b) = prD (L - b) (L - a) := rfl
theorem wg_turn {cs : List Int} {T : PT} {N : Nat} {p : Int} (hT : T.grs = List.range' 0 N) :
    wgP (T.W cs true p) (List.replicate N .none) = (wgP ((T.mir.num 0).W cs.reverse false ((cs.length : Int) - p)) (List.replicate N .none)).map fun w => ((cs.length : Int) - w.1, trnG cs.length T.mir.grs w.2) := by
  have hpm := FM.grs_mir T
  have hlen : T.mir.grs.length = N := by rw [hpm.length_eq, hT, List.length_range']
  have hnd : T.mir.grs.Nodup := hpm.nodup_iff.mpr (by rw [hT]; exact List.nodup_range')
  have hmem : ∀ k, k < N → k ∈ T.mir.grs := fun k hk => hpm.mem_iff.mpr (by rw [hT]; simp [List.mem_range']; omega)
  have hren : T.mir.num 0 = T.mir.ren fun k => T.mir.grs.idxOf k := FM.num_ren (f := fun k => T.mir.grs.idxOf k) T.mir 0 fun i k e => by
    obtain ⟨hi, he⟩ := List.getElem?_eq_some_iff.mp e
    rw [Nat.zero_add, ← he]
    exact hnd.idxOf_getElem i hi
  have hf : ∀ k, k < N → T.mir.grs.idxOf k < N := fun k hk => by
    rw [← hlen]
    exact List.idxOf_lt_length_of_mem (hmem k hk)
  have hi : ∀ j k, j < N → k < N → T.mir.grs.idxOf j = T.mir.grs.idxOf k → j = k := fun j k hj hk e => by
    have h1 := List.getElem_idxOf (xs := T.mir.grs) (x := j) (List.idxOf_lt_length_of_mem (hmem j hj))
    have h2 := List.getElem_idxOf (xs := T.mir.grs) (x := k) (List.idxOf_lt_length_of_mem (hmem k hk))
    rw [← h1, ← h2]
    simp only [e]
  have main := FM.W_mir (pr := prD) (nn := PyData.none) (f := fun k => T.mir.grs.idxOf k) (N := N) (L := (cs.length : Int)) (tr := trD cs.length) (cs := cs) rfl (trD_tr _) rfl hf hi T true p (fun k hk => by
    rw [hT, List.mem_range'] at hk
    obtain ⟨i, hi, rfl⟩ := hk
    omega)
  rw [← hren] at main
  have rel0 : FM.Rel (fun k => T.mir.grs.idxOf k) N (trD cs.length) (List.replicate N PyData.none) (List.replicate N PyData.none) := fun k hk => by
    have := hf k hk
    simp [hk, this, trD]
  have go : ∀ {xs ys : Ws}, FM.F2 (FM.RW prD PyData.none (fun k => T.mir.grs.idxOf k) N (cs.length : Int) (trD cs.length)) xs ys → wgP xs (List.replicate N .none) = (wgP ys (List.replicate N .none)).map fun w => ((cs.length : Int) - w.1, trnG cs.length T.mir.grs w.2) := by
    intro xs ys h
    induction h with
    | nil => rfl
    | @cons w w' _ _ a _ ih =>
      unfold wgP FM.wg at ih ⊢
      rw [List.map_cons, List.map_cons, List.map_cons, ih]
      congr 1
      refine Prod.ext a.1 ?_
      show ap w.2 (List.replicate N .none) = trnG cs.length T.mir.grs (ap w'.2 (List.replicate N .none))
      have r := a.2 _ _ (List.length_replicate ..) (List.length_replicate ..) rel0
      have l1 : (ap w.2 (List.replicate N PyData.none)).length = N := by rw [FM.ap_len]; simp
      have l2 : (ap w'.2 (List.replicate N PyData.none)).length = N := by rw [FM.ap_len]; simp
      refine List.ext_getElem? fun k => ?_
      by_cases hk : k < N
      · have hk' := hf k hk
        have := r k hk
        rw [this]
        unfold trnG
        rw [List.getElem?_map, List.getElem?_range (by rw [hlen]; exact hk), List.getElem?_eq_getElem (by rw [l2]; exact hk')]
        simp only [Option.map_some]
        rw [List.getD_eq_getElem?_getD, List.getElem?_eq_getElem (by rw [l2]; exact hk')]
        rfl
      · have e3 : (trnG cs.length T.mir.grs (ap w'.2 (List.replicate N .none))).length = N := by rw [trnG, List.length_map, List.length_range, hlen]
        have hk2 : N ≤ k := by omega
        have e1 : (ap w.2 (List.replicate N PyData.none))[k]? = none := List.getElem?_eq_none (by rw [l1]; exact hk2)
        have e2 : (trnG cs.length T.mir.grs (ap w'.2 (List.replicate N .none)))[k]? = none := List.getElem?_eq_none (by rw [e3]; exact hk2)
        rw [e1, e2]
  rw [show (!true) = false from rfl] at main
  exact go main
theorem codes_rev (t : Str) : codesT ⟨t.cps.reverse⟩ = (codesT t).reverse := by simp [codesT]
theorem join_ones : ∀ (cs : List Nat), PySem.Str.join (Str.ofString "") (cs.map fun c => (⟨#[c]⟩ : Str)) = ⟨cs.toArray⟩
  | [] => by decide +kernel
  | [c] => rfl
  | c :: d :: cs => by
    have ih := join_ones (d :: cs)
    rw [List.map_cons] at ih
    show ((⟨#[c]⟩ : Str) ++ Str.ofString "") ++ PySem.Str.join (Str.ofString "") ((⟨#[d]⟩ : Str) :: cs.map fun c => (⟨#[c]⟩ : Str)) = _
    rw [ih]
    have e : (Str.ofString "").cps = #[] := by decide +kernel
    show (⟨(#[c] ++ (Str.ofString "").cps) ++ (d :: cs).toArray⟩ : Str) = _
    rw [e]
    simp
theorem strsD_map1 : ∀ (cs : List Nat), strsD (cs.map fun c => PyData.str ⟨#[c]⟩) = some (cs.map fun c => (⟨#[c]⟩ : Str))
  | [] => rfl
  | c :: cs => by simp [strsD, strsD_map1 cs]
theorem joinT_ones (cs : List Nat) : Txt.join (Str.ofString "") (cs.map fun c => (⟨#[c]⟩ : Str)) = ⟨cs.toArray⟩ := by
  show Builtin.Str.glued (Str.ofString "") _ = _
  rw [PySem.StrLaws.glued_eq_join]
  exact join_ones cs

open FM (PT Ch Ws Rw Sol InL)
/-! ### the law of k15 -/
def rhoL (ns : List Int) (a : PyData) (t : Str) (h : List PyData) (m : PyData) (r : Str) (e9 e10 e11 : En) : Rho := [.dt (scr ns), .mu 0, .dt a, .dt (.str t), .dt (.int (t.length : Int)), .dt (.tuple h), .mu 1, .dt m, .dt (.str r), e9, e10, e11, .un, .un]
theorem rev_lc {n : Nat} {t : Str} {ρ : Rho} {S : Stv} (ht : t.length ≤ 1000) (h3 : ρ[3]? = some (.dt (.str t))) (h4 : ρ[4]? = some (.dt (.int (t.length : Int)))) (hl : 12 < ρ.length) : lcF (lcT (cbOf tb n) .none) (lcE (cbOf tb n) (.idx (.var 3) (.bin .sub (.bin .sub (.var 4) (.con (.int 1))) (.var 12)))) (bindE (.nm 12)) none S.length ρ ((rngD 0 t.length).map .dt) [] S = .ok (t.cps.toList.reverse.map fun c => .str ⟨#[c]⟩) S := by
  have hsz : t.cps.toList.length = t.length := by simp [Str.length]
  have lp := lcF_filt (t := lcT (cbOf tb n) .none) (f := lcE (cbOf tb n) (.idx (.var 3) (.bin .sub (.bin .sub (.var 4) (.con (.int 1))) (.var 12)))) (b := bindE (.nm 12)) (ch := none) (n0 := S.length) (ρ := ρ) (S := S) (fun j : Nat => .dt (.int (0 + (j : Int)))) (fun _ => true) (fun j => .str ⟨#[t.cps.toList.getD (t.length - 1 - j) 0]⟩) trivial (by simp) (List.range t.length) [] (by simp [big]; omega) (fun j hj => by
    have hj : j < t.length := by simpa using hj
    refine ⟨ρ.set 12 (.dt (.int (0 + (j : Int)))), rfl, by simp, fun _ => ⟨.v (.str ⟨#[t.cps.toList.getD (t.length - 1 - j) 0]⟩), ?_, rfl⟩⟩
    have e1 : (ρ.set 12 (.dt (.int (0 + (j : Int)))))[3]? = some (.dt (.str t)) := by rw [List.getElem?_set_ne (by omega)]; exact h3
    have e2 : (ρ.set 12 (.dt (.int (0 + (j : Int)))))[4]? = some (.dt (.int (t.length : Int))) := by rw [List.getElem?_set_ne (by omega)]; exact h4
    have e3 : (ρ.set 12 (.dt (.int (0 + (j : Int)))))[12]? = some (.dt (.int (0 + (j : Int)))) := List.getElem?_set_self hl
    have hat : atI t.cps.toList ((t.length : Int) - 1 - (0 + (j : Int))) = some (t.cps.toList.getD (t.length - 1 - j) 0) := by
      rw [show (t.length : Int) - 1 - (0 + (j : Int)) = ((t.length - 1 - j : Nat) : Int) by omega]
      exact atI_nat (by rw [List.getD_eq_getElem?_getD, List.getElem?_eq_getElem (by omega)]; rfl)
    have hl2 : t.length ≤ 16777216 := by omega
    rw [lcE_ap]
    generalize ρ.set 12 (.dt (.int (0 + (j : Int)))) = ρ1 at *
    generalize t.cps.toList.getD (t.length - 1 - j) 0 = c at *
    rw [Int.zero_add] at e3 hat
    simp [e1, e2, e3, hat, hl2, sizeLine])
  rw [filt_true fun _ _ => rfl, List.nil_append, ← rng_dt] at lp
  rw [lp]
  congr 1
  refine List.ext_getElem? fun k => ?_
  rw [List.getElem?_map, List.getElem?_map]
  by_cases hk : k < t.length
  · rw [List.getElem?_range hk, List.getElem?_reverse (by omega), hsz, Option.map_some, List.getElem?_eq_getElem (by omega), Option.map_some, List.getD_eq_getElem?_getD, List.getElem?_eq_getElem (by omega)]
    rfl
  · rw [List.getElem?_eq_none (by simpa using hk), List.getElem?_eq_none (by simp [Str.length] at hk ⊢; omega)]
    rfl
theorem law_true : ∀ ns : List Int, ns.length ≤ 63 → run tb 40 f_law [.dt (.list (ns.map PyData.int))] [] = .ok (.v (.bool true)) [] := by
  intro ns _
  show run tb (39 + 1) f_law _ _ = _
  rw [run_law]
  have d0 := ok_digX (n := 37) (ns := ns) (s := (0, 0)) (m := 2) (xs := [.int 0, .int 0]) ⟨by simp, by simp⟩ (by omega) (by omega)
  have o1 := dgS_ok (ns := ns) (s := (0, 0)) (m := 2) ⟨by simp, by simp⟩ (by omega)
  obtain ⟨d0', hd0, hd0l⟩ := dgE (ns := ns) (s := (0, 0)) (m := 2) (by omega)
  rw [hd0] at d0
  generalize dgS ns (0, 0) 2 = s1 at *
  obtain ⟨d, hd⟩ : ∃ d, d = 2 + d0' := ⟨_, rfl⟩
  have hd2 : d ≤ 3 := by omega
  obtain ⟨A, s2, g2, l2, o2, lA, gA, ⟨q1, r1⟩, q2, ha⟩ := ok_tree2 d (n := 34 - 2 * d) (ns := ns) (s := s1) (g := 0) (l := 0) o1
  rw [show 34 - 2 * d + 2 * d + 5 = 39 by omega] at ha
  obtain ⟨t, S4, ht, ⟨s4, o4, rfl⟩, htx⟩ := ok_textX (n := 36) (ns := ns) (m := 7) (xs := [.int (g2 : Int), .int (l2 : Int)]) (S := [.lst (.int s2.1 :: .int s2.2 :: [.int (g2 : Int), .int (l2 : Int)])]) (by omega) (by omega) ⟨s2, o2, rfl⟩
  have ht7 : t.length ≤ 14 := by omega
  have hpw : 2 ^ (d + 1) ≤ 16 := by
    have : 2 ^ (d + 1) ≤ 2 ^ 4 := Nat.pow_le_pow_right (by omega) (by omega)
    omega
  have hN : A.grs.length = g2 := by omega
  rw [hN] at r1
  have hmp := FM.grs_mir A
  have hml : A.mir.grs.length = g2 := by rw [hmp.length_eq, hN]
  obtain ⟨h, hh⟩ : ∃ h : List PyData, h = List.replicate g2 .none := ⟨_, rfl⟩
  have hhl : h.length = g2 := by rw [hh]; simp
  have hok : HOk h := ⟨by omega, fun d hd => by rw [hh] at hd; rw [(List.mem_replicate.mp hd).2]; simp [dOk]⟩
  have gA' : ∀ g ∈ A.grs, g < h.length := fun g hg => by have := gA g hg; omega
  have mi := ok_mirror d (n := 38 - d) A lA
  rw [show 38 - d + d + 1 = 39 by omega] at mi
  have nu := ok_numb d (n := 38 - d) A.mir [] (lim_mir d A lA) (by simp only [List.length_nil]; omega)
  rw [show 38 - d + d + 1 = 39 by omega, List.nil_append, show ([] : List Nat).length = 0 from rfl, show gsD [] = [] from rfl] at nu
  have lM := lim_num d A.mir 0 (lim_mir d A lA)
  obtain ⟨M, hM⟩ : ∃ M, M = A.mir.num 0 := ⟨_, rfl⟩
  have gM : ∀ g ∈ M.grs, g < h.length := by
    have hnd : A.mir.grs.Nodup := hmp.nodup_iff.mpr (by rw [r1]; exact List.nodup_range')
    have hren : A.mir.num 0 = A.mir.ren fun k => A.mir.grs.idxOf k := FM.num_ren (f := fun k => A.mir.grs.idxOf k) A.mir 0 fun i k e => by
      obtain ⟨hi, he⟩ := List.getElem?_eq_some_iff.mp e
      rw [Nat.zero_add, ← he]
      exact hnd.idxOf_getElem i hi
    intro g hg
    rw [hM, hren, FM.grs_ren] at hg
    obtain ⟨k, hk, rfl⟩ := List.mem_map.mp hg
    have := List.idxOf_lt_length_of_mem hk
    omega
  have wt := fun p : Int => wg_turn (cs := codesT t) (T := A) (N := g2) (p := p) r1
  rw [← hM] at nu lM
  simp only [← hM, ← hh, codesT_len] at wt
  obtain ⟨r, hr⟩ : ∃ r : Str, r = ⟨t.cps.reverse⟩ := ⟨_, rfl⟩
  have hrc : codesT r = (codesT t).reverse := by rw [hr]; exact codes_rev t
  have hrl : r.length = t.length := by
    rw [← codesT_len, hrc, List.length_reverse, codesT_len]
  have hom : ∀ k, k < A.mir.grs.length → k ∈ A.mir.grs := fun k hk => hmp.mem_iff.mpr (by rw [r1]; simp [List.mem_range']; omega)
  generalize hO : A.mir.grs = order at *
  refine run_of (fl := .rt (.v (.bool true)) [stX s4 [.int (g2 : Int), .int (l2 : Int)], .lst (gsD order)]) rfl ?_ (by unfold stX; simp)
  show exec (cbOf tb 39) body_law [.dt (scr ns), .un, .un, .un, .un, .un, .un, .un, .un, .un, .un, .un, .un, .un] [] = _
  unfold body_law
  refine seq_nx (ρ1 := [.dt (scr ns), .mu 0, .un, .un, .un, .un, .un, .un, .un, .un, .un, .un, .un, .un]) (S1 := [.lst [.int 0, .int 0, .int 0, .int 0]]) (by simp [big]) ?_
  refine seq_nx (ρ1 := [.dt (scr ns), .mu 0, .dt (ptD A), .un, .un, .un, .un, .un, .un, .un, .un, .un, .un, .un]) (S1 := [stX s2 [.int (g2 : Int), .int (l2 : Int)]]) ?_ ?_
  · have e : (d : Int) = 2 + (d0' : Int) := by omega
    rw [e] at ha
    unfold stX at ha ⊢
    simp at ha
    simp [d0, ha]
  refine seq_nx (ρ1 := [.dt (scr ns), .mu 0, .dt (ptD A), .dt (.str t), .un, .un, .un, .un, .un, .un, .un, .un, .un, .un]) (S1 := [stX s4 [.int (g2 : Int), .int (l2 : Int)]]) (by unfold stX; simp [htx]) ?_
  refine seq_nx (ρ1 := [.dt (scr ns), .mu 0, .dt (ptD A), .dt (.str t), .dt (.int (t.length : Int)), .un, .un, .un, .un, .un, .un, .un, .un, .un]) (S1 := [stX s4 [.int (g2 : Int), .int (l2 : Int)]]) ?_ ?_
  · have b1 : t.length ≤ 16777216 := by omega
    simp [sizeLine, b1]
  refine seq_nx (ρ1 := [.dt (scr ns), .mu 0, .dt (ptD A), .dt (.str t), .dt (.int (t.length : Int)), .dt (.tuple h), .un, .un, .un, .un, .un, .un, .un, .un]) (S1 := [stX s4 [.int (g2 : Int), .int (l2 : Int)]]) ?_ ?_
  · have lp := rep_lc (cb := cbOf tb 39) (e := .con .none) (i := 12) (m := g2) (v := .none) (ρ := [.dt (scr ns), .mu 0, .dt (ptD A), .dt (.str t), .dt (.int (t.length : Int)), .un, .un, .un, .un, .un, .un, .un, .un, .un]) (S := [stX s4 [.int (g2 : Int), .int (l2 : Int)]]) (by simp) (by omega) (fun x => by simp)
    rw [← hh] at lp
    have b1 : (g2 : Int) ≤ 1000000000 := by omega
    have b2 : (-1000000000 : Int) ≤ g2 := by omega
    have b3 : g2 ≤ 16000000 := by omega
    have b4 : h.length ≤ 16000000 := by omega
    unfold stX at lp ⊢
    simp at lp
    simp [b1, b2, b3, big, wipeR, lp]
  refine seq_nx (ρ1 := [.dt (scr ns), .mu 0, .dt (ptD A), .dt (.str t), .dt (.int (t.length : Int)), .dt (.tuple h), .mu 1, .un, .un, .un, .un, .un, .un, .un]) (S1 := [stX s4 [.int (g2 : Int), .int (l2 : Int)], .lst []]) (by simp [big]) ?_
  refine seq_nx (ρ1 := [.dt (scr ns), .mu 0, .dt (ptD A), .dt (.str t), .dt (.int (t.length : Int)), .dt (.tuple h), .mu 1, .dt (ptD M), .un, .un, .un, .un, .un, .un]) (S1 := [stX s4 [.int (g2 : Int), .int (l2 : Int)], .lst (gsD order)]) ?_ ?_
  · generalize gsD order = G at *
    unfold stX
    simp [mi, nu]
  refine seq_nx (ρ1 := rhoL ns (ptD A) t h (ptD M) r .un .un .un) (S1 := [stX s4 [.int (g2 : Int), .int (l2 : Int)], .lst (gsD order)]) ?_ ?_
  · have lp := rev_lc (n := 39) (t := t) (ρ := [.dt (scr ns), .mu 0, .dt (ptD A), .dt (.str t), .dt (.int (t.length : Int)), .dt (.tuple h), .mu 1, .dt (ptD M), .un, .un, .un, .un, .un, .un]) (S := [stX s4 [.int (g2 : Int), .int (l2 : Int)], .lst (gsD order)]) (by omega) rfl rfl (by simp)
    have hs := strsD_map1 t.cps.toList.reverse
    have hj := joinT_ones t.cps.toList.reverse
    have hrr : (⟨t.cps.toList.reverse.toArray⟩ : Str) = r := by
      rw [hr, ← Array.toList_reverse]
    rw [hrr] at hj
    have hsum : ((t.cps.toList.reverse.map fun c => (⟨#[c]⟩ : Str)).map (·.length)).sum ≤ 16777216 := by
      rw [sum_ones _ fun y hy => by
        obtain ⟨c, _, rfl⟩ := List.mem_map.mp hy
        rfl]
      simp [Str.length] at ht7 ⊢
      omega
    have b1 : (t.length : Int) ≤ 1000000000 := by omega
    have b2 : (-1000000000 : Int) ≤ (t.length : Int) := by omega
    have b3 : t.length ≤ 16000000 := by omega
    have b4 : t.length ≤ 1000000000 := by omega
    have b5 : (Str.ofString "").length = 0 := rfl
    generalize gsD order = G at *
    generalize (t.cps.toList.reverse.map fun c => PyData.str ⟨#[c]⟩) = ds at *
    generalize (t.cps.toList.reverse.map fun c => (⟨#[c]⟩ : Str)) = ys at *
    generalize stX s4 [.int (g2 : Int), .int (l2 : Int)] = c at *
    unfold rhoL
    simp at lp
    simp [b1, b2, b3, b4, b5, big, wipeR, lp, hs, hsum, hj]
  refine seq_nx (ρ1 := rhoL ns (ptD A) t h (ptD M) r .un .un .un) (S1 := [stX s4 [.int (g2 : Int), .int (l2 : Int)], .lst (gsD order)]) ?_ (by unfold rhoL; simp)
  generalize hc : stX s4 [.int (g2 : Int), .int (l2 : Int)] = c
  have fc : fitC 2 c = true := by rw [← hc]; rfl
  rw [ex_for]
  have hi : evI (cbOf tb 39) (rhoL ns (ptD A) t h (ptD M) r .un .un .un) [c, .lst (gsD order)] (.rg1 (.bin .add (.var 4) (.con (.int 1)))) = .ok ((rngD 0 (t.length + 1)).map .dt, none) [c, .lst (gsD order)] := by
    obtain ⟨m, hm⟩ : ∃ m : Int, m = (t.length : Int) + 1 := ⟨_, rfl⟩
    have e1 : m.toNat = t.length + 1 := by omega
    have b4 : m ≤ 1000000000 := by omega
    have b5 : (-1000000000 : Int) ≤ m := by omega
    have he : evE (cbOf tb 39) (rhoL ns (ptD A) t h (ptD M) r .un .un .un) [c, .lst (gsD order)] (.bin .add (.var 4) (.con (.int 1))) = .ok (.v (.int m)) [c, .lst (gsD order)] := by
      rw [hm]
      unfold rhoL
      simp
    rw [evI_rg1, he]
    clear hm he
    simp [b4, b5, e1]
  rw [hi]
  refine loopF_same trivial fun e he => ?_
  obtain ⟨x, hx, rfl⟩ := List.mem_map.mp he
  unfold rngD at hx
  obtain ⟨p, hp, rfl⟩ := List.mem_map.mp hx
  have hp : p ≤ t.length := by have : p < t.length + 1 := by simpa using hp
                               omega
  rw [Int.zero_add]
  have hp0 : (0 : Int) ≤ (p : Int) := by omega
  have hpt : (p : Int) ≤ (t.length : Int) := by omega
  have w1 := ways_lim (n := 30) (T := A) (back := true) (t := t) (p := (p : Int)) (h := h) lA (by omega) ht7 hp0 hpt gA'
  have w2 := ways_lim (n := 30) (T := M) (back := false) (t := r) (p := (t.length : Int) - (p : Int)) (h := h) lM (by omega) (by omega) (by omega) (by omega) gM
  have wtp := wt (p : Int)
  rw [hrc] at w2
  rw [wtp] at w1
  have hXl := W_len (cs := (codesT t).reverse) (T := M) (back := false) (p := (t.length : Int) - (p : Int)) (by omega) (by rw [List.length_reverse, codesT_len]; omega)
  have hX : ∀ w ∈ wgP (M.W (codesT t).reverse false ((t.length : Int) - (p : Int))) h, w.2.length = order.length ∧ ∀ d ∈ w.2, PrN d := fun w hw => by
    obtain ⟨v, _, rfl⟩ := List.mem_map.mp hw
    refine ⟨by show (ap v.2 h).length = _; rw [FM.ap_len, hhl, hml], ap_all (.inl rfl) (fun a b => .inr ⟨a, b, rfl⟩) v.2 h fun d hd => ?_⟩
    rw [hh] at hd
    exact .inl (List.mem_replicate.mp hd).2
  have hZ := dOk_gws (ws := wgP (A.W (codesT t) true (p : Int)) h) (by
    have := W_len (cs := codesT t) (T := A) (back := true) (p := (p : Int)) hp0 (by rw [codesT_len]; exact hpt)
    rw [codesT_len] at this
    simp [FM.wg]
    omega) (wg_hok hok)
  rw [wtp] at hZ
  have hXl2 : (wgP (M.W (codesT t).reverse false ((t.length : Int) - (p : Int))) h).length ≤ 1000 := by
    rw [List.length_reverse, codesT_len] at hXl
    simp [FM.wg]
    omega
  generalize wgP (M.W (codesT t).reverse false ((t.length : Int) - (p : Int))) h = X at *
  have sm := ok_same (n := 39) (dOk_le (by omega) hZ)
  -- the turned ways
  have lp := lcF_filt (t := lcT (cbOf tb 39) .none) (f := lcE (cbOf tb 39) (.call f__law_turned (.cons (.var 13) (.cons (.var 4) (.cons (.var 6) .nil))))) (b := bindE (.nm 13)) (ch := none) (n0 := 2) (ρ := rhoL ns (ptD A) t h (ptD M) r (.dt (.int (p : Int))) (.dt (.list (X.map gwD))) .un) (S := [c, .lst (gsD order)]) (fun w : GW => .dt (gwD w)) (fun _ => true) (fun w => gwD ((t.length : Int) - w.1, trnG t.length order w.2)) trivial (by simp) X [] (by simp [big]; omega) (fun w hw => by
    obtain ⟨hw1, hw2⟩ := hX w hw
    have tu := ok_turned (n := 38) (order := order) (w := w) (L := (t.length : Int)) (by omega) hom hw1 hw2
    refine ⟨[.dt (scr ns), .mu 0, .dt (ptD A), .dt (.str t), .dt (.int (t.length : Int)), .dt (.tuple h), .mu 1, .dt (ptD M), .dt (.str r), .dt (.int (p : Int)), .dt (.list (X.map gwD)), .un, .un, .dt (gwD w)], rfl, by simp, fun _ => ⟨.v (gwD ((t.length : Int) - w.1, trnG t.length order w.2)), ?_, rfl⟩⟩
    generalize gwD ((t.length : Int) - w.1, trnG t.length order w.2) = z at *
    generalize gwD w = y at *
    generalize gsD order = G at *
    simp [tu])
  rw [filt_true fun _ _ => rfl, List.nil_append] at lp
  have em : (X.map gwD).map En.dt = X.map fun w => En.dt (gwD w) := by rw [List.map_map]; rfl
  rw [← em] at lp
  have ez : X.map (fun w : GW => gwD ((t.length : Int) - w.1, trnG t.length order w.2)) = (X.map fun w : GW => ((t.length : Int) - w.1, trnG t.length order w.2)).map gwD := by rw [List.map_map]; rfl
  rw [ez] at lp
  have xl : (X.map gwD).length ≤ 16000000 := by rw [List.length_map]; omega
  generalize (X.map fun w : GW => ((t.length : Int) - w.1, trnG t.length order w.2)).map gwD = Z at *
  generalize X.map gwD = Y at *
  refine ⟨rhoL ns (ptD A) t h (ptD M) r (.dt (.int (p : Int))) (.dt (.list Y)) (.dt (.list Z)), [c, .lst (gsD order)], ?_, rfl, by unfold trim; simp⟩
  have r0 : (rhoL ns (ptD A) t h (ptD M) r .un .un .un).set 9 (.dt (.int (p : Int))) = rhoL ns (ptD A) t h (ptD M) r (.dt (.int (p : Int))) .un .un := rfl
  rw [forB_nm, r0]
  generalize gsD order = G at *
  unfold rhoL at lp ⊢
  simp [w1, w2, lp, sm, big, wipeR, xl]

end Lw
end

section
set_option Elab.async false
set_option linter.all false
set_option maxRecDepth 100000
set_option maxHeartbeats 8000000
namespace Lw
open PySem PySem.Spec PyProof.Rows L2 DL VM
def topS (i : Nat) : Stmt := PySem.Challenge.pw_firstway_k15_mirrored_ways.main.body.getD i (.Pass ⟨0, 0, 0, 0⟩)
abbrev s_contains : Stmt := topS 4
theorem sc_contains : FnScope ["a", "code", "low", "high"] ["a", "code"] (defScope s_contains) := ⟨rfl, rfl, rfl, by decide +kernel, rfl, by decide +kernel, by decide +kernel⟩
abbrev s__is_in : Stmt := topS 6
theorem sc__is_in : FnScope ["codes", "code"] ["codes", "code"] (defScope s__is_in) := ⟨rfl, rfl, rfl, by decide +kernel, rfl, by decide +kernel, by decide +kernel⟩
abbrev s_anchor_holds : Stmt := topS 7
theorem sc_anchor_holds : FnScope ["name", "before", "after", "at_border"] ["name", "before", "after"] (defScope s_anchor_holds) := ⟨rfl, rfl, rfl, by decide +kernel, rfl, by decide +kernel, by decide +kernel⟩
abbrev s_clearing : Stmt := topS 9
theorem sc_clearing : FnScope ["groups"] ["groups"] (defScope s_clearing) := ⟨rfl, rfl, rfl, by decide +kernel, rfl, by decide +kernel, by decide +kernel⟩
abbrev s_both : Stmt := topS 10
theorem sc_both : FnScope ["earlier", "later"] ["earlier", "later"] (defScope s_both) := ⟨rfl, rfl, rfl, by decide +kernel, rfl, by decide +kernel, by decide +kernel⟩
abbrev s_changed : Stmt := topS 11
theorem sc_changed : FnScope ["held", "change", "groups", "todo", "part", "group"] ["held", "change"] (defScope s_changed) := ⟨rfl, rfl, rfl, by decide +kernel, rfl, by decide +kernel, by decide +kernel⟩
abbrev s_parts : Stmt := topS 13
theorem sc_parts : FnScope ["tree", "kind"] ["tree"] (defScope s_parts) := ⟨rfl, rfl, rfl, by decide +kernel, rfl, by decide +kernel, by decide +kernel⟩
abbrev s_bottom_up : Stmt := topS 14
theorem sc_bottom_up : FnScope ["tree", "found", "todo", "part"] ["tree"] (defScope s_bottom_up) := ⟨rfl, rfl, rfl, by decide +kernel, rfl, by decide +kernel, by decide +kernel⟩
abbrev s_bottom_up_directed : Stmt := topS 15
theorem sc_bottom_up_directed : FnScope ["tree", "backward", "found", "todo", "part", "back", "inner"] ["tree", "backward"] (defScope s_bottom_up_directed) := ⟨rfl, rfl, rfl, by decide +kernel, rfl, by decide +kernel, by decide +kernel⟩
abbrev s_inner_groups : Stmt := topS 17
theorem sc_inner_groups : FnScope ["tree", "part"] ["tree"] (defScope s_inner_groups) := ⟨rfl, rfl, rfl, by decide +kernel, rfl, by decide +kernel, by decide +kernel⟩
abbrev s_make_plan : Stmt := topS 19
theorem sc_make_plan : FnScope ["tree", "backward", "rows", "done", "part", "back", "below", "_"] ["tree", "backward"] (defScope s_make_plan) := ⟨rfl, rfl, rfl, by decide +kernel, rfl, by decide +kernel, by decide +kernel⟩
abbrev s__add : Stmt := topS 20
theorem sc__add : FnScope ["rows", "row"] ["rows", "row"] (defScope s__add) := ⟨rfl, rfl, rfl, by decide +kernel, rfl, by decide +kernel, by decide +kernel⟩
abbrev s__add_part : Stmt := topS 21
theorem sc__add_part : FnScope ["rows", "part", "below", "backward", "kind"] ["rows", "part", "below", "backward"] (defScope s__add_part) := ⟨rfl, rfl, rfl, by decide +kernel, rfl, by decide +kernel, by decide +kernel⟩
abbrev s__add_repeat : Stmt := topS 22
theorem sc__add_repeat : FnScope ["rows", "part", "below", "_", "inner", "least", "most", "greedy", "iteration", "whole"] ["rows", "part", "below"] (defScope s__add_repeat) := ⟨rfl, rfl, rfl, by decide +kernel, rfl, by decide +kernel, by decide +kernel⟩
abbrev s_Finder___init__ : Stmt := inClass (topS 24) 0
theorem sc_Finder___init__ : FnScope ["self", "tree", "text", "backward", "sign"] ["self", "tree", "text", "backward"] (defScope s_Finder___init__) := ⟨rfl, rfl, rfl, by decide +kernel, rfl, by decide +kernel, by decide +kernel⟩
abbrev s_Finder_ways_from : Stmt := inClass (topS 24) 1
theorem sc_Finder_ways_from : FnScope ["self", "position", "held", "end", "change"] ["self", "position", "held"] (defScope s_Finder_ways_from) := ⟨rfl, rfl, rfl, by decide +kernel, rfl, by decide +kernel, by decide +kernel⟩
abbrev s_Finder__solved : Stmt := inClass (topS 24) 3
theorem sc_Finder__solved : FnScope ["self", "position", "goal", "todo", "number", "place", "missing"] ["self", "position"] (defScope s_Finder__solved) := ⟨rfl, rfl, rfl, by decide +kernel, rfl, by decide +kernel, by decide +kernel⟩
abbrev s_Finder__missing : Stmt := inClass (topS 24) 4
theorem sc_Finder__missing : FnScope ["self", "number", "position", "row", "kind", "goals", "goal"] ["self", "number", "position"] (defScope s_Finder__missing) := ⟨rfl, rfl, rfl, by decide +kernel, rfl, by decide +kernel, by decide +kernel⟩
abbrev s_Finder__chained : Stmt := inClass (topS 24) 5
theorem sc_Finder__chained : FnScope ["self", "row", "position", "ends", "end", "_"] ["self", "row", "position"] (defScope s_Finder__chained) := ⟨rfl, rfl, rfl, by decide +kernel, rfl, by decide +kernel, by decide +kernel⟩
abbrev s_Finder__found : Stmt := inClass (topS 24) 6
theorem sc_Finder__found : FnScope ["self", "number", "position", "row", "kind", "cleared", "end", "change"] ["self", "number", "position"] (defScope s_Finder__found) := ⟨rfl, rfl, rfl, by decide +kernel, rfl, by decide +kernel, by decide +kernel⟩
abbrev s_Finder__code : Stmt := inClass (topS 24) 7
theorem sc_Finder__code : FnScope ["self", "index"] ["self", "index"] (defScope s_Finder__code) := ⟨rfl, rfl, rfl, by decide +kernel, rfl, by decide +kernel, by decide +kernel⟩
abbrev s_Finder__holds : Stmt := inClass (topS 24) 8
theorem sc_Finder__holds : FnScope ["self", "name", "position"] ["self", "name", "position"] (defScope s_Finder__holds) := ⟨rfl, rfl, rfl, by decide +kernel, rfl, by decide +kernel, by decide +kernel⟩
abbrev s_Finder__set_ways : Stmt := inClass (topS 24) 9
theorem sc_Finder__set_ways : FnScope ["self", "row", "position", "_", "codes", "backward", "code"] ["self", "row", "position"] (defScope s_Finder__set_ways) := ⟨rfl, rfl, rfl, by decide +kernel, rfl, by decide +kernel, by decide +kernel⟩
abbrev s_Finder__chain_ways : Stmt := inClass (topS 24) 10
theorem sc_Finder__chain_ways : FnScope ["self", "row", "position", "further", "ways_by_end", "middle", "earlier", "end", "later"] ["self", "row", "position"] (defScope s_Finder__chain_ways) := ⟨rfl, rfl, rfl, by decide +kernel, rfl, by decide +kernel, by decide +kernel⟩
abbrev s__once : Stmt := topS 25
theorem sc__once : FnScope ["found", "ways_by_end", "end", "change"] ["found"] (defScope s__once) := ⟨rfl, rfl, rfl, by decide +kernel, rfl, by decide +kernel, by decide +kernel⟩
abbrev s__group_ways : Stmt := topS 26
theorem sc__group_ways : FnScope ["group", "position", "found", "end", "change"] ["group", "position", "found"] (defScope s__group_ways) := ⟨rfl, rfl, rfl, by decide +kernel, rfl, by decide +kernel, by decide +kernel⟩
abbrev s__look_ways : Stmt := topS 27
theorem sc__look_ways : FnScope ["row", "position", "found", "positive"] ["row", "position", "found"] (defScope s__look_ways) := ⟨rfl, rfl, rfl, by decide +kernel, rfl, by decide +kernel, by decide +kernel⟩
abbrev s_ways : Stmt := topS 29
theorem sc_ways : FnScope ["tree", "text", "position", "held", "backward"] ["tree", "text", "position", "held", "backward"] (defScope s_ways) := ⟨rfl, rfl, rfl, by decide +kernel, rfl, by decide +kernel, by decide +kernel⟩
abbrev s__law_row : Stmt := topS 31
theorem sc__law_row : FnScope ["script", "k", "cell", "mixed"] ["script", "k"] (defScope s__law_row) := ⟨rfl, rfl, rfl, by decide +kernel, rfl, by decide +kernel, by decide +kernel⟩
abbrev s__law_digit : Stmt := topS 32
theorem sc__law_digit : FnScope ["script", "state", "many", "digit"] ["script", "state", "many"] (defScope s__law_digit) := ⟨rfl, rfl, rfl, by decide +kernel, rfl, by decide +kernel, by decide +kernel⟩
abbrev s__law_codes : Stmt := topS 33
theorem sc__law_codes : FnScope ["script", "state", "style", "low", "named", "high", "start"] ["script", "state"] (defScope s__law_codes) := ⟨rfl, rfl, rfl, by decide +kernel, rfl, by decide +kernel, by decide +kernel⟩
abbrev s__law_leaf : Stmt := topS 34
theorem sc__law_leaf : FnScope ["script", "state", "kind", "names"] ["script", "state", "kind"] (defScope s__law_leaf) := ⟨rfl, rfl, rfl, by decide +kernel, rfl, by decide +kernel, by decide +kernel⟩
abbrev s__law_repeat : Stmt := topS 35
theorem sc__law_repeat : FnScope ["script", "state", "depth", "least", "most", "greedy"] ["script", "state", "depth"] (defScope s__law_repeat) := ⟨rfl, rfl, rfl, by decide +kernel, rfl, by decide +kernel, by decide +kernel⟩
abbrev s__law_tree : Stmt := topS 36
theorem sc__law_tree : FnScope ["script", "state", "depth", "kind", "first", "number", "ahead", "positive"] ["script", "state", "depth"] (defScope s__law_tree) := ⟨rfl, rfl, rfl, by decide +kernel, rfl, by decide +kernel, by decide +kernel⟩
abbrev s__law_text : Stmt := topS 37
theorem sc__law_text : FnScope ["script", "state", "most", "signs", "size", "k"] ["script", "state", "most"] (defScope s__law_text) := ⟨rfl, rfl, rfl, by decide +kernel, rfl, by decide +kernel, by decide +kernel⟩
abbrev s__law_same : Stmt := topS 38
theorem sc__law_same : FnScope ["actual", "expected", "k"] ["actual", "expected"] (defScope s__law_same) := ⟨rfl, rfl, rfl, by decide +kernel, rfl, by decide +kernel, by decide +kernel⟩
abbrev s__law_mirror : Stmt := topS 39
theorem sc__law_mirror : FnScope ["tree", "swapped"] ["tree"] (defScope s__law_mirror) := ⟨rfl, rfl, rfl, by decide +kernel, rfl, by decide +kernel, by decide +kernel⟩
abbrev s__law_numbered : Stmt := topS 40
theorem sc__law_numbered : FnScope ["tree", "order", "first", "number"] ["tree", "order"] (defScope s__law_numbered) := ⟨rfl, rfl, rfl, by decide +kernel, rfl, by decide +kernel, by decide +kernel⟩
abbrev s__law_turned : Stmt := topS 41
theorem sc__law_turned : FnScope ["way", "size", "order", "groups", "k", "pair"] ["way", "size", "order"] (defScope s__law_turned) := ⟨rfl, rfl, rfl, by decide +kernel, rfl, by decide +kernel, by decide +kernel⟩
abbrev s_law : Stmt := topS 42
theorem sc_law : FnScope ["script", "state", "tree", "text", "size", "groups", "order", "mirror", "reverse", "at", "found", "expected", "k", "way"] ["script"] (defScope s_law) := ⟨rfl, rfl, rfl, by decide +kernel, rfl, by decide +kernel, by decide +kernel⟩
abbrev clV (A : Nat → Addr) : Nat → Addr := fun c => if c = 0 then A 24 else A 24
structure Txt (K : PySem.W.Frag) (mg : Str → Option Value) (A : Nat → Addr) (FD : Nat → FuncData) (V0 : Nat → V) : Prop where
  F_contains : Fun K "contains" "contains" s_contains (A 4) (FD 4)
  b_contains : Binds K (FD 4) ["a", "code"] []
  g_contains : mg "contains" = some (.ref (A 4))
  F__is_in : Fun K "_is_in" "_is_in" s__is_in (A 6) (FD 6)
  b__is_in : Binds K (FD 6) ["codes", "code"] []
  g__is_in : mg "_is_in" = some (.ref (A 6))
  F_anchor_holds : Fun K "anchor_holds" "anchor_holds" s_anchor_holds (A 7) (FD 7)
  b_anchor_holds : Binds K (FD 7) ["name", "before", "after"] []
  g_anchor_holds : mg "anchor_holds" = some (.ref (A 7))
  F_clearing : Fun K "clearing" "clearing" s_clearing (A 9) (FD 9)
  b_clearing : Binds K (FD 9) ["groups"] []
  g_clearing : mg "clearing" = some (.ref (A 9))
  F_both : Fun K "both" "both" s_both (A 10) (FD 10)
  b_both : Binds K (FD 10) ["earlier", "later"] []
  g_both : mg "both" = some (.ref (A 10))
  F_changed : Fun K "changed" "changed" s_changed (A 11) (FD 11)
  b_changed : Binds K (FD 11) ["held", "change"] []
  g_changed : mg "changed" = some (.ref (A 11))
  F_parts : Fun K "parts" "parts" s_parts (A 13) (FD 13)
  b_parts : Binds K (FD 13) ["tree"] []
  g_parts : mg "parts" = some (.ref (A 13))
  F_bottom_up : Fun K "bottom_up" "bottom_up" s_bottom_up (A 14) (FD 14)
  b_bottom_up : Binds K (FD 14) ["tree"] []
  g_bottom_up : mg "bottom_up" = some (.ref (A 14))
  F_bottom_up_directed : Fun K "bottom_up_directed" "bottom_up_directed" s_bottom_up_directed (A 15) (FD 15)
  b_bottom_up_directed : Binds K (FD 15) ["tree", "backward"] []
  g_bottom_up_directed : mg "bottom_up_directed" = some (.ref (A 15))
  F_inner_groups : Fun K "inner_groups" "inner_groups" s_inner_groups (A 17) (FD 17)
  b_inner_groups : Binds K (FD 17) ["tree"] []
  g_inner_groups : mg "inner_groups" = some (.ref (A 17))
  F_make_plan : Fun K "make_plan" "make_plan" s_make_plan (A 19) (FD 19)
  b_make_plan : Binds K (FD 19) ["tree", "backward"] []
  g_make_plan : mg "make_plan" = some (.ref (A 19))
  F__add : Fun K "_add" "_add" s__add (A 20) (FD 20)
  b__add : Binds K (FD 20) ["rows", "row"] []
  g__add : mg "_add" = some (.ref (A 20))
  F__add_part : Fun K "_add_part" "_add_part" s__add_part (A 21) (FD 21)
  b__add_part : Binds K (FD 21) ["rows", "part", "below", "backward"] []
  g__add_part : mg "_add_part" = some (.ref (A 21))
  F__add_repeat : Fun K "_add_repeat" "_add_repeat" s__add_repeat (A 22) (FD 22)
  b__add_repeat : Binds K (FD 22) ["rows", "part", "below"] []
  g__add_repeat : mg "_add_repeat" = some (.ref (A 22))
  F_Finder___init__ : Fun K "__init__" "Finder.__init__" s_Finder___init__ (A 25000) (FD 25000)
  b_Finder___init__ : Binds K (FD 25000) ["self", "tree", "text", "backward"] []
  F_Finder_ways_from : Fun K "ways_from" "Finder.ways_from" s_Finder_ways_from (A 25001) (FD 25001)
  b_Finder_ways_from : Binds K (FD 25001) ["self", "position", "held"] []
  mt_Finder_ways_from : Meth K (clV A 0) "ways_from" (A 25001)
  F_Finder__solved : Fun K "_solved" "Finder._solved" s_Finder__solved (A 25003) (FD 25003)
  b_Finder__solved : Binds K (FD 25003) ["self", "position"] []
  mt_Finder__solved : Meth K (clV A 0) "_solved" (A 25003)
  F_Finder__missing : Fun K "_missing" "Finder._missing" s_Finder__missing (A 25004) (FD 25004)
  b_Finder__missing : Binds K (FD 25004) ["self", "number", "position"] []
  mt_Finder__missing : Meth K (clV A 0) "_missing" (A 25004)
  F_Finder__chained : Fun K "_chained" "Finder._chained" s_Finder__chained (A 25005) (FD 25005)
  b_Finder__chained : Binds K (FD 25005) ["self", "row", "position"] []
  mt_Finder__chained : Meth K (clV A 0) "_chained" (A 25005)
  F_Finder__found : Fun K "_found" "Finder._found" s_Finder__found (A 25006) (FD 25006)
  b_Finder__found : Binds K (FD 25006) ["self", "number", "position"] []
  mt_Finder__found : Meth K (clV A 0) "_found" (A 25006)
  F_Finder__code : Fun K "_code" "Finder._code" s_Finder__code (A 25007) (FD 25007)
  b_Finder__code : Binds K (FD 25007) ["self", "index"] []
  mt_Finder__code : Meth K (clV A 0) "_code" (A 25007)
  F_Finder__holds : Fun K "_holds" "Finder._holds" s_Finder__holds (A 25008) (FD 25008)
  b_Finder__holds : Binds K (FD 25008) ["self", "name", "position"] []
  mt_Finder__holds : Meth K (clV A 0) "_holds" (A 25008)
  F_Finder__set_ways : Fun K "_set_ways" "Finder._set_ways" s_Finder__set_ways (A 25009) (FD 25009)
  b_Finder__set_ways : Binds K (FD 25009) ["self", "row", "position"] []
  mt_Finder__set_ways : Meth K (clV A 0) "_set_ways" (A 25009)
  F_Finder__chain_ways : Fun K "_chain_ways" "Finder._chain_ways" s_Finder__chain_ways (A 25010) (FD 25010)
  b_Finder__chain_ways : Binds K (FD 25010) ["self", "row", "position"] []
  mt_Finder__chain_ways : Meth K (clV A 0) "_chain_ways" (A 25010)
  F__once : Fun K "_once" "_once" s__once (A 25) (FD 25)
  b__once : Binds K (FD 25) ["found"] []
  g__once : mg "_once" = some (.ref (A 25))
  F__group_ways : Fun K "_group_ways" "_group_ways" s__group_ways (A 26) (FD 26)
  b__group_ways : Binds K (FD 26) ["group", "position", "found"] []
  g__group_ways : mg "_group_ways" = some (.ref (A 26))
  F__look_ways : Fun K "_look_ways" "_look_ways" s__look_ways (A 27) (FD 27)
  b__look_ways : Binds K (FD 27) ["row", "position", "found"] []
  g__look_ways : mg "_look_ways" = some (.ref (A 27))
  F_ways : Fun K "ways" "ways" s_ways (A 29) (FD 29)
  g_ways : mg "ways" = some (.ref (A 29))
  F__law_row : Fun K "_law_row" "_law_row" s__law_row (A 31) (FD 31)
  b__law_row : Binds K (FD 31) ["script", "k"] []
  g__law_row : mg "_law_row" = some (.ref (A 31))
  F__law_digit : Fun K "_law_digit" "_law_digit" s__law_digit (A 32) (FD 32)
  b__law_digit : Binds K (FD 32) ["script", "state", "many"] []
  g__law_digit : mg "_law_digit" = some (.ref (A 32))
  F__law_codes : Fun K "_law_codes" "_law_codes" s__law_codes (A 33) (FD 33)
  b__law_codes : Binds K (FD 33) ["script", "state"] []
  g__law_codes : mg "_law_codes" = some (.ref (A 33))
  F__law_leaf : Fun K "_law_leaf" "_law_leaf" s__law_leaf (A 34) (FD 34)
  b__law_leaf : Binds K (FD 34) ["script", "state", "kind"] []
  g__law_leaf : mg "_law_leaf" = some (.ref (A 34))
  F__law_repeat : Fun K "_law_repeat" "_law_repeat" s__law_repeat (A 35) (FD 35)
  b__law_repeat : Binds K (FD 35) ["script", "state", "depth"] []
  g__law_repeat : mg "_law_repeat" = some (.ref (A 35))
  F__law_tree : Fun K "_law_tree" "_law_tree" s__law_tree (A 36) (FD 36)
  b__law_tree : Binds K (FD 36) ["script", "state", "depth"] []
  g__law_tree : mg "_law_tree" = some (.ref (A 36))
  F__law_text : Fun K "_law_text" "_law_text" s__law_text (A 37) (FD 37)
  b__law_text : Binds K (FD 37) ["script", "state", "most"] []
  g__law_text : mg "_law_text" = some (.ref (A 37))
  F__law_same : Fun K "_law_same" "_law_same" s__law_same (A 38) (FD 38)
  b__law_same : Binds K (FD 38) ["actual", "expected"] []
  g__law_same : mg "_law_same" = some (.ref (A 38))
  F__law_mirror : Fun K "_law_mirror" "_law_mirror" s__law_mirror (A 39) (FD 39)
  b__law_mirror : Binds K (FD 39) ["tree"] []
  g__law_mirror : mg "_law_mirror" = some (.ref (A 39))
  F__law_numbered : Fun K "_law_numbered" "_law_numbered" s__law_numbered (A 40) (FD 40)
  b__law_numbered : Binds K (FD 40) ["tree", "order"] []
  g__law_numbered : mg "_law_numbered" = some (.ref (A 40))
  F__law_turned : Fun K "_law_turned" "_law_turned" s__law_turned (A 41) (FD 41)
  b__law_turned : Binds K (FD 41) ["way", "size", "order"] []
  g__law_turned : mg "_law_turned" = some (.ref (A 41))
  F_law : Fun K "law" "law" s_law (A 42) (FD 42)
  b_law : Binds K (FD 42) ["script"] []
  g_law : mg "law" = some (.ref (A 42))
  kb0 : ∃ g, KBn K (FD 29) ["tree", "text", "position", "held", "backward"] 3 ["held"] g (fun vs zs => vs ++ (zs ++ [(V.bl false)]))
  kb1 : ∃ g, KBn K (FD 29) ["tree", "text", "position", "held", "backward"] 3 ["held", "backward"] g (fun vs zs => vs ++ (zs ++ []))
  gc_Finder : mg "Finder" = some (.ref (clV A 0))
  mk_Finder : Mk K (clV A 0) (A 25000)
  cls : ∀ c, Cls K (clV A c)
  na_codes : ∀ c, NoAttr K (clV A c) "codes"
  na_known : ∀ c, NoAttr K (clV A c) "known"
  na_rows : ∀ c, NoAttr K (clV A c) "rows"
  m_bool : mg "bool" = none
  m_int : mg "int" = none
  m_isinstance : mg "isinstance" = none
  m_len : mg "len" = none
  m_list : mg "list" = none
  m_max : mg "max" = none
  m_min : mg "min" = none
  m_ord : mg "ord" = none
  m_range : mg "range" = none
  m_sorted : mg "sorted" = none
  m_str : mg "str" = none
  m_tuple : mg "tuple" = none
  c_WORD : ∃ u, mg "WORD" = some u ∧ RelV (V0 1) u ∧ KDat K (V0 1) dat_WORD
  c_LINE_ENDS : ∃ u, mg "LINE_ENDS" = some u ∧ RelV (V0 2) u ∧ KDat K (V0 2) dat_LINE_ENDS
structure Lv (P : Program) (w : World) (K : PySem.W.Frag) (mg : Str → Option Value) (base : Heap) (A : Nat → Addr) (FD : Nat → FuncData) (n : Nat) : Prop where
  c_contains : FnOk P w K mg base CX0 (n + 1) (A 4) (FD 4) ["a", "code"] (spV K (clV A) (fun _ => Value.none) (tb f_contains).args (run tb n f_contains))
  c__is_in : FnOk P w K mg base CX0 (n + 1) (A 6) (FD 6) ["codes", "code"] (spV K (clV A) (fun _ => Value.none) (tb f__is_in).args (run tb n f__is_in))
  c_anchor_holds : FnOk P w K mg base CX0 (n + 1) (A 7) (FD 7) ["name", "before", "after"] (spV K (clV A) (fun _ => Value.none) (tb f_anchor_holds).args (run tb n f_anchor_holds))
  c_clearing : FnOk P w K mg base CX0 (n + 1) (A 9) (FD 9) ["groups"] (spV K (clV A) (fun _ => Value.none) (tb f_clearing).args (run tb n f_clearing))
  c_both : FnOk P w K mg base CX0 (n + 1) (A 10) (FD 10) ["earlier", "later"] (spV K (clV A) (fun _ => Value.none) (tb f_both).args (run tb n f_both))
  c_changed : FnOk P w K mg base CX0 (n + 1) (A 11) (FD 11) ["held", "change"] (spV K (clV A) (fun _ => Value.none) (tb f_changed).args (run tb n f_changed))
  c_parts : FnOk P w K mg base CX0 (n + 1) (A 13) (FD 13) ["tree"] (spV K (clV A) (fun _ => Value.none) (tb f_parts).args (run tb n f_parts))
  c_bottom_up : FnOk P w K mg base CX0 (n + 1) (A 14) (FD 14) ["tree"] (spV K (clV A) (fun _ => Value.none) (tb f_bottom_up).args (run tb n f_bottom_up))
  c_bottom_up_directed : FnOk P w K mg base CX0 (n + 1) (A 15) (FD 15) ["tree", "backward"] (spV K (clV A) (fun _ => Value.none) (tb f_bottom_up_directed).args (run tb n f_bottom_up_directed))
  c_inner_groups : FnOk P w K mg base CX0 (n + 1) (A 17) (FD 17) ["tree"] (spV K (clV A) (fun _ => Value.none) (tb f_inner_groups).args (run tb n f_inner_groups))
  c_make_plan : FnOk P w K mg base CX0 (n + 1) (A 19) (FD 19) ["tree", "backward"] (spV K (clV A) (fun _ => Value.none) (tb f_make_plan).args (run tb n f_make_plan))
  c__add : FnOk P w K mg base CX0 (n + 1) (A 20) (FD 20) ["rows", "row"] (spV K (clV A) (fun _ => Value.none) (tb f__add).args (run tb n f__add))
  c__add_part : FnOk P w K mg base CX0 (n + 1) (A 21) (FD 21) ["rows", "part", "below", "backward"] (spV K (clV A) (fun _ => Value.none) (tb f__add_part).args (run tb n f__add_part))
  c__add_repeat : FnOk P w K mg base CX0 (n + 1) (A 22) (FD 22) ["rows", "part", "below"] (spV K (clV A) (fun _ => Value.none) (tb f__add_repeat).args (run tb n f__add_repeat))
  c_Finder___init__ : FnOk P w K mg base CX0 (n + 1) (A 25000) (FD 25000) ["self", "tree", "text", "backward"] (spV K (clV A) (fun _ => Value.none) (tb f_Finder___init__).args (run tb n f_Finder___init__))
  m_Finder___init__ : FnOk P w K mg base CX0 n (A 25000) (FD 25000) ["self", "tree", "text", "backward"] (spV K (clV A) (fun _ => Value.none) (tb f_Finder___init__).args (runm tb n f_Finder___init__))
  c_Finder_ways_from : FnOk P w K mg base CX0 (n + 1) (A 25001) (FD 25001) ["self", "position", "held"] (spV K (clV A) (fun _ => Value.none) (tb f_Finder_ways_from).args (run tb n f_Finder_ways_from))
  c_Finder__solved : FnOk P w K mg base CX0 (n + 1) (A 25003) (FD 25003) ["self", "position"] (spV K (clV A) (fun _ => Value.none) (tb f_Finder__solved).args (run tb n f_Finder__solved))
  c_Finder__missing : FnOk P w K mg base CX0 (n + 1) (A 25004) (FD 25004) ["self", "number", "position"] (spV K (clV A) (fun _ => Value.none) (tb f_Finder__missing).args (run tb n f_Finder__missing))
  c_Finder__chained : FnOk P w K mg base CX0 (n + 1) (A 25005) (FD 25005) ["self", "row", "position"] (spV K (clV A) (fun _ => Value.none) (tb f_Finder__chained).args (run tb n f_Finder__chained))
  c_Finder__found : FnOk P w K mg base CX0 (n + 1) (A 25006) (FD 25006) ["self", "number", "position"] (spV K (clV A) (fun _ => Value.none) (tb f_Finder__found).args (run tb n f_Finder__found))
  c_Finder__code : FnOk P w K mg base CX0 (n + 1) (A 25007) (FD 25007) ["self", "index"] (spV K (clV A) (fun _ => Value.none) (tb f_Finder__code).args (run tb n f_Finder__code))
  c_Finder__holds : FnOk P w K mg base CX0 (n + 1) (A 25008) (FD 25008) ["self", "name", "position"] (spV K (clV A) (fun _ => Value.none) (tb f_Finder__holds).args (run tb n f_Finder__holds))
  c_Finder__set_ways : FnOk P w K mg base CX0 (n + 1) (A 25009) (FD 25009) ["self", "row", "position"] (spV K (clV A) (fun _ => Value.none) (tb f_Finder__set_ways).args (run tb n f_Finder__set_ways))
  c_Finder__chain_ways : FnOk P w K mg base CX0 (n + 1) (A 25010) (FD 25010) ["self", "row", "position"] (spV K (clV A) (fun _ => Value.none) (tb f_Finder__chain_ways).args (run tb n f_Finder__chain_ways))
  c__once : FnOk P w K mg base CX0 (n + 1) (A 25) (FD 25) ["found"] (spV K (clV A) (fun _ => Value.none) (tb f__once).args (run tb n f__once))
  c__group_ways : FnOk P w K mg base CX0 (n + 1) (A 26) (FD 26) ["group", "position", "found"] (spV K (clV A) (fun _ => Value.none) (tb f__group_ways).args (run tb n f__group_ways))
  c__look_ways : FnOk P w K mg base CX0 (n + 1) (A 27) (FD 27) ["row", "position", "found"] (spV K (clV A) (fun _ => Value.none) (tb f__look_ways).args (run tb n f__look_ways))
  c_ways : FnOk P w K mg base CX0 (n + 1) (A 29) (FD 29) ["tree", "text", "position", "held", "backward"] (spV K (clV A) (fun _ => Value.none) (tb f_ways).args (run tb n f_ways))
  c__law_row : FnOk P w K mg base CX0 (n + 1) (A 31) (FD 31) ["script", "k"] (spV K (clV A) (fun _ => Value.none) (tb f__law_row).args (run tb n f__law_row))
  c__law_digit : FnOk P w K mg base CX0 (n + 1) (A 32) (FD 32) ["script", "state", "many"] (spV K (clV A) (fun _ => Value.none) (tb f__law_digit).args (run tb n f__law_digit))
  c__law_codes : FnOk P w K mg base CX0 (n + 1) (A 33) (FD 33) ["script", "state"] (spV K (clV A) (fun _ => Value.none) (tb f__law_codes).args (run tb n f__law_codes))
  c__law_leaf : FnOk P w K mg base CX0 (n + 1) (A 34) (FD 34) ["script", "state", "kind"] (spV K (clV A) (fun _ => Value.none) (tb f__law_leaf).args (run tb n f__law_leaf))
  c__law_repeat : FnOk P w K mg base CX0 (n + 1) (A 35) (FD 35) ["script", "state", "depth"] (spV K (clV A) (fun _ => Value.none) (tb f__law_repeat).args (run tb n f__law_repeat))
  c__law_tree : FnOk P w K mg base CX0 (n + 1) (A 36) (FD 36) ["script", "state", "depth"] (spV K (clV A) (fun _ => Value.none) (tb f__law_tree).args (run tb n f__law_tree))
  c__law_text : FnOk P w K mg base CX0 (n + 1) (A 37) (FD 37) ["script", "state", "most"] (spV K (clV A) (fun _ => Value.none) (tb f__law_text).args (run tb n f__law_text))
  c__law_same : FnOk P w K mg base CX0 (n + 1) (A 38) (FD 38) ["actual", "expected"] (spV K (clV A) (fun _ => Value.none) (tb f__law_same).args (run tb n f__law_same))
  c__law_mirror : FnOk P w K mg base CX0 (n + 1) (A 39) (FD 39) ["tree"] (spV K (clV A) (fun _ => Value.none) (tb f__law_mirror).args (run tb n f__law_mirror))
  c__law_numbered : FnOk P w K mg base CX0 (n + 1) (A 40) (FD 40) ["tree", "order"] (spV K (clV A) (fun _ => Value.none) (tb f__law_numbered).args (run tb n f__law_numbered))
  c__law_turned : FnOk P w K mg base CX0 (n + 1) (A 41) (FD 41) ["way", "size", "order"] (spV K (clV A) (fun _ => Value.none) (tb f__law_turned).args (run tb n f__law_turned))
  c_law : FnOk P w K mg base CX0 (n + 1) (A 42) (FD 42) ["script"] (spV K (clV A) (fun _ => Value.none) (tb f_law).args (run tb n f_law))
section
variable {P : Program} {w : World} {K : PySem.W.Frag} {mg : Str → Option Value} {base : Heap} {A : Nat → Addr} {FD : Nat → FuncData} {V0 : Nat → V}
theorem d_contains (T : Txt K mg A FD V0) {n : Nat} (L : Lv P w K mg base A FD n) : FnOk P w K mg base CX0 (n + 1 + 1) (A 4) (FD 4) ["a", "code"] (spV K (clV A) (fun _ => Value.none) (tb f_contains).args (run tb (n + 1) f_contains)) := by
  refine fun_V (g := f_contains) (V0 := V0) T.F_contains sc_contains rfl rfl (fun cdv Ar outer s H E hr => ?_)
  show PSs _ _ (dS _ body_contains _)
  exact (pss_cons (ps_for PassesOwn.never rfl (pi_all rfl (pv 0)) (pg_tup (by rfl) (pgs_cons (pg_name (i := 2) sc_contains.nd rfl (by first | exact Or.inl rfl | exact Or.inr rfl)) (pgs_cons (pg_name (i := 3) sc_contains.nd rfl (by first | exact Or.inl rfl | exact Or.inr rfl)) pgs_nil))) (pss_one (ps_if (pt_chain (op_cmp rfl (hu65 hr) .le) (op_cmp rfl (hu65 hr) .lt) (pv 2) (pv 1) (pv 3)) (pss_one (ps_ret pe_bl)) pss_nil)))
  (pss_one (ps_ret pe_bl)))
theorem d__is_in (T : Txt K mg A FD V0) {n : Nat} (L : Lv P w K mg base A FD n) : FnOk P w K mg base CX0 (n + 1 + 1) (A 6) (FD 6) ["codes", "code"] (spV K (clV A) (fun _ => Value.none) (tb f__is_in).args (run tb (n + 1) f__is_in)) := by
  refine fun_V (g := f__is_in) (V0 := V0) T.F__is_in sc__is_in rfl rfl (fun cdv Ar outer s H E hr => ?_)
  show PSs _ _ (dS _ body__is_in _)
  exact (pss_one (ps_ret (pe_andT (pe_cmpR (op_cmp rfl (hu65 hr) .notn) (pv 1) pe_non (by first | exact nomark _ | rfl)) (pe_one (pe_call L.c_contains hr (by rfl) T.g_contains T.F_contains.kp T.b_contains .nil pass0 (pa_cons (pv 0) (pa_cons (pv 1) pa_nil)))))))
theorem d_anchor_holds (T : Txt K mg A FD V0) {n : Nat} (L : Lv P w K mg base A FD n) : FnOk P w K mg base CX0 (n + 1 + 1) (A 7) (FD 7) ["name", "before", "after"] (spV K (clV A) (fun _ => Value.none) (tb f_anchor_holds).args (run tb (n + 1) f_anchor_holds)) := by
  refine fun_V (g := f_anchor_holds) (V0 := V0) T.F_anchor_holds sc_anchor_holds rfl rfl (fun cdv Ar outer s H E hr => ?_)
  show PSs _ _ (dS _ body_anchor_holds _)
  exact (pss_cons (ps_if (pt_cmpR (op_cmp rfl (hu65 hr) .eq) (pv 0) pe_str (by first | exact nomark _ | rfl)) (pss_one (ps_ret (pe_cmpR (op_cmp rfl (hu65 hr) .isn) (pv 1) pe_non (by first | exact nomark _ | rfl)))) pss_nil)
  (pss_cons (ps_if (pt_cmpR (op_cmp rfl (hu65 hr) .eq) (pv 0) pe_str (by first | exact nomark _ | rfl)) (pss_one (ps_ret (pe_cmpR (op_cmp rfl (hu65 hr) .isn) (pv 2) pe_non (by first | exact nomark _ | rfl)))) pss_nil)
  (pss_cons (ps_if (pt_cmpR (op_cmp rfl (hu65 hr) .eq) (pv 0) pe_str (by first | exact nomark _ | rfl)) (pss_one (ps_ret (pe_orT (pe_cmpR (op_cmp rfl (hu65 hr) .isn) (pv 1) pe_non (by first | exact nomark _ | rfl)) (pe_one (pe_call L.c_contains hr (by rfl) T.g_contains T.F_contains.kp T.b_contains .nil pass0 (pa_cons (pe_glb (by rfl) T.c_LINE_ENDS) (pa_cons (pv 1) pa_nil))))))) pss_nil)
  (pss_cons (ps_if (pt_cmpR (op_cmp rfl (hu65 hr) .eq) (pv 0) pe_str (by first | exact nomark _ | rfl)) (pss_one (ps_ret (pe_orT (pe_cmpR (op_cmp rfl (hu65 hr) .isn) (pv 2) pe_non (by first | exact nomark _ | rfl)) (pe_one (pe_call L.c_contains hr (by rfl) T.g_contains T.F_contains.kp T.b_contains .nil pass0 (pa_cons (pe_glb (by rfl) T.c_LINE_ENDS) (pa_cons (pv 2) pa_nil))))))) pss_nil)
  (pss_cons (ps_set (i := 3) sc_anchor_holds.nd rfl (by first | exact Or.inl rfl | exact Or.inr rfl) (pe_cmpR (op_cmp rfl (hu65 hr) .ne) (pe_call L.c__is_in hr (by rfl) T.g__is_in T.F__is_in.kp T.b__is_in .nil pass0 (pa_cons (pe_glb (by rfl) T.c_WORD) (pa_cons (pv 1) pa_nil))) (pe_call L.c__is_in hr (by rfl) T.g__is_in T.F__is_in.kp T.b__is_in .nil pass0 (pa_cons (pe_glb (by rfl) T.c_WORD) (pa_cons (pv 2) pa_nil))) (by first | exact nomark _ | rfl)))
  (pss_cons (ps_if (pt_cmpR (op_cmp rfl (hu65 hr) .eq) (pv 0) pe_str (by first | exact nomark _ | rfl)) (pss_one (ps_ret (pv 3))) pss_nil)
  (pss_one (ps_ret (pe_notT (pv 3))))))))))
theorem d_clearing (T : Txt K mg A FD V0) {n : Nat} (L : Lv P w K mg base A FD n) : FnOk P w K mg base CX0 (n + 1 + 1) (A 9) (FD 9) ["groups"] (spV K (clV A) (fun _ => Value.none) (tb f_clearing).args (run tb (n + 1) f_clearing)) := by
  refine fun_V (g := f_clearing) (V0 := V0) T.F_clearing sc_clearing rfl rfl (fun cdv Ar outer s H E hr => ?_)
  show PSs _ _ (dS _ body_clearing _)
  exact (pss_cons (ps_if (pt_not (pt_truthK (K := K) rfl (pv 0) (by intro _; rfl))) (pss_one (ps_ret pe_non)) pss_nil)
  (pss_one (ps_ret (pe_tup (pa_cons pe_str (pa_cons (pv 0) pa_nil))))))
theorem d_both (T : Txt K mg A FD V0) {n : Nat} (L : Lv P w K mg base A FD n) : FnOk P w K mg base CX0 (n + 1 + 1) (A 10) (FD 10) ["earlier", "later"] (spV K (clV A) (fun _ => Value.none) (tb f_both).args (run tb (n + 1) f_both)) := by
  refine fun_V (g := f_both) (V0 := V0) T.F_both sc_both rfl rfl (fun cdv Ar outer s H E hr => ?_)
  show PSs _ _ (dS _ body_both _)
  exact (pss_cons (ps_if (pt_cmpR (op_cmp rfl (hu65 hr) .isn) (pv 0) pe_non (by first | exact nomark _ | rfl)) (pss_one (ps_ret (pv 1))) pss_nil)
  (pss_cons (ps_if (pt_cmpR (op_cmp rfl (hu65 hr) .isn) (pv 1) pe_non (by first | exact nomark _ | rfl)) (pss_one (ps_ret (pv 0))) pss_nil)
  (pss_one (ps_ret (pe_tup (pa_cons pe_str (pa_cons (pv 0) (pa_cons (pv 1) pa_nil))))))))
theorem d_changed (T : Txt K mg A FD V0) {n : Nat} (L : Lv P w K mg base A FD n) : FnOk P w K mg base CX0 (n + 1 + 1) (A 11) (FD 11) ["held", "change"] (spV K (clV A) (fun _ => Value.none) (tb f_changed).args (run tb (n + 1) f_changed)) := by
  refine fun_V (g := f_changed) (V0 := V0) T.F_changed sc_changed rfl rfl (fun cdv Ar outer s H E hr => ?_)
  show PSs _ _ (dS _ body_changed _)
  exact (pss_cons (ps_set (i := 2) sc_changed.nd rfl (by first | exact Or.inl rfl | exact Or.inr rfl) (pe_callTy (call_list_ofK (K := K) rfl) (by rfl) T.m_list (by decide +kernel) (pa_cons (pv 0) pa_nil)))
  (pss_cons (ps_set (i := 3) sc_changed.nd rfl (by first | exact Or.inl rfl | exact Or.inr rfl) (pe_lst (pa_cons (pv 1) pa_nil)))
  (pss_cons (ps_while PassesOwn.never (pt_truthK (K := K) rfl (pv 3) (by intro _; rfl)) (pss_cons (ps_set (i := 4) sc_changed.nd rfl (by first | exact Or.inl rfl | exact Or.inr rfl) (pe_bm0E (K := K) rfl PySem.F.plainAttrs_list PySem.F.slot_list_pop PySem.F.type_list_pop mt_pop (pv 3)))
  (pss_cons (ps_if (pt_cmpR (op_cmp rfl (hu65 hr) .isn) (pv 4) pe_non (by first | exact nomark _ | rfl)) (pss_one ps_continue) pss_nil)
  (pss_one (ps_if (pt_cmpR (op_cmp rfl (hu65 hr) .eq) (pe_ix (ix_any rfl (hu65 hr)) (pv 4) pe_int (fun _ _ => rfl)) pe_str (by first | exact nomark _ | rfl)) (pss_cons (ps_expr (pe_bmE (K := K) rfl PySem.F.plainAttrs_list PySem.F.slot_list_append PySem.F.type_list_append mt_append (pv 3) (pa_cons (pe_ix (ix_any rfl (hu65 hr)) (pv 4) pe_int (fun _ _ => rfl)) pa_nil)))
  (pss_one (ps_expr (pe_bmE (K := K) rfl PySem.F.plainAttrs_list PySem.F.slot_list_append PySem.F.type_list_append mt_append (pv 3) (pa_cons (pe_ix (ix_any rfl (hu65 hr)) (pv 4) pe_int (fun _ _ => rfl)) pa_nil))))) (pss_one (ps_if (pt_cmpR (op_cmp rfl (hu65 hr) .eq) (pe_ix (ix_any rfl (hu65 hr)) (pv 4) pe_int (fun _ _ => rfl)) pe_str (by first | exact nomark _ | rfl)) (pss_one (PS.or (ps_asg (pe_ix (ix_any rfl (hu65 hr)) (pv 4) pe_int (fun _ _ => rfl)) (pg_sub (pv 2) (pe_ix (ix_any rfl (hu65 hr)) (pv 4) pe_int (fun _ _ => rfl)) set_list)) (ps_dput (hu1 hr) (pv 2) (pe_ix (ix_any rfl (hu65 hr)) (pv 4) pe_int (fun _ _ => rfl)) (pe_ix (ix_any rfl (hu65 hr)) (pv 4) pe_int (fun _ _ => rfl)) rfl))) (pss_one (ps_for PassesOwn.never rfl (pi_all rfl (pe_ix (ix_any rfl (hu65 hr)) (pv 4) pe_int (fun _ _ => rfl))) (pg_name (i := 5) sc_changed.nd rfl (by first | exact Or.inl rfl | exact Or.inr rfl)) (pss_one (PS.or (ps_asg pe_non (pg_sub (pv 2) (pv 5) set_list)) (ps_dput (hu1 hr) (pv 2) (pv 5) pe_non rfl))))))))))))
  (pss_one (ps_ret (pe_callTy (call_tuple_ofK (K := K) rfl) (by rfl) T.m_tuple (by decide +kernel) (pa_cons (pv 2) pa_nil)))))))
theorem d_parts (T : Txt K mg A FD V0) {n : Nat} (L : Lv P w K mg base A FD n) : FnOk P w K mg base CX0 (n + 1 + 1) (A 13) (FD 13) ["tree"] (spV K (clV A) (fun _ => Value.none) (tb f_parts).args (run tb (n + 1) f_parts)) := by
  refine fun_V (g := f_parts) (V0 := V0) T.F_parts sc_parts rfl rfl (fun cdv Ar outer s H E hr => ?_)
  show PSs _ _ (dS _ body_parts _)
  exact (pss_cons (ps_set (i := 1) sc_parts.nd rfl (by first | exact Or.inl rfl | exact Or.inr rfl) (pe_ix (ix_any rfl (hu65 hr)) (pv 0) pe_int (fun _ _ => rfl)))
  (pss_cons (ps_if (pt_cmpR (op_cmp rfl (hu65 hr) .isin) (pv 1) (pe_tup (pa_cons pe_str (pa_cons pe_str pa_nil))) (by first | exact nomark _ | rfl)) (pss_one (ps_ret (pe_tup (pa_cons (pe_ix (ix_any rfl (hu65 hr)) (pv 0) pe_int (fun _ _ => rfl)) (pa_cons (pe_ix (ix_any rfl (hu65 hr)) (pv 0) pe_int (fun _ _ => rfl)) pa_nil))))) pss_nil)
  (pss_cons (ps_if (pt_cmpR (op_cmp rfl (hu65 hr) .isin) (pv 1) (pe_tup (pa_cons pe_str (pa_cons pe_str (pa_cons pe_str pa_nil)))) (by first | exact nomark _ | rfl)) (pss_one (ps_ret (pe_tup (pa_cons (pe_ix (ix_any rfl (hu65 hr)) (pv 0) pe_int (fun _ _ => rfl)) pa_nil)))) pss_nil)
  (pss_cons (ps_if (pt_cmpR (op_cmp rfl (hu65 hr) .eq) (pv 1) pe_str (by first | exact nomark _ | rfl)) (pss_one (ps_ret (pe_tup (pa_cons (pe_ix (ix_any rfl (hu65 hr)) (pv 0) pe_int (fun _ _ => rfl)) pa_nil)))) pss_nil)
  (pss_cons (ps_if (pt_cmpR (op_cmp rfl (hu65 hr) .eq) (pv 1) pe_str (by first | exact nomark _ | rfl)) (pss_one (ps_ret (pe_tup (pa_cons (pe_ix (ix_any rfl (hu65 hr)) (pv 0) pe_int (fun _ _ => rfl)) pa_nil)))) pss_nil)
  (pss_one (ps_ret (pe_tup pa_nil))))))))
theorem d_bottom_up (T : Txt K mg A FD V0) {n : Nat} (L : Lv P w K mg base A FD n) : FnOk P w K mg base CX0 (n + 1 + 1) (A 14) (FD 14) ["tree"] (spV K (clV A) (fun _ => Value.none) (tb f_bottom_up).args (run tb (n + 1) f_bottom_up)) := by
  refine fun_V (g := f_bottom_up) (V0 := V0) T.F_bottom_up sc_bottom_up rfl rfl (fun cdv Ar outer s H E hr => ?_)
  show PSs _ _ (dS _ body_bottom_up _)
  exact (pss_cons (ps_set (i := 1) sc_bottom_up.nd rfl (by first | exact Or.inl rfl | exact Or.inr rfl) (pe_lst pa_nil))
  (pss_cons (ps_set (i := 2) sc_bottom_up.nd rfl (by first | exact Or.inl rfl | exact Or.inr rfl) (pe_lst (pa_cons (pv 0) pa_nil)))
  (pss_cons (ps_while PassesOwn.never (pt_truthK (K := K) rfl (pv 2) (by intro _; rfl)) (pss_cons (ps_set (i := 3) sc_bottom_up.nd rfl (by first | exact Or.inl rfl | exact Or.inr rfl) (pe_bm0E (K := K) rfl PySem.F.plainAttrs_list PySem.F.slot_list_pop PySem.F.type_list_pop mt_pop (pv 2)))
  (pss_cons (ps_expr (pe_bmE (K := K) rfl PySem.F.plainAttrs_list PySem.F.slot_list_append PySem.F.type_list_append mt_append (pv 1) (pa_cons (pv 3) pa_nil)))
  (pss_one (ps_expr (pe_bmE (K := K) rfl PySem.F.plainAttrs_list PySem.F.slot_list_extend PySem.F.type_list_extend (mt_ext (K := K) rfl) (pv 2) (pa_cons (pe_call L.c_parts hr (by rfl) T.g_parts T.F_parts.kp T.b_parts .nil pass0 (pa_cons (pv 3) pa_nil)) pa_nil)))))))
  (pss_cons (ps_expr (pe_bm0E (K := K) rfl PySem.F.plainAttrs_list PySem.F.slot_list_reverse PySem.F.type_list_reverse mt_reverse (pv 1)))
  (pss_one (ps_ret (pv 1)))))))
theorem d_bottom_up_directed (T : Txt K mg A FD V0) {n : Nat} (L : Lv P w K mg base A FD n) : FnOk P w K mg base CX0 (n + 1 + 1) (A 15) (FD 15) ["tree", "backward"] (spV K (clV A) (fun _ => Value.none) (tb f_bottom_up_directed).args (run tb (n + 1) f_bottom_up_directed)) := by
  refine fun_V (g := f_bottom_up_directed) (V0 := V0) T.F_bottom_up_directed sc_bottom_up_directed rfl rfl (fun cdv Ar outer s H E hr => ?_)
  show PSs _ _ (dS _ body_bottom_up_directed _)
  exact (pss_cons (ps_set (i := 2) sc_bottom_up_directed.nd rfl (by first | exact Or.inl rfl | exact Or.inr rfl) (pe_lst pa_nil))
  (pss_cons (ps_set (i := 3) sc_bottom_up_directed.nd rfl (by first | exact Or.inl rfl | exact Or.inr rfl) (pe_lst (pa_cons (pe_tup (pa_cons (pv 0) (pa_cons (pv 1) pa_nil))) pa_nil)))
  (pss_cons (ps_while PassesOwn.never (pt_truthK (K := K) rfl (pv 3) (by intro _; rfl)) (pss_cons (ps_asg (pe_bm0E (K := K) rfl PySem.F.plainAttrs_list PySem.F.slot_list_pop PySem.F.type_list_pop mt_pop (pv 3)) (pg_tup (by rfl) (pgs_cons (pg_name (i := 4) sc_bottom_up_directed.nd rfl (by first | exact Or.inl rfl | exact Or.inr rfl)) (pgs_cons (pg_name (i := 5) sc_bottom_up_directed.nd rfl (by first | exact Or.inl rfl | exact Or.inr rfl)) pgs_nil))))
  (pss_cons (ps_expr (pe_bmE (K := K) rfl PySem.F.plainAttrs_list PySem.F.slot_list_append PySem.F.type_list_append mt_append (pv 2) (pa_cons (pe_tup (pa_cons (pv 4) (pa_cons (pv 5) pa_nil))) pa_nil)))
  (pss_cons (ps_if (pt_cmpR (op_cmp rfl (hu65 hr) .eq) (pe_ix (ix_any rfl (hu65 hr)) (pv 4) pe_int (fun _ _ => rfl)) pe_str (by first | exact nomark _ | rfl)) (pss_one (ps_set (i := 5) sc_bottom_up_directed.nd rfl (by first | exact Or.inl rfl | exact Or.inr rfl) (pe_notT (pe_ix (ix_any rfl (hu65 hr)) (pv 4) pe_int (fun _ _ => rfl))))) pss_nil)
  (pss_one (ps_for PassesOwn.never rfl (pi_all rfl (pe_call L.c_parts hr (by rfl) T.g_parts T.F_parts.kp T.b_parts .nil pass0 (pa_cons (pv 4) pa_nil))) (pg_name (i := 6) sc_bottom_up_directed.nd rfl (by first | exact Or.inl rfl | exact Or.inr rfl)) (pss_one (ps_expr (pe_bmE (K := K) rfl PySem.F.plainAttrs_list PySem.F.slot_list_append PySem.F.type_list_append mt_append (pv 3) (pa_cons (pe_tup (pa_cons (pv 6) (pa_cons (pv 5) pa_nil))) pa_nil))))))))))
  (pss_cons (ps_expr (pe_bm0E (K := K) rfl PySem.F.plainAttrs_list PySem.F.slot_list_reverse PySem.F.type_list_reverse mt_reverse (pv 2)))
  (pss_one (ps_ret (pv 2)))))))
theorem d_inner_groups (T : Txt K mg A FD V0) {n : Nat} (L : Lv P w K mg base A FD n) : FnOk P w K mg base CX0 (n + 1 + 1) (A 17) (FD 17) ["tree"] (spV K (clV A) (fun _ => Value.none) (tb f_inner_groups).args (run tb (n + 1) f_inner_groups)) := by
  refine fun_V (g := f_inner_groups) (V0 := V0) T.F_inner_groups sc_inner_groups rfl rfl (fun cdv Ar outer s H E hr => ?_)
  show PSs _ _ (dS _ body_inner_groups _)
  exact (pss_one (ps_ret (pe_callB (cr_srt (K := K) rfl rfl) (by rfl) T.m_sorted (by decide +kernel) (pa_cons (pe_lc (own := [("part", 1)]) (by rfl) sc_inner_groups.nd (pi_all rfl (pe_call L.c_bottom_up hr (by rfl) T.g_bottom_up T.F_bottom_up.kp T.b_bottom_up .nil pass0 (pa_cons (pv 0) pa_nil))) (blkOk_by (own := [("part", 1)]) (N := ["tree", "part"]) (sc := defScope s_inner_groups) (by decide +kernel)) (fun _ _ _ _ _ => (pg_name (i := 1) sc_inner_groups.nd rfl (by first | exact Or.inl rfl | exact Or.inr rfl))) (fun _ _ _ _ _ => (pts_one (pt_cmpR (op_cmp rfl (hu65 hr) .eq) (pe_ix (ix_any rfl (hu65 hr)) (pv 1) pe_int (fun _ _ => rfl)) pe_str (by first | exact nomark _ | rfl)))) (fun _ _ _ _ _ => (pe_ix (ix_any rfl (hu65 hr)) (pv 1) pe_int (fun _ _ => rfl)))) pa_nil))))
theorem d_make_plan (T : Txt K mg A FD V0) {n : Nat} (L : Lv P w K mg base A FD n) : FnOk P w K mg base CX0 (n + 1 + 1) (A 19) (FD 19) ["tree", "backward"] (spV K (clV A) (fun _ => Value.none) (tb f_make_plan).args (run tb (n + 1) f_make_plan)) := by
  refine fun_V (g := f_make_plan) (V0 := V0) T.F_make_plan sc_make_plan rfl rfl (fun cdv Ar outer s H E hr => ?_)
  show PSs _ _ (dS _ body_make_plan _)
  exact (pss_cons (ps_set (i := 2) sc_make_plan.nd rfl (by first | exact Or.inl rfl | exact Or.inr rfl) (pe_lst pa_nil))
  (pss_cons (ps_set (i := 3) sc_make_plan.nd rfl (by first | exact Or.inl rfl | exact Or.inr rfl) (pe_lst pa_nil))
  (pss_cons (ps_for PassesOwn.never rfl (pi_all rfl (pe_call L.c_bottom_up_directed hr (by rfl) T.g_bottom_up_directed T.F_bottom_up_directed.kp T.b_bottom_up_directed .nil pass0 (pa_cons (pv 0) (pa_cons (pv 1) pa_nil)))) (pg_tup (by rfl) (pgs_cons (pg_name (i := 4) sc_make_plan.nd rfl (by first | exact Or.inl rfl | exact Or.inr rfl)) (pgs_cons (pg_name (i := 5) sc_make_plan.nd rfl (by first | exact Or.inl rfl | exact Or.inr rfl)) pgs_nil))) (pss_cons (ps_setLc (i := 6) (own := [("_", 7)]) (by rfl) sc_make_plan.nd rfl rfl (sw_true rfl rfl rfl (by decide +kernel)) (pi_all rfl (pe_call L.c_parts hr (by rfl) T.g_parts T.F_parts.kp T.b_parts .nil pass0 (pa_cons (pv 4) pa_nil))) (blkOk_by (own := [("_", 7)]) (N := ["tree", "backward", "rows", "done", "part", "back", "below", "_"]) (sc := defScope s_make_plan) (by decide +kernel)) (fun _ _ _ _ _ => (pg_name (i := 7) sc_make_plan.nd rfl (by first | exact Or.inl rfl | exact Or.inr rfl))) (fun _ _ _ _ _ => pts_nil) (fun _ _ _ _ _ => (pe_bm0E (K := K) rfl PySem.F.plainAttrs_list PySem.F.slot_list_pop PySem.F.type_list_pop mt_pop (pv 3))))
  (pss_cons (ps_expr (pe_bm0E (K := K) rfl PySem.F.plainAttrs_list PySem.F.slot_list_reverse PySem.F.type_list_reverse mt_reverse (pv 6)))
  (pss_one (ps_expr (pe_bmE (K := K) rfl PySem.F.plainAttrs_list PySem.F.slot_list_append PySem.F.type_list_append mt_append (pv 3) (pa_cons (pe_call L.c__add_part hr (by rfl) T.g__add_part T.F__add_part.kp T.b__add_part .nil pass0 (pa_cons (pv 2) (pa_cons (pv 4) (pa_cons (pv 6) (pa_cons (pv 5) pa_nil))))) pa_nil)))))))
  (pss_one (ps_ret (pv 2))))))
theorem d__add (T : Txt K mg A FD V0) {n : Nat} (L : Lv P w K mg base A FD n) : FnOk P w K mg base CX0 (n + 1 + 1) (A 20) (FD 20) ["rows", "row"] (spV K (clV A) (fun _ => Value.none) (tb f__add).args (run tb (n + 1) f__add)) := by
  refine fun_V (g := f__add) (V0 := V0) T.F__add sc__add rfl rfl (fun cdv Ar outer s H E hr => ?_)
  show PSs _ _ (dS _ body__add _)
  exact (pss_cons (ps_expr (pe_bmE (K := K) rfl PySem.F.plainAttrs_list PySem.F.slot_list_append PySem.F.type_list_append mt_append (pv 0) (pa_cons (pv 1) pa_nil)))
  (pss_one (ps_ret (pe_op (op_bin rfl .sub) (pe_callB (call_lenK (K := K) rfl) (by rfl) T.m_len PySem.boot_len (pa_cons (pv 0) pa_nil)) pe_int))))
theorem d__add_part (T : Txt K mg A FD V0) {n : Nat} (L : Lv P w K mg base A FD n) : FnOk P w K mg base CX0 (n + 1 + 1) (A 21) (FD 21) ["rows", "part", "below", "backward"] (spV K (clV A) (fun _ => Value.none) (tb f__add_part).args (run tb (n + 1) f__add_part)) := by
  refine fun_V (g := f__add_part) (V0 := V0) T.F__add_part sc__add_part rfl rfl (fun cdv Ar outer s H E hr => ?_)
  show PSs _ _ (dS _ body__add_part _)
  exact (pss_cons (ps_set (i := 4) sc__add_part.nd rfl (by first | exact Or.inl rfl | exact Or.inr rfl) (pe_ix (ix_any rfl (hu65 hr)) (pv 1) pe_int (fun _ _ => rfl)))
  (pss_cons (ps_if (pt_cmpR (op_cmp rfl (hu65 hr) .eq) (pv 4) pe_str (by first | exact nomark _ | rfl)) (pss_one (ps_ret (pe_call L.c__add hr (by rfl) T.g__add T.F__add.kp T.b__add .nil pass0 (pa_cons (pv 0) (pa_cons (pe_tup (pa_cons pe_str (pa_cons (pe_ix (ix_any rfl (hu65 hr)) (pv 1) pe_int (fun _ _ => rfl)) (pa_cons (pv 3) pa_nil)))) pa_nil))))) pss_nil)
  (pss_cons (ps_if (PW.pt (pw_and (pt_cmpR (op_cmp rfl (hu65 hr) .eq) (pv 4) pe_str (by first | exact nomark _ | rfl)) (pw_and1 (pt_truthK (K := K) rfl (pv 3) (by intro _; rfl))))) (pss_one (ps_ret (pe_call L.c__add hr (by rfl) T.g__add T.F__add.kp T.b__add .nil pass0 (pa_cons (pv 0) (pa_cons (pe_tup (pa_cons pe_str (pa_cons (pe_ix (ix_any rfl (hu65 hr)) (pv 2) pe_int (fun _ _ => rfl)) (pa_cons (pe_ix (ix_any rfl (hu65 hr)) (pv 2) pe_int (fun _ _ => rfl)) pa_nil)))) pa_nil))))) pss_nil)
  (pss_cons (ps_if (pt_cmpR (op_cmp rfl (hu65 hr) .isin) (pv 4) (pe_tup (pa_cons pe_str (pa_cons pe_str pa_nil))) (by first | exact nomark _ | rfl)) (pss_one (ps_ret (pe_call L.c__add hr (by rfl) T.g__add T.F__add.kp T.b__add .nil pass0 (pa_cons (pv 0) (pa_cons (pe_tup (pa_cons (pv 4) (pa_cons (pe_ix (ix_any rfl (hu65 hr)) (pv 2) pe_int (fun _ _ => rfl)) (pa_cons (pe_ix (ix_any rfl (hu65 hr)) (pv 2) pe_int (fun _ _ => rfl)) pa_nil)))) pa_nil))))) pss_nil)
  (pss_cons (ps_if (pt_cmpR (op_cmp rfl (hu65 hr) .eq) (pv 4) pe_str (by first | exact nomark _ | rfl)) (pss_one (ps_ret (pe_call L.c__add_repeat hr (by rfl) T.g__add_repeat T.F__add_repeat.kp T.b__add_repeat .nil pass0 (pa_cons (pv 0) (pa_cons (pv 1) (pa_cons (pe_ix (ix_any rfl (hu65 hr)) (pv 2) pe_int (fun _ _ => rfl)) pa_nil)))))) pss_nil)
  (pss_cons (ps_if (pt_cmpR (op_cmp rfl (hu65 hr) .eq) (pv 4) pe_str (by first | exact nomark _ | rfl)) (pss_one (ps_ret (pe_call L.c__add hr (by rfl) T.g__add T.F__add.kp T.b__add .nil pass0 (pa_cons (pv 0) (pa_cons (pe_tup (pa_cons pe_str (pa_cons (pe_ix (ix_any rfl (hu65 hr)) (pv 1) pe_int (fun _ _ => rfl)) (pa_cons (pe_ix (ix_any rfl (hu65 hr)) (pv 2) pe_int (fun _ _ => rfl)) pa_nil)))) pa_nil))))) pss_nil)
  (pss_cons (ps_if (pt_cmpR (op_cmp rfl (hu65 hr) .eq) (pv 4) pe_str (by first | exact nomark _ | rfl)) (pss_one (ps_ret (pe_call L.c__add hr (by rfl) T.g__add T.F__add.kp T.b__add .nil pass0 (pa_cons (pv 0) (pa_cons (pe_tup (pa_cons pe_str (pa_cons (pe_ix (ix_any rfl (hu65 hr)) (pv 1) pe_int (fun _ _ => rfl)) (pa_cons (pe_call L.c_inner_groups hr (by rfl) T.g_inner_groups T.F_inner_groups.kp T.b_inner_groups .nil pass0 (pa_cons (pe_ix (ix_any rfl (hu65 hr)) (pv 1) pe_int (fun _ _ => rfl)) pa_nil)) (pa_cons (pe_ix (ix_any rfl (hu65 hr)) (pv 2) pe_int (fun _ _ => rfl)) pa_nil))))) pa_nil))))) pss_nil)
  (pss_one (ps_ret (pe_call L.c__add hr (by rfl) T.g__add T.F__add.kp T.b__add .nil pass0 (pa_cons (pv 0) (pa_cons (pv 1) pa_nil))))))))))))
theorem d__add_repeat (T : Txt K mg A FD V0) {n : Nat} (L : Lv P w K mg base A FD n) : FnOk P w K mg base CX0 (n + 1 + 1) (A 22) (FD 22) ["rows", "part", "below"] (spV K (clV A) (fun _ => Value.none) (tb f__add_repeat).args (run tb (n + 1) f__add_repeat)) := by
  refine fun_V (g := f__add_repeat) (V0 := V0) T.F__add_repeat sc__add_repeat rfl rfl (fun cdv Ar outer s H E hr => ?_)
  show PSs _ _ (dS _ body__add_repeat _)
  exact (pss_cons (ps_asg (pv 1) (pg_tup (by rfl) (pgs_cons (pg_name (i := 3) sc__add_repeat.nd rfl (by first | exact Or.inl rfl | exact Or.inr rfl)) (pgs_cons (pg_name (i := 4) sc__add_repeat.nd rfl (by first | exact Or.inl rfl | exact Or.inr rfl)) (pgs_cons (pg_name (i := 5) sc__add_repeat.nd rfl (by first | exact Or.inl rfl | exact Or.inr rfl)) (pgs_cons (pg_name (i := 6) sc__add_repeat.nd rfl (by first | exact Or.inl rfl | exact Or.inr rfl)) (pgs_cons (pg_name (i := 7) sc__add_repeat.nd rfl (by first | exact Or.inl rfl | exact Or.inr rfl)) pgs_nil)))))))
  (pss_cons (ps_set (i := 8) sc__add_repeat.nd rfl (by first | exact Or.inl rfl | exact Or.inr rfl) (pe_call L.c__add hr (by rfl) T.g__add T.F__add.kp T.b__add .nil pass0 (pa_cons (pv 0) (pa_cons (pe_tup (pa_cons pe_str (pa_cons (pe_call L.c_inner_groups hr (by rfl) T.g_inner_groups T.F_inner_groups.kp T.b_inner_groups .nil pass0 (pa_cons (pv 4) pa_nil)) (pa_cons (pv 2) pa_nil)))) pa_nil))))
  (pss_cons (ps_if (pt_cmpR (op_cmp rfl (hu65 hr) .isn) (pv 6) pe_non (by first | exact nomark _ | rfl)) (pss_one (ps_set (i := 9) sc__add_repeat.nd rfl (by first | exact Or.inl rfl | exact Or.inr rfl) (pe_call L.c__add hr (by rfl) T.g__add T.F__add.kp T.b__add .nil pass0 (pa_cons (pv 0) (pa_cons (pe_tup (pa_cons pe_str (pa_cons (pv 8) (pa_cons (pe_callB (call_lenK (K := K) rfl) (by rfl) T.m_len PySem.boot_len (pa_cons (pv 0) pa_nil)) (pa_cons (pv 7) pa_nil))))) pa_nil))))) (pss_cons (ps_set (i := 9) sc__add_repeat.nd rfl (by first | exact Or.inl rfl | exact Or.inr rfl) (pe_call L.c__add hr (by rfl) T.g__add T.F__add.kp T.b__add .nil pass0 (pa_cons (pv 0) (pa_cons (pe_tup (pa_cons pe_str pa_nil)) pa_nil))))
  (pss_one (ps_for PassesOwn.never rfl (pi_range1 (by rfl) T.m_range (pa_cons (pe_op (op_bin rfl .sub) (pv 6) (pv 5)) pa_nil)) (pg_name (i := 3) sc__add_repeat.nd rfl (by first | exact Or.inl rfl | exact Or.inr rfl)) (pss_one (ps_set (i := 9) sc__add_repeat.nd rfl (by first | exact Or.inl rfl | exact Or.inr rfl) (pe_call L.c__add hr (by rfl) T.g__add T.F__add.kp T.b__add .nil pass0 (pa_cons (pv 0) (pa_cons (pe_tup (pa_cons pe_str (pa_cons (pv 8) (pa_cons (pv 9) (pa_cons (pv 7) pa_nil))))) pa_nil)))))))))
  (pss_cons (ps_for PassesOwn.never rfl (pi_range1 (by rfl) T.m_range (pa_cons (pv 5) pa_nil)) (pg_name (i := 3) sc__add_repeat.nd rfl (by first | exact Or.inl rfl | exact Or.inr rfl)) (pss_one (ps_set (i := 9) sc__add_repeat.nd rfl (by first | exact Or.inl rfl | exact Or.inr rfl) (pe_call L.c__add hr (by rfl) T.g__add T.F__add.kp T.b__add .nil pass0 (pa_cons (pv 0) (pa_cons (pe_tup (pa_cons pe_str (pa_cons (pv 8) (pa_cons (pv 9) pa_nil)))) pa_nil))))))
  (pss_one (ps_ret (pv 9)))))))
theorem d_Finder___init__ (T : Txt K mg A FD V0) {n : Nat} (L : Lv P w K mg base A FD n) : FnOk P w K mg base CX0 (n + 1 + 1) (A 25000) (FD 25000) ["self", "tree", "text", "backward"] (spV K (clV A) (fun _ => Value.none) (tb f_Finder___init__).args (run tb (n + 1) f_Finder___init__)) := by
  refine fun_V (g := f_Finder___init__) (V0 := V0) T.F_Finder___init__ sc_Finder___init__ rfl rfl (fun cdv Ar outer s H E hr => ?_)
  show PSs _ _ (dS _ body_Finder___init__ _)
  exact (pss_cons (ps_fldV rfl T.cls T.na_rows (pv 0) (pe_call L.c_make_plan hr (by rfl) T.g_make_plan T.F_make_plan.kp T.b_make_plan .nil pass0 (pa_cons (pv 1) (pa_cons (pv 3) pa_nil))) rfl)
  (pss_cons (ps_fldV rfl T.cls T.na_codes (pv 0) (pe_lc (own := [("sign", 4)]) (by rfl) sc_Finder___init__.nd (pi_all rfl (pv 2)) (blkOk_by (own := [("sign", 4)]) (N := ["self", "tree", "text", "backward", "sign"]) (sc := defScope s_Finder___init__) (by decide +kernel)) (fun _ _ _ _ _ => (pg_name (i := 4) sc_Finder___init__.nd rfl (by first | exact Or.inl rfl | exact Or.inr rfl))) (fun _ _ _ _ _ => pts_nil) (fun _ _ _ _ _ => (pe_callB call_ord (by rfl) T.m_ord (by decide +kernel) (pa_cons (pv 4) pa_nil)))) rfl)
  (pss_one (ps_fldV rfl T.cls T.na_known (pv 0) pe_dnewT rfl))))
theorem d_Finder_ways_from (T : Txt K mg A FD V0) {n : Nat} (L : Lv P w K mg base A FD n) : FnOk P w K mg base CX0 (n + 1 + 1) (A 25001) (FD 25001) ["self", "position", "held"] (spV K (clV A) (fun _ => Value.none) (tb f_Finder_ways_from).args (run tb (n + 1) f_Finder_ways_from)) := by
  refine fun_V (g := f_Finder_ways_from) (V0 := V0) T.F_Finder_ways_from sc_Finder_ways_from rfl rfl (fun cdv Ar outer s H E hr => ?_)
  show PSs _ _ (dS _ body_Finder_ways_from _)
  exact (pss_one (ps_ret (pe_lc (own := [("end", 3), ("change", 4)]) (by rfl) sc_Finder_ways_from.nd (pi_all rfl (pe_meth (pv 0) (T.cls 0) T.mt_Finder__solved L.c_Finder__solved hr T.b_Finder__solved .nil pass0 (pa_cons (pv 1) pa_nil))) (blkOk_by (own := [("end", 3), ("change", 4)]) (N := ["self", "position", "held", "end", "change"]) (sc := defScope s_Finder_ways_from) (by decide +kernel)) (fun _ _ _ _ _ => (pg_tup (by rfl) (pgs_cons (pg_name (i := 3) sc_Finder_ways_from.nd rfl (by first | exact Or.inl rfl | exact Or.inr rfl)) (pgs_cons (pg_name (i := 4) sc_Finder_ways_from.nd rfl (by first | exact Or.inl rfl | exact Or.inr rfl)) pgs_nil)))) (fun _ _ _ _ _ => pts_nil) (fun _ _ _ _ _ => (pe_tup (pa_cons (pv 3) (pa_cons (pe_call L.c_changed hr (by rfl) T.g_changed T.F_changed.kp T.b_changed .nil pass0 (pa_cons (pv 2) (pa_cons (pv 4) pa_nil))) pa_nil)))))))
theorem d_Finder__solved (T : Txt K mg A FD V0) {n : Nat} (L : Lv P w K mg base A FD n) : FnOk P w K mg base CX0 (n + 1 + 1) (A 25003) (FD 25003) ["self", "position"] (spV K (clV A) (fun _ => Value.none) (tb f_Finder__solved).args (run tb (n + 1) f_Finder__solved)) := by
  refine fun_V (g := f_Finder__solved) (V0 := V0) T.F_Finder__solved sc_Finder__solved rfl rfl (fun cdv Ar outer s H E hr => ?_)
  show PSs _ _ (dS _ body_Finder__solved _)
  exact (pss_cons (ps_set (i := 2) sc_Finder__solved.nd rfl (by first | exact Or.inl rfl | exact Or.inr rfl) (pe_tup (pa_cons (pe_op (op_bin rfl .sub) (pe_callB (call_lenK (K := K) rfl) (by rfl) T.m_len PySem.boot_len (pa_cons (pe_fldV rfl T.cls T.na_rows (pv 0) (by rfl)) pa_nil)) pe_int) (pa_cons (pv 1) pa_nil))))
  (pss_cons (ps_set (i := 3) sc_Finder__solved.nd rfl (by first | exact Or.inl rfl | exact Or.inr rfl) (pe_lst (pa_cons (pv 2) pa_nil)))
  (pss_cons (ps_while PassesOwn.never (pt_truthK (K := K) rfl (pv 3) (by intro _; rfl)) (pss_cons (ps_asg (pe_ix (ix_any rfl (hu65 hr)) (pv 3) (pe_un un_neg pe_int) (fun _ _ => rfl)) (pg_tup (by rfl) (pgs_cons (pg_name (i := 4) sc_Finder__solved.nd rfl (by first | exact Or.inl rfl | exact Or.inr rfl)) (pgs_cons (pg_name (i := 5) sc_Finder__solved.nd rfl (by first | exact Or.inl rfl | exact Or.inr rfl)) pgs_nil))))
  (pss_cons (ps_set (i := 6) sc_Finder__solved.nd rfl (by first | exact Or.inl rfl | exact Or.inr rfl) (pe_meth (pv 0) (T.cls 0) T.mt_Finder__missing L.c_Finder__missing hr T.b_Finder__missing .nil pass0 (pa_cons (pv 4) (pa_cons (pv 5) pa_nil))))
  (pss_cons (ps_if (pt_truthK (K := K) rfl (pv 6) (by intro _; rfl)) (pss_cons (ps_expr (pe_bmE (K := K) rfl PySem.F.plainAttrs_list PySem.F.slot_list_extend PySem.F.type_list_extend (mt_ext (K := K) rfl) (pv 3) (pa_cons (pv 6) pa_nil)))
  (pss_one ps_continue)) pss_nil)
  (pss_cons (ps_expr (pe_bm0E (K := K) rfl PySem.F.plainAttrs_list PySem.F.slot_list_pop PySem.F.type_list_pop mt_pop (pv 3)))
  (pss_one (ps_if (pt_cmpR (op_cmp rfl (hu65 hr) .notin) (pe_tup (pa_cons (pv 4) (pa_cons (pv 5) pa_nil))) (pe_fldV rfl T.cls T.na_known (pv 0) (by rfl)) (by first | exact nomark _ | rfl)) (pss_one (ps_dput (hu1 hr) (pe_fldV rfl T.cls T.na_known (pv 0) (by rfl)) (pe_tup (pa_cons (pv 4) (pa_cons (pv 5) pa_nil))) (pe_meth (pv 0) (T.cls 0) T.mt_Finder__found L.c_Finder__found hr T.b_Finder__found .nil pass0 (pa_cons (pv 4) (pa_cons (pv 5) pa_nil))) rfl)) pss_nil)))))))
  (pss_one (ps_ret (pe_ix (ix_any rfl (hu65 hr)) (pe_fldV rfl T.cls T.na_known (pv 0) (by rfl)) (pv 2) (fun _ _ => rfl)))))))
theorem d_Finder__missing (T : Txt K mg A FD V0) {n : Nat} (L : Lv P w K mg base A FD n) : FnOk P w K mg base CX0 (n + 1 + 1) (A 25004) (FD 25004) ["self", "number", "position"] (spV K (clV A) (fun _ => Value.none) (tb f_Finder__missing).args (run tb (n + 1) f_Finder__missing)) := by
  refine fun_V (g := f_Finder__missing) (V0 := V0) T.F_Finder__missing sc_Finder__missing rfl rfl (fun cdv Ar outer s H E hr => ?_)
  show PSs _ _ (dS _ body_Finder__missing _)
  exact (pss_cons (ps_if (pt_cmpR (op_cmp rfl (hu65 hr) .isin) (pe_tup (pa_cons (pv 1) (pa_cons (pv 2) pa_nil))) (pe_fldV rfl T.cls T.na_known (pv 0) (by rfl)) (by first | exact nomark _ | rfl)) (pss_one (ps_ret (pe_lst pa_nil))) pss_nil)
  (pss_cons (ps_set (i := 3) sc_Finder__missing.nd rfl (by first | exact Or.inl rfl | exact Or.inr rfl) (pe_ix (ix_any rfl (hu65 hr)) (pe_fldV rfl T.cls T.na_rows (pv 0) (by rfl)) (pv 1) (fun _ _ => rfl)))
  (pss_cons (ps_set (i := 4) sc_Finder__missing.nd rfl (by first | exact Or.inl rfl | exact Or.inr rfl) (pe_ix (ix_any rfl (hu65 hr)) (pv 3) pe_int (fun _ _ => rfl)))
  (pss_cons (ps_if (pt_cmpR (op_cmp rfl (hu65 hr) .isin) (pv 4) (pe_tup (pa_cons pe_str (pa_cons pe_str pa_nil))) (by first | exact nomark _ | rfl)) (pss_one (ps_set (i := 5) sc_Finder__missing.nd rfl (by first | exact Or.inl rfl | exact Or.inr rfl) (pe_meth (pv 0) (T.cls 0) T.mt_Finder__chained L.c_Finder__chained hr T.b_Finder__chained .nil pass0 (pa_cons (pv 3) (pa_cons (pv 2) pa_nil))))) (pss_one (ps_if (pt_cmpR (op_cmp rfl (hu65 hr) .eq) (pv 4) pe_str (by first | exact nomark _ | rfl)) (pss_one (ps_set (i := 5) sc_Finder__missing.nd rfl (by first | exact Or.inl rfl | exact Or.inr rfl) (pe_lst (pa_cons (pe_tup (pa_cons (pe_ix (ix_any rfl (hu65 hr)) (pv 3) pe_int (fun _ _ => rfl)) (pa_cons (pv 2) pa_nil))) (pa_cons (pe_tup (pa_cons (pe_ix (ix_any rfl (hu65 hr)) (pv 3) pe_int (fun _ _ => rfl)) (pa_cons (pv 2) pa_nil))) pa_nil))))) (pss_one (ps_if (pt_cmpR (op_cmp rfl (hu65 hr) .isin) (pv 4) (pe_tup (pa_cons pe_str (pa_cons pe_str (pa_cons pe_str pa_nil)))) (by first | exact nomark _ | rfl)) (pss_one (ps_set (i := 5) sc_Finder__missing.nd rfl (by first | exact Or.inl rfl | exact Or.inr rfl) (pe_lst (pa_cons (pe_tup (pa_cons (pe_ix (ix_any rfl (hu65 hr)) (pv 3) (pe_un un_neg pe_int) (fun _ _ => rfl)) (pa_cons (pv 2) pa_nil))) pa_nil)))) (pss_one (ps_set (i := 5) sc_Finder__missing.nd rfl (by first | exact Or.inl rfl | exact Or.inr rfl) (pe_lst pa_nil))))))))
  (pss_one (ps_ret (pe_lc (own := [("goal", 6)]) (by rfl) sc_Finder__missing.nd (pi_all rfl (pv 5)) (blkOk_by (own := [("goal", 6)]) (N := ["self", "number", "position", "row", "kind", "goals", "goal"]) (sc := defScope s_Finder__missing) (by decide +kernel)) (fun _ _ _ _ _ => (pg_name (i := 6) sc_Finder__missing.nd rfl (by first | exact Or.inl rfl | exact Or.inr rfl))) (fun _ _ _ _ _ => (pts_one (pt_cmpR (op_cmp rfl (hu65 hr) .notin) (pv 6) (pe_fldV rfl T.cls T.na_known (pv 0) (by rfl)) (by first | exact nomark _ | rfl)))) (fun _ _ _ _ _ => (pv 6)))))))))
theorem d_Finder__chained (T : Txt K mg A FD V0) {n : Nat} (L : Lv P w K mg base A FD n) : FnOk P w K mg base CX0 (n + 1 + 1) (A 25005) (FD 25005) ["self", "row", "position"] (spV K (clV A) (fun _ => Value.none) (tb f_Finder__chained).args (run tb (n + 1) f_Finder__chained)) := by
  refine fun_V (g := f_Finder__chained) (V0 := V0) T.F_Finder__chained sc_Finder__chained rfl rfl (fun cdv Ar outer s H E hr => ?_)
  show PSs _ _ (dS _ body_Finder__chained _)
  exact (pss_cons (ps_if (pt_cmpR (op_cmp rfl (hu65 hr) .notin) (pe_tup (pa_cons (pe_ix (ix_any rfl (hu65 hr)) (pv 1) pe_int (fun _ _ => rfl)) (pa_cons (pv 2) pa_nil))) (pe_fldV rfl T.cls T.na_known (pv 0) (by rfl)) (by first | exact nomark _ | rfl)) (pss_one (ps_ret (pe_lst (pa_cons (pe_tup (pa_cons (pe_ix (ix_any rfl (hu65 hr)) (pv 1) pe_int (fun _ _ => rfl)) (pa_cons (pv 2) pa_nil))) pa_nil)))) pss_nil)
  (pss_cons (ps_setLc (i := 3) (own := [("end", 4), ("_", 5)]) (by rfl) sc_Finder__chained.nd rfl rfl (sw_true rfl rfl rfl (by decide +kernel)) (pi_all rfl (pe_ix (ix_any rfl (hu65 hr)) (pe_fldV rfl T.cls T.na_known (pv 0) (by rfl)) (pe_tup (pa_cons (pe_ix (ix_any rfl (hu65 hr)) (pv 1) pe_int (fun _ _ => rfl)) (pa_cons (pv 2) pa_nil))) (fun _ _ => rfl))) (blkOk_by (own := [("end", 4), ("_", 5)]) (N := ["self", "row", "position", "ends", "end", "_"]) (sc := defScope s_Finder__chained) (by decide +kernel)) (fun _ _ _ _ _ => (pg_tup (by rfl) (pgs_cons (pg_name (i := 4) sc_Finder__chained.nd rfl (by first | exact Or.inl rfl | exact Or.inr rfl)) (pgs_cons (pg_name (i := 5) sc_Finder__chained.nd rfl (by first | exact Or.inl rfl | exact Or.inr rfl)) pgs_nil)))) (fun _ _ _ _ _ => pts_nil) (fun _ _ _ _ _ => (pv 4)))
  (pss_one (ps_ret (pe_lc (own := [("end", 4)]) (by rfl) sc_Finder__chained.nd (pi_all rfl (pv 3)) (blkOk_by (own := [("end", 4)]) (N := ["self", "row", "position", "ends", "end", "_"]) (sc := defScope s_Finder__chained) (by decide +kernel)) (fun _ _ _ _ _ => (pg_name (i := 4) sc_Finder__chained.nd rfl (by first | exact Or.inl rfl | exact Or.inr rfl))) (fun _ _ _ _ _ => (pts_one (PW.pt (pw_or (pt_cmpR (op_cmp rfl (hu65 hr) .eq) (pe_ix (ix_any rfl (hu65 hr)) (pv 1) pe_int (fun _ _ => rfl)) pe_str (by first | exact nomark _ | rfl)) (pw_or1 (pt_cmpR (op_cmp rfl (hu65 hr) .ne) (pv 4) (pv 2) (by first | exact nomark _ | rfl))))))) (fun _ _ _ _ _ => (pe_tup (pa_cons (pe_ix (ix_any rfl (hu65 hr)) (pv 1) pe_int (fun _ _ => rfl)) (pa_cons (pv 4) pa_nil)))))))))
theorem d_Finder__found (T : Txt K mg A FD V0) {n : Nat} (L : Lv P w K mg base A FD n) : FnOk P w K mg base CX0 (n + 1 + 1) (A 25006) (FD 25006) ["self", "number", "position"] (spV K (clV A) (fun _ => Value.none) (tb f_Finder__found).args (run tb (n + 1) f_Finder__found)) := by
  refine fun_V (g := f_Finder__found) (V0 := V0) T.F_Finder__found sc_Finder__found rfl rfl (fun cdv Ar outer s H E hr => ?_)
  show PSs _ _ (dS _ body_Finder__found _)
  exact (pss_cons (ps_set (i := 3) sc_Finder__found.nd rfl (by first | exact Or.inl rfl | exact Or.inr rfl) (pe_ix (ix_any rfl (hu65 hr)) (pe_fldV rfl T.cls T.na_rows (pv 0) (by rfl)) (pv 1) (fun _ _ => rfl)))
  (pss_cons (ps_set (i := 4) sc_Finder__found.nd rfl (by first | exact Or.inl rfl | exact Or.inr rfl) (pe_ix (ix_any rfl (hu65 hr)) (pv 3) pe_int (fun _ _ => rfl)))
  (pss_cons (ps_if (pt_cmpR (op_cmp rfl (hu65 hr) .eq) (pv 4) pe_str (by first | exact nomark _ | rfl)) (pss_one (ps_ret (pe_meth (pv 0) (T.cls 0) T.mt_Finder__set_ways L.c_Finder__set_ways hr T.b_Finder__set_ways .nil pass0 (pa_cons (pv 3) (pa_cons (pv 2) pa_nil))))) pss_nil)
  (pss_cons (ps_if (pt_cmpR (op_cmp rfl (hu65 hr) .isin) (pv 4) (pe_tup (pa_cons pe_str (pa_cons pe_str pa_nil))) (by first | exact nomark _ | rfl)) (pss_one (ps_ret (pe_meth (pv 0) (T.cls 0) T.mt_Finder__chain_ways L.c_Finder__chain_ways hr T.b_Finder__chain_ways .nil pass0 (pa_cons (pv 3) (pa_cons (pv 2) pa_nil))))) pss_nil)
  (pss_cons (ps_if (pt_cmpR (op_cmp rfl (hu65 hr) .eq) (pv 4) pe_str (by first | exact nomark _ | rfl)) (pss_one (ps_ret (pe_call L.c__once hr (by rfl) T.g__once T.F__once.kp T.b__once .nil pass0 (pa_cons (pe_op (op_bin rfl .add) (pe_ix (ix_any rfl (hu65 hr)) (pe_fldV rfl T.cls T.na_known (pv 0) (by rfl)) (pe_tup (pa_cons (pe_ix (ix_any rfl (hu65 hr)) (pv 3) pe_int (fun _ _ => rfl)) (pa_cons (pv 2) pa_nil))) (fun _ _ => rfl)) (pe_ix (ix_any rfl (hu65 hr)) (pe_fldV rfl T.cls T.na_known (pv 0) (by rfl)) (pe_tup (pa_cons (pe_ix (ix_any rfl (hu65 hr)) (pv 3) pe_int (fun _ _ => rfl)) (pa_cons (pv 2) pa_nil))) (fun _ _ => rfl))) pa_nil)))) pss_nil)
  (pss_cons (ps_if (pt_cmpR (op_cmp rfl (hu65 hr) .eq) (pv 4) pe_str (by first | exact nomark _ | rfl)) (pss_one (ps_ret (pe_call L.c__group_ways hr (by rfl) T.g__group_ways T.F__group_ways.kp T.b__group_ways .nil pass0 (pa_cons (pe_ix (ix_any rfl (hu65 hr)) (pv 3) pe_int (fun _ _ => rfl)) (pa_cons (pv 2) (pa_cons (pe_ix (ix_any rfl (hu65 hr)) (pe_fldV rfl T.cls T.na_known (pv 0) (by rfl)) (pe_tup (pa_cons (pe_ix (ix_any rfl (hu65 hr)) (pv 3) pe_int (fun _ _ => rfl)) (pa_cons (pv 2) pa_nil))) (fun _ _ => rfl)) pa_nil)))))) pss_nil)
  (pss_cons (ps_if (pt_cmpR (op_cmp rfl (hu65 hr) .eq) (pv 4) pe_str (by first | exact nomark _ | rfl)) (pss_one (ps_ret (pe_call L.c__look_ways hr (by rfl) T.g__look_ways T.F__look_ways.kp T.b__look_ways .nil pass0 (pa_cons (pv 3) (pa_cons (pv 2) (pa_cons (pe_ix (ix_any rfl (hu65 hr)) (pe_fldV rfl T.cls T.na_known (pv 0) (by rfl)) (pe_tup (pa_cons (pe_ix (ix_any rfl (hu65 hr)) (pv 3) pe_int (fun _ _ => rfl)) (pa_cons (pv 2) pa_nil))) (fun _ _ => rfl)) pa_nil)))))) pss_nil)
  (pss_cons (ps_if (pt_cmpR (op_cmp rfl (hu65 hr) .eq) (pv 4) pe_str (by first | exact nomark _ | rfl)) (pss_cons (ps_set (i := 5) sc_Finder__found.nd rfl (by first | exact Or.inl rfl | exact Or.inr rfl) (pe_call L.c_clearing hr (by rfl) T.g_clearing T.F_clearing.kp T.b_clearing .nil pass0 (pa_cons (pe_ix (ix_any rfl (hu65 hr)) (pv 3) pe_int (fun _ _ => rfl)) pa_nil)))
  (pss_one (ps_ret (pe_lc (own := [("end", 6), ("change", 7)]) (by rfl) sc_Finder__found.nd (pi_all rfl (pe_ix (ix_any rfl (hu65 hr)) (pe_fldV rfl T.cls T.na_known (pv 0) (by rfl)) (pe_tup (pa_cons (pe_ix (ix_any rfl (hu65 hr)) (pv 3) pe_int (fun _ _ => rfl)) (pa_cons (pv 2) pa_nil))) (fun _ _ => rfl))) (blkOk_by (own := [("end", 6), ("change", 7)]) (N := ["self", "number", "position", "row", "kind", "cleared", "end", "change"]) (sc := defScope s_Finder__found) (by decide +kernel)) (fun _ _ _ _ _ => (pg_tup (by rfl) (pgs_cons (pg_name (i := 6) sc_Finder__found.nd rfl (by first | exact Or.inl rfl | exact Or.inr rfl)) (pgs_cons (pg_name (i := 7) sc_Finder__found.nd rfl (by first | exact Or.inl rfl | exact Or.inr rfl)) pgs_nil)))) (fun _ _ _ _ _ => pts_nil) (fun _ _ _ _ _ => (pe_tup (pa_cons (pv 6) (pa_cons (pe_call L.c_both hr (by rfl) T.g_both T.F_both.kp T.b_both .nil pass0 (pa_cons (pv 5) (pa_cons (pv 7) pa_nil))) pa_nil)))))))) pss_nil)
  (pss_cons (ps_if (PW.pt (pw_and (pt_cmpR (op_cmp rfl (hu65 hr) .eq) (pv 4) pe_str (by first | exact nomark _ | rfl)) (pw_and1 (pt_not (pt_truthK (K := K) rfl (pe_meth (pv 0) (T.cls 0) T.mt_Finder__holds L.c_Finder__holds hr T.b_Finder__holds .nil pass0 (pa_cons (pe_ix (ix_any rfl (hu65 hr)) (pv 3) pe_int (fun _ _ => rfl)) (pa_cons (pv 2) pa_nil))) (by intro _; rfl)))))) (pss_one (ps_ret (pe_lst pa_nil))) pss_nil)
  (pss_one (ps_ret (pe_lst (pa_cons (pe_tup (pa_cons (pv 2) (pa_cons pe_non pa_nil))) pa_nil)))))))))))))
theorem d_Finder__code (T : Txt K mg A FD V0) {n : Nat} (L : Lv P w K mg base A FD n) : FnOk P w K mg base CX0 (n + 1 + 1) (A 25007) (FD 25007) ["self", "index"] (spV K (clV A) (fun _ => Value.none) (tb f_Finder__code).args (run tb (n + 1) f_Finder__code)) := by
  refine fun_V (g := f_Finder__code) (V0 := V0) T.F_Finder__code sc_Finder__code rfl rfl (fun cdv Ar outer s H E hr => ?_)
  show PSs _ _ (dS _ body_Finder__code _)
  exact (pss_cons (ps_if (pt_chain (op_cmp rfl (hu65 hr) .le) (op_cmp rfl (hu65 hr) .lt) pe_int (pv 1) (pe_callB (call_lenK (K := K) rfl) (by rfl) T.m_len PySem.boot_len (pa_cons (pe_fldV rfl T.cls T.na_codes (pv 0) (by rfl)) pa_nil))) (pss_one (ps_ret (pe_ix (ix_any rfl (hu65 hr)) (pe_fldV rfl T.cls T.na_codes (pv 0) (by rfl)) (pv 1) (fun _ _ => rfl)))) pss_nil)
  (pss_one (ps_ret pe_non)))
theorem d_Finder__holds (T : Txt K mg A FD V0) {n : Nat} (L : Lv P w K mg base A FD n) : FnOk P w K mg base CX0 (n + 1 + 1) (A 25008) (FD 25008) ["self", "name", "position"] (spV K (clV A) (fun _ => Value.none) (tb f_Finder__holds).args (run tb (n + 1) f_Finder__holds)) := by
  refine fun_V (g := f_Finder__holds) (V0 := V0) T.F_Finder__holds sc_Finder__holds rfl rfl (fun cdv Ar outer s H E hr => ?_)
  show PSs _ _ (dS _ body_Finder__holds _)
  exact (pss_one (ps_ret (pe_call L.c_anchor_holds hr (by rfl) T.g_anchor_holds T.F_anchor_holds.kp T.b_anchor_holds .nil pass0 (pa_cons (pv 1) (pa_cons (pe_meth (pv 0) (T.cls 0) T.mt_Finder__code L.c_Finder__code hr T.b_Finder__code .nil pass0 (pa_cons (pe_op (op_bin rfl .sub) (pv 2) pe_int) pa_nil)) (pa_cons (pe_meth (pv 0) (T.cls 0) T.mt_Finder__code L.c_Finder__code hr T.b_Finder__code .nil pass0 (pa_cons (pv 2) pa_nil)) pa_nil))))))
theorem d_Finder__set_ways (T : Txt K mg A FD V0) {n : Nat} (L : Lv P w K mg base A FD n) : FnOk P w K mg base CX0 (n + 1 + 1) (A 25009) (FD 25009) ["self", "row", "position"] (spV K (clV A) (fun _ => Value.none) (tb f_Finder__set_ways).args (run tb (n + 1) f_Finder__set_ways)) := by
  refine fun_V (g := f_Finder__set_ways) (V0 := V0) T.F_Finder__set_ways sc_Finder__set_ways rfl rfl (fun cdv Ar outer s H E hr => ?_)
  show PSs _ _ (dS _ body_Finder__set_ways _)
  exact (pss_cons (ps_asg (pv 1) (pg_tup (by rfl) (pgs_cons (pg_name (i := 3) sc_Finder__set_ways.nd rfl (by first | exact Or.inl rfl | exact Or.inr rfl)) (pgs_cons (pg_name (i := 4) sc_Finder__set_ways.nd rfl (by first | exact Or.inl rfl | exact Or.inr rfl)) (pgs_cons (pg_name (i := 5) sc_Finder__set_ways.nd rfl (by first | exact Or.inl rfl | exact Or.inr rfl)) pgs_nil)))))
  (pss_cons (ps_set (i := 6) sc_Finder__set_ways.nd rfl (by first | exact Or.inl rfl | exact Or.inr rfl) (pe_meth (pv 0) (T.cls 0) T.mt_Finder__code L.c_Finder__code hr T.b_Finder__code .nil pass0 (pa_cons (pe_ifExp (pt_truthK (K := K) rfl (pv 5) (by intro _; rfl)) (pe_op (op_bin rfl .sub) (pv 2) pe_int) (pv 2)) pa_nil)))
  (pss_cons (ps_if (PW.pt (pw_or (pt_cmpR (op_cmp rfl (hu65 hr) .isn) (pv 6) pe_non (by first | exact nomark _ | rfl)) (pw_or1 (pt_not (pt_truthK (K := K) rfl (pe_call L.c_contains hr (by rfl) T.g_contains T.F_contains.kp T.b_contains .nil pass0 (pa_cons (pv 4) (pa_cons (pv 6) pa_nil))) (by intro _; rfl)))))) (pss_one (ps_ret (pe_lst pa_nil))) pss_nil)
  (pss_one (ps_ret (pe_lst (pa_cons (pe_tup (pa_cons (pe_ifExp (pt_truthK (K := K) rfl (pv 5) (by intro _; rfl)) (pe_op (op_bin rfl .sub) (pv 2) pe_int) (pe_op (op_bin rfl .add) (pv 2) pe_int)) (pa_cons pe_non pa_nil))) pa_nil)))))))
theorem d_Finder__chain_ways (T : Txt K mg A FD V0) {n : Nat} (L : Lv P w K mg base A FD n) : FnOk P w K mg base CX0 (n + 1 + 1) (A 25010) (FD 25010) ["self", "row", "position"] (spV K (clV A) (fun _ => Value.none) (tb f_Finder__chain_ways).args (run tb (n + 1) f_Finder__chain_ways)) := by
  refine fun_V (g := f_Finder__chain_ways) (V0 := V0) T.F_Finder__chain_ways sc_Finder__chain_ways rfl rfl (fun cdv Ar outer s H E hr => ?_)
  show PSs _ _ (dS _ body_Finder__chain_ways _)
  exact (pss_cons (ps_set (i := 3) sc_Finder__chain_ways.nd rfl (by first | exact Or.inl rfl | exact Or.inr rfl) (pe_cmpR (op_cmp rfl (hu65 hr) .eq) (pe_ix (ix_any rfl (hu65 hr)) (pv 1) pe_int (fun _ _ => rfl)) pe_str (by first | exact nomark _ | rfl)))
  (pss_cons (ps_set (i := 4) sc_Finder__chain_ways.nd rfl (by first | exact Or.inl rfl | exact Or.inr rfl) pe_dnewK)
  (pss_cons (ps_if (PW.pt (pw_and (pt_truthK (K := K) rfl (pv 3) (by intro _; rfl)) (pw_and1 (pt_not (pt_truthK (K := K) rfl (pe_ix (ix_any rfl (hu65 hr)) (pv 1) pe_int (fun _ _ => rfl)) (by intro _; rfl)))))) (pss_one (PS.or (ps_asg pe_non (pg_sub (pv 4) (pv 2) set_list)) (ps_dput (hu1 hr) (pv 4) (pv 2) pe_non rfl))) pss_nil)
  (pss_cons (ps_for PassesOwn.never rfl (pi_all rfl (pe_ix (ix_any rfl (hu65 hr)) (pe_fldV rfl T.cls T.na_known (pv 0) (by rfl)) (pe_tup (pa_cons (pe_ix (ix_any rfl (hu65 hr)) (pv 1) pe_int (fun _ _ => rfl)) (pa_cons (pv 2) pa_nil))) (fun _ _ => rfl))) (pg_tup (by rfl) (pgs_cons (pg_name (i := 5) sc_Finder__chain_ways.nd rfl (by first | exact Or.inl rfl | exact Or.inr rfl)) (pgs_cons (pg_name (i := 6) sc_Finder__chain_ways.nd rfl (by first | exact Or.inl rfl | exact Or.inr rfl)) pgs_nil))) (pss_cons (ps_if (PW.pt (pw_and (pt_truthK (K := K) rfl (pv 3) (by intro _; rfl)) (pw_and1 (pt_cmpR (op_cmp rfl (hu65 hr) .eq) (pv 5) (pv 2) (by first | exact nomark _ | rfl))))) (pss_one ps_continue) pss_nil)
  (pss_one (ps_for PassesOwn.never rfl (pi_all rfl (pe_ix (ix_any rfl (hu65 hr)) (pe_fldV rfl T.cls T.na_known (pv 0) (by rfl)) (pe_tup (pa_cons (pe_ix (ix_any rfl (hu65 hr)) (pv 1) pe_int (fun _ _ => rfl)) (pa_cons (pv 5) pa_nil))) (fun _ _ => rfl))) (pg_tup (by rfl) (pgs_cons (pg_name (i := 7) sc_Finder__chain_ways.nd rfl (by first | exact Or.inl rfl | exact Or.inr rfl)) (pgs_cons (pg_name (i := 8) sc_Finder__chain_ways.nd rfl (by first | exact Or.inl rfl | exact Or.inr rfl)) pgs_nil))) (pss_one (ps_if (pt_cmpR (op_cmp rfl (hu65 hr) .notin) (pv 7) (pv 4) (by first | exact nomark _ | rfl)) (pss_one (PS.or (ps_asg (pe_call L.c_both hr (by rfl) T.g_both T.F_both.kp T.b_both .nil pass0 (pa_cons (pv 6) (pa_cons (pv 8) pa_nil))) (pg_sub (pv 4) (pv 7) set_list)) (ps_dput (hu1 hr) (pv 4) (pv 7) (pe_call L.c_both hr (by rfl) T.g_both T.F_both.kp T.b_both .nil pass0 (pa_cons (pv 6) (pa_cons (pv 8) pa_nil))) rfl))) pss_nil))))))
  (pss_cons (ps_if (PW.pt (pw_and (pt_truthK (K := K) rfl (pv 3) (by intro _; rfl)) (pw_and1 (pt_truthK (K := K) rfl (pe_ix (ix_any rfl (hu65 hr)) (pv 1) pe_int (fun _ _ => rfl)) (by intro _; rfl))))) (pss_one (PS.or (ps_asg pe_non (pg_sub (pv 4) (pv 2) set_list)) (ps_dput (hu1 hr) (pv 4) (pv 2) pe_non rfl))) pss_nil)
  (pss_one (ps_ret (LiI.pe_listItems (by rfl) (pv 4) (by rfl) T.m_list (by decide +kernel)))))))))
theorem d__once (T : Txt K mg A FD V0) {n : Nat} (L : Lv P w K mg base A FD n) : FnOk P w K mg base CX0 (n + 1 + 1) (A 25) (FD 25) ["found"] (spV K (clV A) (fun _ => Value.none) (tb f__once).args (run tb (n + 1) f__once)) := by
  refine fun_V (g := f__once) (V0 := V0) T.F__once sc__once rfl rfl (fun cdv Ar outer s H E hr => ?_)
  show PSs _ _ (dS _ body__once _)
  exact (pss_cons (ps_set (i := 1) sc__once.nd rfl (by first | exact Or.inl rfl | exact Or.inr rfl) pe_dnewK)
  (pss_cons (ps_for PassesOwn.never rfl (pi_all rfl (pv 0)) (pg_tup (by rfl) (pgs_cons (pg_name (i := 2) sc__once.nd rfl (by first | exact Or.inl rfl | exact Or.inr rfl)) (pgs_cons (pg_name (i := 3) sc__once.nd rfl (by first | exact Or.inl rfl | exact Or.inr rfl)) pgs_nil))) (pss_one (ps_if (pt_cmpR (op_cmp rfl (hu65 hr) .notin) (pv 2) (pv 1) (by first | exact nomark _ | rfl)) (pss_one (PS.or (ps_asg (pv 3) (pg_sub (pv 1) (pv 2) set_list)) (ps_dput (hu1 hr) (pv 1) (pv 2) (pv 3) rfl))) pss_nil)))
  (pss_one (ps_ret (LiI.pe_listItems (by rfl) (pv 1) (by rfl) T.m_list (by decide +kernel))))))
theorem d__group_ways (T : Txt K mg A FD V0) {n : Nat} (L : Lv P w K mg base A FD n) : FnOk P w K mg base CX0 (n + 1 + 1) (A 26) (FD 26) ["group", "position", "found"] (spV K (clV A) (fun _ => Value.none) (tb f__group_ways).args (run tb (n + 1) f__group_ways)) := by
  refine fun_V (g := f__group_ways) (V0 := V0) T.F__group_ways sc__group_ways rfl rfl (fun cdv Ar outer s H E hr => ?_)
  show PSs _ _ (dS _ body__group_ways _)
  exact (pss_one (ps_ret (pe_lc (own := [("end", 3), ("change", 4)]) (by rfl) sc__group_ways.nd (pi_all rfl (pv 2)) (blkOk_by (own := [("end", 3), ("change", 4)]) (N := ["group", "position", "found", "end", "change"]) (sc := defScope s__group_ways) (by decide +kernel)) (fun _ _ _ _ _ => (pg_tup (by rfl) (pgs_cons (pg_name (i := 3) sc__group_ways.nd rfl (by first | exact Or.inl rfl | exact Or.inr rfl)) (pgs_cons (pg_name (i := 4) sc__group_ways.nd rfl (by first | exact Or.inl rfl | exact Or.inr rfl)) pgs_nil)))) (fun _ _ _ _ _ => pts_nil) (fun _ _ _ _ _ => (pe_tup (pa_cons (pv 3) (pa_cons (pe_call L.c_both hr (by rfl) T.g_both T.F_both.kp T.b_both .nil pass0 (pa_cons (pv 4) (pa_cons (pe_tup (pa_cons pe_str (pa_cons (pv 0) (pa_cons (pe_tup (pa_cons (pe_callB (call_min2 rfl) (by rfl) T.m_min (by decide +kernel) (pa_cons (pv 1) (pa_cons (pv 3) pa_nil))) (pa_cons (pe_callB (call_max2 rfl) (by rfl) T.m_max (by decide +kernel) (pa_cons (pv 1) (pa_cons (pv 3) pa_nil))) pa_nil))) pa_nil)))) pa_nil))) pa_nil)))))))
theorem d__look_ways (T : Txt K mg A FD V0) {n : Nat} (L : Lv P w K mg base A FD n) : FnOk P w K mg base CX0 (n + 1 + 1) (A 27) (FD 27) ["row", "position", "found"] (spV K (clV A) (fun _ => Value.none) (tb f__look_ways).args (run tb (n + 1) f__look_ways)) := by
  refine fun_V (g := f__look_ways) (V0 := V0) T.F__look_ways sc__look_ways rfl rfl (fun cdv Ar outer s H E hr => ?_)
  show PSs _ _ (dS _ body__look_ways _)
  exact (pss_cons (ps_set (i := 3) sc__look_ways.nd rfl (by first | exact Or.inl rfl | exact Or.inr rfl) (pe_ix (ix_any rfl (hu65 hr)) (pv 0) pe_int (fun _ _ => rfl)))
  (pss_cons (ps_if (pt_cmpR (op_cmp rfl (hu65 hr) .ne) (pe_callTy (call_boolK (K := K) rfl) (by rfl) T.m_bool (by decide +kernel) (pa_cons (pv 2) pa_nil)) (pv 3) (by first | exact nomark _ | rfl)) (pss_one (ps_ret (pe_lst pa_nil))) pss_nil)
  (pss_cons (ps_if (pt_not (pt_truthK (K := K) rfl (pv 3) (by intro _; rfl))) (pss_one (ps_ret (pe_lst (pa_cons (pe_tup (pa_cons (pv 1) (pa_cons pe_non pa_nil))) pa_nil)))) pss_nil)
  (pss_one (ps_ret (pe_lst (pa_cons (pe_tup (pa_cons (pv 1) (pa_cons (pe_call L.c_both hr (by rfl) T.g_both T.F_both.kp T.b_both .nil pass0 (pa_cons (pe_call L.c_clearing hr (by rfl) T.g_clearing T.F_clearing.kp T.b_clearing .nil pass0 (pa_cons (pe_ix (ix_any rfl (hu65 hr)) (pv 0) pe_int (fun _ _ => rfl)) pa_nil)) (pa_cons (pe_ix (ix_any rfl (hu65 hr)) (pe_ix (ix_any rfl (hu65 hr)) (pv 2) pe_int (fun _ _ => rfl)) pe_int (fun _ _ => rfl)) pa_nil))) pa_nil))) pa_nil)))))))
theorem d_ways (T : Txt K mg A FD V0) {n : Nat} (L : Lv P w K mg base A FD n) : FnOk P w K mg base CX0 (n + 1 + 1) (A 29) (FD 29) ["tree", "text", "position", "held", "backward"] (spV K (clV A) (fun _ => Value.none) (tb f_ways).args (run tb (n + 1) f_ways)) := by
  refine fun_V (g := f_ways) (V0 := V0) T.F_ways sc_ways rfl rfl (fun cdv Ar outer s H E hr => ?_)
  show PSs _ _ (dS _ body_ways _)
  exact (pss_one (ps_ret (pe_meth (pe_make T.mk_Finder L.m_Finder___init__ hr (by rfl) T.gc_Finder T.b_Finder___init__ .nil pass0 (pa_cons (pv 0) (pa_cons (pv 1) (pa_cons (pv 4) pa_nil)))) (T.cls 0) T.mt_Finder_ways_from L.c_Finder_ways_from hr T.b_Finder_ways_from .nil pass0 (pa_cons (pv 2) (pa_cons (pv 3) pa_nil)))))
theorem d__law_row (T : Txt K mg A FD V0) {n : Nat} (L : Lv P w K mg base A FD n) : FnOk P w K mg base CX0 (n + 1 + 1) (A 31) (FD 31) ["script", "k"] (spV K (clV A) (fun _ => Value.none) (tb f__law_row).args (run tb (n + 1) f__law_row)) := by
  refine fun_V (g := f__law_row) (V0 := V0) T.F__law_row sc__law_row rfl rfl (fun cdv Ar outer s H E hr => ?_)
  show PSs _ _ (dS _ body__law_row _)
  exact (pss_cons (ps_set (i := 2) sc__law_row.nd rfl (by first | exact Or.inl rfl | exact Or.inr rfl) pe_int)
  (pss_cons (ps_if (pt_cmpR (op_cmp rfl (hu65 hr) .lt) (pv 1) (pe_callB (call_lenK (K := K) rfl) (by rfl) T.m_len PySem.boot_len (pa_cons (pv 0) pa_nil)) (by first | exact nomark _ | rfl)) (pss_one (ps_set (i := 2) sc__law_row.nd rfl (by first | exact Or.inl rfl | exact Or.inr rfl) (pe_ix (ix_any rfl (hu65 hr)) (pv 0) (pv 1) (fun _ _ => rfl)))) pss_nil)
  (pss_cons (ps_if (pt_cmpR (op_cmp rfl (hu65 hr) .lt) (pv 2) pe_int (by first | exact nomark _ | rfl)) (pss_one (ps_set (i := 2) sc__law_row.nd rfl (by first | exact Or.inl rfl | exact Or.inr rfl) (pe_op (op_bin rfl .sub) pe_int (pe_op (op_bin rfl .mul) pe_int (pv 2))))) pss_nil)
  (pss_cons (ps_if (pt_cmpR (op_cmp rfl (hu65 hr) .ge) (pv 2) (pe_op (op_bin rfl .pow) pe_int pe_int) (by first | exact nomark _ | rfl)) (pss_one (ps_ret (pv 2))) pss_nil)
  (pss_cons (ps_set (i := 3) sc__law_row.nd rfl (by first | exact Or.inl rfl | exact Or.inr rfl) (pe_op (op_bin rfl .mod) (pe_callTy call_int1 (by rfl) T.m_int (by decide +kernel) (pa_cons (pe_op (op_bin rfl .add) (pe_op (op_bin rfl .mul) (pe_op (op_bin rfl .add) (pe_op (op_bin rfl .add) (pv 2) (pe_op (op_bin rfl .mul) pe_int (pv 1))) pe_int) pe_int) pe_int) pa_nil)) pe_int))
  (pss_one (ps_ret (pe_op (op_bin rfl .mod) (pe_callTy call_int1 (by rfl) T.m_int (by decide +kernel) (pa_cons (pe_op (op_bin rfl .add) (pe_op (op_bin rfl .add) (pe_op (op_bin rfl .mul) (pv 3) (pv 3)) (pe_op (op_bin rfl .mul) pe_int (pv 1))) pe_int) pa_nil)) pe_int))))))))
theorem d__law_digit (T : Txt K mg A FD V0) {n : Nat} (L : Lv P w K mg base A FD n) : FnOk P w K mg base CX0 (n + 1 + 1) (A 32) (FD 32) ["script", "state", "many"] (spV K (clV A) (fun _ => Value.none) (tb f__law_digit).args (run tb (n + 1) f__law_digit)) := by
  refine fun_V (g := f__law_digit) (V0 := V0) T.F__law_digit sc__law_digit rfl rfl (fun cdv Ar outer s H E hr => ?_)
  show PSs _ _ (dS _ body__law_digit _)
  exact (pss_cons (ps_if (pt_cmpR (op_cmp rfl (hu65 hr) .eq) (pe_ix (ix_any rfl (hu65 hr)) (pv 1) pe_int (fun _ _ => rfl)) pe_int (by first | exact nomark _ | rfl)) (pss_cons (PS.or (ps_asg (pe_call L.c__law_row hr (by rfl) T.g__law_row T.F__law_row.kp T.b__law_row .nil pass0 (pa_cons (pv 0) (pa_cons (pe_ix (ix_any rfl (hu65 hr)) (pv 1) pe_int (fun _ _ => rfl)) pa_nil))) (pg_sub (pv 1) pe_int set_list)) (ps_dput (hu1 hr) (pv 1) pe_int (pe_call L.c__law_row hr (by rfl) T.g__law_row T.F__law_row.kp T.b__law_row .nil pass0 (pa_cons (pv 0) (pa_cons (pe_ix (ix_any rfl (hu65 hr)) (pv 1) pe_int (fun _ _ => rfl)) pa_nil))) rfl))
  (pss_one (PS.or (ps_asg (pe_op (op_bin rfl .add) (pe_ix (ix_any rfl (hu65 hr)) (pv 1) pe_int (fun _ _ => rfl)) pe_int) (pg_sub (pv 1) pe_int set_list)) (ps_dput (hu1 hr) (pv 1) pe_int (pe_op (op_bin rfl .add) (pe_ix (ix_any rfl (hu65 hr)) (pv 1) pe_int (fun _ _ => rfl)) pe_int) rfl)))) pss_nil)
  (pss_cons (ps_set (i := 3) sc__law_digit.nd rfl (by first | exact Or.inl rfl | exact Or.inr rfl) (pe_op (op_bin rfl .mod) (pe_callTy call_int1 (by rfl) T.m_int (by decide +kernel) (pa_cons (pe_ix (ix_any rfl (hu65 hr)) (pv 1) pe_int (fun _ _ => rfl)) pa_nil)) (pv 2)))
  (pss_cons (PS.or (ps_asg (pe_op (op_bin rfl .fdiv) (pe_ix (ix_any rfl (hu65 hr)) (pv 1) pe_int (fun _ _ => rfl)) (pv 2)) (pg_sub (pv 1) pe_int set_list)) (ps_dput (hu1 hr) (pv 1) pe_int (pe_op (op_bin rfl .fdiv) (pe_ix (ix_any rfl (hu65 hr)) (pv 1) pe_int (fun _ _ => rfl)) (pv 2)) rfl))
  (pss_one (ps_ret (pv 3))))))
theorem d__law_codes (T : Txt K mg A FD V0) {n : Nat} (L : Lv P w K mg base A FD n) : FnOk P w K mg base CX0 (n + 1 + 1) (A 33) (FD 33) ["script", "state"] (spV K (clV A) (fun _ => Value.none) (tb f__law_codes).args (run tb (n + 1) f__law_codes)) := by
  refine fun_V (g := f__law_codes) (V0 := V0) T.F__law_codes sc__law_codes rfl rfl (fun cdv Ar outer s H E hr => ?_)
  show PSs _ _ (dS _ body__law_codes _)
  exact (pss_cons (ps_set (i := 2) sc__law_codes.nd rfl (by first | exact Or.inl rfl | exact Or.inr rfl) (pe_call L.c__law_digit hr (by rfl) T.g__law_digit T.F__law_digit.kp T.b__law_digit .nil pass0 (pa_cons (pv 0) (pa_cons (pv 1) (pa_cons pe_int pa_nil)))))
  (pss_cons (ps_if (pt_cmpR (op_cmp rfl (hu65 hr) .lt) (pv 2) pe_int (by first | exact nomark _ | rfl)) (pss_cons (ps_set (i := 3) sc__law_codes.nd rfl (by first | exact Or.inl rfl | exact Or.inr rfl) (pe_op (op_bin rfl .add) pe_int (pe_op (op_bin rfl .mod) (pe_callTy call_int1 (by rfl) T.m_int (by decide +kernel) (pa_cons (pv 2) pa_nil)) pe_int)))
  (pss_one (ps_ret (pe_tup (pa_cons (pe_tup (pa_cons (pv 3) (pa_cons (pe_op (op_bin rfl .add) (pv 3) pe_int) pa_nil))) pa_nil))))) pss_nil)
  (pss_cons (ps_if (pt_cmpR (op_cmp rfl (hu65 hr) .lt) (pv 2) pe_int (by first | exact nomark _ | rfl)) (pss_one (ps_ret (pe_tup (pa_cons (pe_tup (pa_cons pe_int (pa_cons (pe_op (op_bin rfl .sub) (pe_op (op_bin rfl .add) pe_int (pv 2)) pe_int) pa_nil))) pa_nil)))) pss_nil)
  (pss_cons (ps_if (pt_cmpR (op_cmp rfl (hu65 hr) .eq) (pv 2) pe_int (by first | exact nomark _ | rfl)) (pss_one (ps_ret (pe_tup (pa_cons (pe_tup (pa_cons pe_int (pa_cons pe_int pa_nil))) (pa_cons (pe_tup (pa_cons pe_int (pa_cons pe_int pa_nil))) (pa_cons (pe_tup (pa_cons pe_int (pa_cons pe_int pa_nil))) pa_nil)))))) pss_nil)
  (pss_cons (ps_if (pt_cmpR (op_cmp rfl (hu65 hr) .eq) (pv 2) pe_int (by first | exact nomark _ | rfl)) (pss_cons (ps_set (i := 4) sc__law_codes.nd rfl (by first | exact Or.inl rfl | exact Or.inr rfl) (pe_lst (pa_cons (pe_tup pa_nil) (pa_cons (pe_tup (pa_cons (pe_tup (pa_cons pe_int (pa_cons pe_int pa_nil))) pa_nil)) (pa_cons (pe_tup (pa_cons (pe_tup (pa_cons pe_int (pa_cons pe_int pa_nil))) (pa_cons (pe_tup (pa_cons pe_int (pa_cons pe_int pa_nil))) (pa_cons (pe_tup (pa_cons pe_int (pa_cons pe_int pa_nil))) (pa_cons (pe_tup (pa_cons pe_int (pa_cons pe_int pa_nil))) pa_nil))))) (pa_cons (pe_tup (pa_cons (pe_tup (pa_cons pe_int (pa_cons pe_int pa_nil))) (pa_cons (pe_tup (pa_cons pe_int (pa_cons pe_int pa_nil))) pa_nil))) pa_nil))))))
  (pss_one (ps_ret (pe_ix (ix_any rfl (hu65 hr)) (pv 4) (pe_call L.c__law_digit hr (by rfl) T.g__law_digit T.F__law_digit.kp T.b__law_digit .nil pass0 (pa_cons (pv 0) (pa_cons (pv 1) (pa_cons pe_int pa_nil)))) (fun _ _ => rfl))))) pss_nil)
  (pss_cons (ps_if (pt_cmpR (op_cmp rfl (hu65 hr) .eq) (pv 2) pe_int (by first | exact nomark _ | rfl)) (pss_cons (ps_set (i := 3) sc__law_codes.nd rfl (by first | exact Or.inl rfl | exact Or.inr rfl) (pe_call L.c__law_digit hr (by rfl) T.g__law_digit T.F__law_digit.kp T.b__law_digit .nil pass0 (pa_cons (pv 0) (pa_cons (pv 1) (pa_cons pe_int pa_nil)))))
  (pss_cons (ps_set (i := 5) sc__law_codes.nd rfl (by first | exact Or.inl rfl | exact Or.inr rfl) (pe_op (op_bin rfl .add) (pe_op (op_bin rfl .add) (pv 3) pe_int) (pe_call L.c__law_digit hr (by rfl) T.g__law_digit T.F__law_digit.kp T.b__law_digit .nil pass0 (pa_cons (pv 0) (pa_cons (pv 1) (pa_cons pe_int pa_nil))))))
  (pss_cons (ps_set (i := 6) sc__law_codes.nd rfl (by first | exact Or.inl rfl | exact Or.inr rfl) (pe_op (op_bin rfl .add) (pe_op (op_bin rfl .add) (pv 5) pe_int) (pe_call L.c__law_digit hr (by rfl) T.g__law_digit T.F__law_digit.kp T.b__law_digit .nil pass0 (pa_cons (pv 0) (pa_cons (pv 1) (pa_cons pe_int pa_nil))))))
  (pss_one (ps_ret (pe_tup (pa_cons (pe_tup (pa_cons (pv 3) (pa_cons (pv 5) pa_nil))) (pa_cons (pe_tup (pa_cons (pv 6) (pa_cons (pe_op (op_bin rfl .add) (pe_op (op_bin rfl .add) (pv 6) pe_int) (pe_call L.c__law_digit hr (by rfl) T.g__law_digit T.F__law_digit.kp T.b__law_digit .nil pass0 (pa_cons (pv 0) (pa_cons (pv 1) (pa_cons pe_int pa_nil))))) pa_nil))) pa_nil)))))))) pss_nil)
  (pss_cons (ps_set (i := 3) sc__law_codes.nd rfl (by first | exact Or.inl rfl | exact Or.inr rfl) (pe_call L.c__law_digit hr (by rfl) T.g__law_digit T.F__law_digit.kp T.b__law_digit .nil pass0 (pa_cons (pv 0) (pa_cons (pv 1) (pa_cons pe_int pa_nil)))))
  (pss_one (ps_ret (pe_tup (pa_cons (pe_tup (pa_cons (pv 3) (pa_cons (pe_op (op_bin rfl .add) (pe_op (op_bin rfl .add) (pv 3) pe_int) (pe_call L.c__law_digit hr (by rfl) T.g__law_digit T.F__law_digit.kp T.b__law_digit .nil pass0 (pa_cons (pv 0) (pa_cons (pv 1) (pa_cons (pe_op (op_bin rfl .sub) pe_int (pv 3)) pa_nil))))) pa_nil))) pa_nil)))))))))))
theorem d__law_leaf (T : Txt K mg A FD V0) {n : Nat} (L : Lv P w K mg base A FD n) : FnOk P w K mg base CX0 (n + 1 + 1) (A 34) (FD 34) ["script", "state", "kind"] (spV K (clV A) (fun _ => Value.none) (tb f__law_leaf).args (run tb (n + 1) f__law_leaf)) := by
  refine fun_V (g := f__law_leaf) (V0 := V0) T.F__law_leaf sc__law_leaf rfl rfl (fun cdv Ar outer s H E hr => ?_)
  show PSs _ _ (dS _ body__law_leaf _)
  exact (pss_cons (ps_if (pt_cmpR (op_cmp rfl (hu65 hr) .lt) (pv 2) pe_int (by first | exact nomark _ | rfl)) (pss_one (ps_ret (pe_tup (pa_cons pe_str (pa_cons (pe_call L.c__law_codes hr (by rfl) T.g__law_codes T.F__law_codes.kp T.b__law_codes .nil pass0 (pa_cons (pv 0) (pa_cons (pv 1) pa_nil))) pa_nil))))) pss_nil)
  (pss_cons (ps_if (pt_cmpR (op_cmp rfl (hu65 hr) .eq) (pv 2) pe_int (by first | exact nomark _ | rfl)) (pss_one (ps_ret (pe_tup (pa_cons pe_str pa_nil)))) pss_nil)
  (pss_cons (ps_set (i := 3) sc__law_leaf.nd rfl (by first | exact Or.inl rfl | exact Or.inr rfl) (pe_lst (pa_cons pe_str (pa_cons pe_str (pa_cons pe_str (pa_cons pe_str (pa_cons pe_str (pa_cons pe_str pa_nil))))))))
  (pss_one (ps_ret (pe_tup (pa_cons pe_str (pa_cons (pe_ix (ix_any rfl (hu65 hr)) (pv 3) (pe_call L.c__law_digit hr (by rfl) T.g__law_digit T.F__law_digit.kp T.b__law_digit .nil pass0 (pa_cons (pv 0) (pa_cons (pv 1) (pa_cons pe_int pa_nil)))) (fun _ _ => rfl)) pa_nil))))))))
theorem d__law_repeat (T : Txt K mg A FD V0) {n : Nat} (L : Lv P w K mg base A FD n) : FnOk P w K mg base CX0 (n + 1 + 1) (A 35) (FD 35) ["script", "state", "depth"] (spV K (clV A) (fun _ => Value.none) (tb f__law_repeat).args (run tb (n + 1) f__law_repeat)) := by
  refine fun_V (g := f__law_repeat) (V0 := V0) T.F__law_repeat sc__law_repeat rfl rfl (fun cdv Ar outer s H E hr => ?_)
  show PSs _ _ (dS _ body__law_repeat _)
  exact (pss_cons (ps_set (i := 3) sc__law_repeat.nd rfl (by first | exact Or.inl rfl | exact Or.inr rfl) (pe_call L.c__law_digit hr (by rfl) T.g__law_digit T.F__law_digit.kp T.b__law_digit .nil pass0 (pa_cons (pv 0) (pa_cons (pv 1) (pa_cons pe_int pa_nil)))))
  (pss_cons (ps_set (i := 4) sc__law_repeat.nd rfl (by first | exact Or.inl rfl | exact Or.inr rfl) pe_non)
  (pss_cons (ps_if (pt_cmpR (op_cmp rfl (hu65 hr) .eq) (pe_call L.c__law_digit hr (by rfl) T.g__law_digit T.F__law_digit.kp T.b__law_digit .nil pass0 (pa_cons (pv 0) (pa_cons (pv 1) (pa_cons pe_int pa_nil)))) pe_int (by first | exact nomark _ | rfl)) (pss_one (ps_set (i := 4) sc__law_repeat.nd rfl (by first | exact Or.inl rfl | exact Or.inr rfl) (pe_op (op_bin rfl .add) (pv 3) (pe_call L.c__law_digit hr (by rfl) T.g__law_digit T.F__law_digit.kp T.b__law_digit .nil pass0 (pa_cons (pv 0) (pa_cons (pv 1) (pa_cons pe_int pa_nil))))))) pss_nil)
  (pss_cons (ps_set (i := 5) sc__law_repeat.nd rfl (by first | exact Or.inl rfl | exact Or.inr rfl) (pe_cmpR (op_cmp rfl (hu65 hr) .gt) (pe_call L.c__law_digit hr (by rfl) T.g__law_digit T.F__law_digit.kp T.b__law_digit .nil pass0 (pa_cons (pv 0) (pa_cons (pv 1) (pa_cons pe_int pa_nil)))) pe_int (by first | exact nomark _ | rfl)))
  (pss_one (ps_ret (pe_tup (pa_cons pe_str (pa_cons (pe_call L.c__law_tree hr (by rfl) T.g__law_tree T.F__law_tree.kp T.b__law_tree .nil pass0 (pa_cons (pv 0) (pa_cons (pv 1) (pa_cons (pe_op (op_bin rfl .sub) (pv 2) pe_int) pa_nil)))) (pa_cons (pv 3) (pa_cons (pv 4) (pa_cons (pv 5) pa_nil))))))))))))
theorem d__law_tree (T : Txt K mg A FD V0) {n : Nat} (L : Lv P w K mg base A FD n) : FnOk P w K mg base CX0 (n + 1 + 1) (A 36) (FD 36) ["script", "state", "depth"] (spV K (clV A) (fun _ => Value.none) (tb f__law_tree).args (run tb (n + 1) f__law_tree)) := by
  refine fun_V (g := f__law_tree) (V0 := V0) T.F__law_tree sc__law_tree rfl rfl (fun cdv Ar outer s H E hr => ?_)
  show PSs _ _ (dS _ body__law_tree _)
  exact (pss_cons (ps_set (i := 3) sc__law_tree.nd rfl (by first | exact Or.inl rfl | exact Or.inr rfl) (pe_call L.c__law_digit hr (by rfl) T.g__law_digit T.F__law_digit.kp T.b__law_digit .nil pass0 (pa_cons (pv 0) (pa_cons (pv 1) (pa_cons pe_int pa_nil)))))
  (pss_cons (ps_if (PW.pt (pw_or (pt_cmpR (op_cmp rfl (hu65 hr) .eq) (pv 2) pe_int (by first | exact nomark _ | rfl)) (pw_or (pt_cmpR (op_cmp rfl (hu65 hr) .eq) (pv 3) pe_int (by first | exact nomark _ | rfl)) (pw_or1 (pt_cmpR (op_cmp rfl (hu65 hr) .eq) (pv 3) pe_int (by first | exact nomark _ | rfl)))))) (pss_one (ps_ret (pe_call L.c__law_leaf hr (by rfl) T.g__law_leaf T.F__law_leaf.kp T.b__law_leaf .nil pass0 (pa_cons (pv 0) (pa_cons (pv 1) (pa_cons (pv 3) pa_nil)))))) pss_nil)
  (pss_cons (ps_if (pt_cmpR (op_cmp rfl (hu65 hr) .lt) (pv 3) pe_int (by first | exact nomark _ | rfl)) (pss_cons (ps_set (i := 4) sc__law_tree.nd rfl (by first | exact Or.inl rfl | exact Or.inr rfl) (pe_call L.c__law_tree hr (by rfl) T.g__law_tree T.F__law_tree.kp T.b__law_tree .nil pass0 (pa_cons (pv 0) (pa_cons (pv 1) (pa_cons (pe_op (op_bin rfl .sub) (pv 2) pe_int) pa_nil)))))
  (pss_one (ps_ret (pe_tup (pa_cons pe_str (pa_cons (pv 4) (pa_cons (pe_call L.c__law_tree hr (by rfl) T.g__law_tree T.F__law_tree.kp T.b__law_tree .nil pass0 (pa_cons (pv 0) (pa_cons (pv 1) (pa_cons (pe_op (op_bin rfl .sub) (pv 2) pe_int) pa_nil)))) pa_nil))))))) pss_nil)
  (pss_cons (ps_if (pt_cmpR (op_cmp rfl (hu65 hr) .lt) (pv 3) pe_int (by first | exact nomark _ | rfl)) (pss_cons (ps_set (i := 4) sc__law_tree.nd rfl (by first | exact Or.inl rfl | exact Or.inr rfl) (pe_call L.c__law_tree hr (by rfl) T.g__law_tree T.F__law_tree.kp T.b__law_tree .nil pass0 (pa_cons (pv 0) (pa_cons (pv 1) (pa_cons (pe_op (op_bin rfl .sub) (pv 2) pe_int) pa_nil)))))
  (pss_one (ps_ret (pe_tup (pa_cons pe_str (pa_cons (pv 4) (pa_cons (pe_call L.c__law_tree hr (by rfl) T.g__law_tree T.F__law_tree.kp T.b__law_tree .nil pass0 (pa_cons (pv 0) (pa_cons (pv 1) (pa_cons (pe_op (op_bin rfl .sub) (pv 2) pe_int) pa_nil)))) pa_nil))))))) pss_nil)
  (pss_cons (ps_if (pt_cmpR (op_cmp rfl (hu65 hr) .lt) (pv 3) pe_int (by first | exact nomark _ | rfl)) (pss_one (ps_ret (pe_call L.c__law_repeat hr (by rfl) T.g__law_repeat T.F__law_repeat.kp T.b__law_repeat .nil pass0 (pa_cons (pv 0) (pa_cons (pv 1) (pa_cons (pv 2) pa_nil)))))) pss_nil)
  (pss_cons (ps_if (PW.pt (pw_or (pt_cmpR (op_cmp rfl (hu65 hr) .lt) (pv 3) pe_int (by first | exact nomark _ | rfl)) (pw_or1 (pt_cmpR (op_cmp rfl (hu65 hr) .gt) (pe_ix (ix_any rfl (hu65 hr)) (pv 1) pe_int (fun _ _ => rfl)) pe_int (by first | exact nomark _ | rfl))))) (pss_cons (ps_set (i := 5) sc__law_tree.nd rfl (by first | exact Or.inl rfl | exact Or.inr rfl) (pe_ix (ix_any rfl (hu65 hr)) (pv 1) pe_int (fun _ _ => rfl)))
  (pss_cons (PS.or (ps_asg (pe_op (op_bin rfl .add) (pv 5) pe_int) (pg_sub (pv 1) pe_int set_list)) (ps_dput (hu1 hr) (pv 1) pe_int (pe_op (op_bin rfl .add) (pv 5) pe_int) rfl))
  (pss_one (ps_ret (pe_tup (pa_cons pe_str (pa_cons (pv 5) (pa_cons (pe_call L.c__law_tree hr (by rfl) T.g__law_tree T.F__law_tree.kp T.b__law_tree .nil pass0 (pa_cons (pv 0) (pa_cons (pv 1) (pa_cons (pe_op (op_bin rfl .sub) (pv 2) pe_int) pa_nil)))) pa_nil)))))))) pss_nil)
  (pss_cons (PS.or (ps_asg (pe_op (op_bin rfl .add) (pe_ix (ix_any rfl (hu65 hr)) (pv 1) pe_int (fun _ _ => rfl)) pe_int) (pg_sub (pv 1) pe_int set_list)) (ps_dput (hu1 hr) (pv 1) pe_int (pe_op (op_bin rfl .add) (pe_ix (ix_any rfl (hu65 hr)) (pv 1) pe_int (fun _ _ => rfl)) pe_int) rfl))
  (pss_cons (ps_set (i := 6) sc__law_tree.nd rfl (by first | exact Or.inl rfl | exact Or.inr rfl) (pe_cmpR (op_cmp rfl (hu65 hr) .eq) (pe_call L.c__law_digit hr (by rfl) T.g__law_digit T.F__law_digit.kp T.b__law_digit .nil pass0 (pa_cons (pv 0) (pa_cons (pv 1) (pa_cons pe_int pa_nil)))) pe_int (by first | exact nomark _ | rfl)))
  (pss_cons (ps_set (i := 7) sc__law_tree.nd rfl (by first | exact Or.inl rfl | exact Or.inr rfl) (pe_cmpR (op_cmp rfl (hu65 hr) .gt) (pe_call L.c__law_digit hr (by rfl) T.g__law_digit T.F__law_digit.kp T.b__law_digit .nil pass0 (pa_cons (pv 0) (pa_cons (pv 1) (pa_cons pe_int pa_nil)))) pe_int (by first | exact nomark _ | rfl)))
  (pss_one (ps_ret (pe_tup (pa_cons pe_str (pa_cons (pv 6) (pa_cons (pv 7) (pa_cons (pe_call L.c__law_tree hr (by rfl) T.g__law_tree T.F__law_tree.kp T.b__law_tree .nil pass0 (pa_cons (pv 0) (pa_cons (pv 1) (pa_cons (pe_op (op_bin rfl .sub) (pv 2) pe_int) pa_nil)))) pa_nil))))))))))))))))
theorem d__law_text (T : Txt K mg A FD V0) {n : Nat} (L : Lv P w K mg base A FD n) : FnOk P w K mg base CX0 (n + 1 + 1) (A 37) (FD 37) ["script", "state", "most"] (spV K (clV A) (fun _ => Value.none) (tb f__law_text).args (run tb (n + 1) f__law_text)) := by
  refine fun_V (g := f__law_text) (V0 := V0) T.F__law_text sc__law_text rfl rfl (fun cdv Ar outer s H E hr => ?_)
  show PSs _ _ (dS _ body__law_text _)
  exact (pss_cons (ps_set (i := 3) sc__law_text.nd rfl (by first | exact Or.inl rfl | exact Or.inr rfl) pe_str)
  (pss_cons (ps_set (i := 3) sc__law_text.nd rfl (by first | exact Or.inl rfl | exact Or.inr rfl) (pe_op (op_bin rfl .add) (pv 3) pe_str))
  (pss_cons (ps_set (i := 3) sc__law_text.nd rfl (by first | exact Or.inl rfl | exact Or.inr rfl) (pe_ix (ix_any rfl (hu65 hr)) (pe_lst (pa_cons pe_str (pa_cons pe_str (pa_cons pe_str (pa_cons pe_str (pa_cons pe_str (pa_cons (pv 3) pa_nil))))))) (pe_call L.c__law_digit hr (by rfl) T.g__law_digit T.F__law_digit.kp T.b__law_digit .nil pass0 (pa_cons (pv 0) (pa_cons (pv 1) (pa_cons pe_int pa_nil)))) (fun _ _ => rfl)))
  (pss_cons (ps_set (i := 4) sc__law_text.nd rfl (by first | exact Or.inl rfl | exact Or.inr rfl) (pe_callB (call_max2 rfl) (by rfl) T.m_max (by decide +kernel) (pa_cons (pe_call L.c__law_digit hr (by rfl) T.g__law_digit T.F__law_digit.kp T.b__law_digit .nil pass0 (pa_cons (pv 0) (pa_cons (pv 1) (pa_cons (pe_op (op_bin rfl .add) (pv 2) pe_int) pa_nil)))) (pa_cons (pe_call L.c__law_digit hr (by rfl) T.g__law_digit T.F__law_digit.kp T.b__law_digit .nil pass0 (pa_cons (pv 0) (pa_cons (pv 1) (pa_cons (pe_op (op_bin rfl .add) (pv 2) pe_int) pa_nil)))) pa_nil))))
  (pss_one (ps_ret (pe_join pe_str (pe_lc (own := [("k", 5)]) (by rfl) sc__law_text.nd (pi_range1 (by rfl) T.m_range (pa_cons (pv 4) pa_nil)) (blkOk_by (own := [("k", 5)]) (N := ["script", "state", "most", "signs", "size", "k"]) (sc := defScope s__law_text) (by decide +kernel)) (fun _ _ _ _ _ => (pg_name (i := 5) sc__law_text.nd rfl (by first | exact Or.inl rfl | exact Or.inr rfl))) (fun _ _ _ _ _ => pts_nil) (fun _ _ _ _ _ => (pe_ix (ix_any rfl (hu65 hr)) (pv 3) (pe_call L.c__law_digit hr (by rfl) T.g__law_digit T.F__law_digit.kp T.b__law_digit .nil pass0 (pa_cons (pv 0) (pa_cons (pv 1) (pa_cons (pe_callB (call_lenK (K := K) rfl) (by rfl) T.m_len PySem.boot_len (pa_cons (pv 3) pa_nil)) pa_nil)))) (fun _ _ => rfl)))))))))))
theorem d__law_same (T : Txt K mg A FD V0) {n : Nat} (L : Lv P w K mg base A FD n) : FnOk P w K mg base CX0 (n + 1 + 1) (A 38) (FD 38) ["actual", "expected"] (spV K (clV A) (fun _ => Value.none) (tb f__law_same).args (run tb (n + 1) f__law_same)) := by
  refine fun_V (g := f__law_same) (V0 := V0) T.F__law_same sc__law_same rfl rfl (fun cdv Ar outer s H E hr => ?_)
  show PSs _ _ (dS _ body__law_same _)
  exact (pss_cons (ps_if (pt_cmpR (op_cmp rfl (hu65 hr) .isn) (pv 1) pe_non (by first | exact nomark _ | rfl)) (pss_one (ps_ret (pe_cmpR (op_cmp rfl (hu65 hr) .isn) (pv 0) pe_non (by first | exact nomark _ | rfl)))) pss_nil)
  (pss_cons (ps_if (pt_truthK (K := K) rfl (pe_callB (call_isiK (K := K) rfl) (by rfl) T.m_isinstance (by decide +kernel) (pa_cons (pv 1) (pa_cons (pe_bltn (v := .ty "bool") (by rfl) T.m_bool boot_bool rfl) pa_nil))) (by intro _; rfl)) (pss_one (ps_ret (pe_andT (pe_callB (call_isiK (K := K) rfl) (by rfl) T.m_isinstance (by decide +kernel) (pa_cons (pv 0) (pa_cons (pe_bltn (v := .ty "bool") (by rfl) T.m_bool boot_bool rfl) pa_nil))) (pe_one (pe_cmpR (op_cmp rfl (hu65 hr) .eq) (pv 0) (pv 1) (by first | exact nomark _ | rfl)))))) pss_nil)
  (pss_cons (ps_if (pt_truthK (K := K) rfl (pe_callB (call_isiK (K := K) rfl) (by rfl) T.m_isinstance (by decide +kernel) (pa_cons (pv 1) (pa_cons (pe_bltn (v := .ty "int") (by rfl) T.m_int boot_int rfl) pa_nil))) (by intro _; rfl)) (pss_one (ps_ret (pe_andT (pe_callB (call_isiK (K := K) rfl) (by rfl) T.m_isinstance (by decide +kernel) (pa_cons (pv 0) (pa_cons (pe_bltn (v := .ty "int") (by rfl) T.m_int boot_int rfl) pa_nil))) (pe_andT (pe_notT (pe_callB (call_isiK (K := K) rfl) (by rfl) T.m_isinstance (by decide +kernel) (pa_cons (pv 0) (pa_cons (pe_bltn (v := .ty "bool") (by rfl) T.m_bool boot_bool rfl) pa_nil)))) (pe_one (pe_cmpR (op_cmp rfl (hu65 hr) .eq) (pv 0) (pv 1) (by first | exact nomark _ | rfl))))))) pss_nil)
  (pss_cons (ps_if (pt_truthK (K := K) rfl (pe_callB (call_isiK (K := K) rfl) (by rfl) T.m_isinstance (by decide +kernel) (pa_cons (pv 1) (pa_cons (pe_bltn (v := .ty "str") (by rfl) T.m_str boot_str rfl) pa_nil))) (by intro _; rfl)) (pss_one (ps_ret (pe_andT (pe_callB (call_isiK (K := K) rfl) (by rfl) T.m_isinstance (by decide +kernel) (pa_cons (pv 0) (pa_cons (pe_bltn (v := .ty "str") (by rfl) T.m_str boot_str rfl) pa_nil))) (pe_one (pe_cmpR (op_cmp rfl (hu65 hr) .eq) (pv 0) (pv 1) (by first | exact nomark _ | rfl)))))) pss_nil)
  (pss_cons (ps_if (PW.pt (pw_and (pt_truthK (K := K) rfl (pe_callB (call_isiK (K := K) rfl) (by rfl) T.m_isinstance (by decide +kernel) (pa_cons (pv 1) (pa_cons (pe_bltn (v := .ty "tuple") (by rfl) T.m_tuple boot_tuple rfl) pa_nil))) (by intro _; rfl)) (pw_and1 (pt_not (pt_truthK (K := K) rfl (pe_callB (call_isiK (K := K) rfl) (by rfl) T.m_isinstance (by decide +kernel) (pa_cons (pv 0) (pa_cons (pe_bltn (v := .ty "tuple") (by rfl) T.m_tuple boot_tuple rfl) pa_nil))) (by intro _; rfl)))))) (pss_one (ps_ret pe_bl)) pss_nil)
  (pss_cons (ps_if (PW.pt (pw_and (pt_truthK (K := K) rfl (pe_callB (call_isiK (K := K) rfl) (by rfl) T.m_isinstance (by decide +kernel) (pa_cons (pv 1) (pa_cons (pe_bltn (v := .ty "list") (by rfl) T.m_list boot_list rfl) pa_nil))) (by intro _; rfl)) (pw_and1 (pt_not (pt_truthK (K := K) rfl (pe_callB (call_isiK (K := K) rfl) (by rfl) T.m_isinstance (by decide +kernel) (pa_cons (pv 0) (pa_cons (pe_bltn (v := .ty "list") (by rfl) T.m_list boot_list rfl) pa_nil))) (by intro _; rfl)))))) (pss_one (ps_ret pe_bl)) pss_nil)
  (pss_cons (ps_if (pt_cmpR (op_cmp rfl (hu65 hr) .ne) (pe_callB (call_lenK (K := K) rfl) (by rfl) T.m_len PySem.boot_len (pa_cons (pv 0) pa_nil)) (pe_callB (call_lenK (K := K) rfl) (by rfl) T.m_len PySem.boot_len (pa_cons (pv 1) pa_nil)) (by first | exact nomark _ | rfl)) (pss_one (ps_ret pe_bl)) pss_nil)
  (pss_cons (ps_for PassesOwn.never rfl (pi_range1 (by rfl) T.m_range (pa_cons (pe_callB (call_lenK (K := K) rfl) (by rfl) T.m_len PySem.boot_len (pa_cons (pv 1) pa_nil)) pa_nil)) (pg_name (i := 2) sc__law_same.nd rfl (by first | exact Or.inl rfl | exact Or.inr rfl)) (pss_one (ps_if (pt_not (pt_truthK (K := K) rfl (pe_call L.c__law_same hr (by rfl) T.g__law_same T.F__law_same.kp T.b__law_same .nil pass0 (pa_cons (pe_ix (ix_any rfl (hu65 hr)) (pv 0) (pv 2) (fun _ _ => rfl)) (pa_cons (pe_ix (ix_any rfl (hu65 hr)) (pv 1) (pv 2) (fun _ _ => rfl)) pa_nil))) (by intro _; rfl))) (pss_one (ps_ret pe_bl)) pss_nil)))
  (pss_one (ps_ret pe_bl))))))))))
theorem d__law_mirror (T : Txt K mg A FD V0) {n : Nat} (L : Lv P w K mg base A FD n) : FnOk P w K mg base CX0 (n + 1 + 1) (A 39) (FD 39) ["tree"] (spV K (clV A) (fun _ => Value.none) (tb f__law_mirror).args (run tb (n + 1) f__law_mirror)) := by
  refine fun_V (g := f__law_mirror) (V0 := V0) T.F__law_mirror sc__law_mirror rfl rfl (fun cdv Ar outer s H E hr => ?_)
  show PSs _ _ (dS _ body__law_mirror _)
  exact (pss_cons (ps_set (i := 1) sc__law_mirror.nd rfl (by first | exact Or.inl rfl | exact Or.inr rfl) (pe_disp (pps_cons pe_str pe_str (pps_cons pe_str pe_str (pps_cons pe_str pe_str (pps_cons pe_str pe_str pps_nil)))) (by rfl) (by rfl) (fun z => by cases z) (by decide)))
  (pss_cons (ps_if (pt_cmpR (op_cmp rfl (hu65 hr) .eq) (pe_ix (ix_any rfl (hu65 hr)) (pv 0) pe_int (fun _ _ => rfl)) pe_str (by first | exact nomark _ | rfl)) (pss_one (ps_ret (pe_tup (pa_cons pe_str (pa_cons (pe_call L.c__law_mirror hr (by rfl) T.g__law_mirror T.F__law_mirror.kp T.b__law_mirror .nil pass0 (pa_cons (pe_ix (ix_any rfl (hu65 hr)) (pv 0) pe_int (fun _ _ => rfl)) pa_nil)) (pa_cons (pe_call L.c__law_mirror hr (by rfl) T.g__law_mirror T.F__law_mirror.kp T.b__law_mirror .nil pass0 (pa_cons (pe_ix (ix_any rfl (hu65 hr)) (pv 0) pe_int (fun _ _ => rfl)) pa_nil)) pa_nil)))))) pss_nil)
  (pss_cons (ps_if (pt_cmpR (op_cmp rfl (hu65 hr) .eq) (pe_ix (ix_any rfl (hu65 hr)) (pv 0) pe_int (fun _ _ => rfl)) pe_str (by first | exact nomark _ | rfl)) (pss_one (ps_ret (pe_tup (pa_cons pe_str (pa_cons (pe_call L.c__law_mirror hr (by rfl) T.g__law_mirror T.F__law_mirror.kp T.b__law_mirror .nil pass0 (pa_cons (pe_ix (ix_any rfl (hu65 hr)) (pv 0) pe_int (fun _ _ => rfl)) pa_nil)) (pa_cons (pe_call L.c__law_mirror hr (by rfl) T.g__law_mirror T.F__law_mirror.kp T.b__law_mirror .nil pass0 (pa_cons (pe_ix (ix_any rfl (hu65 hr)) (pv 0) pe_int (fun _ _ => rfl)) pa_nil)) pa_nil)))))) pss_nil)
  (pss_cons (ps_if (pt_cmpR (op_cmp rfl (hu65 hr) .eq) (pe_ix (ix_any rfl (hu65 hr)) (pv 0) pe_int (fun _ _ => rfl)) pe_str (by first | exact nomark _ | rfl)) (pss_one (ps_ret (pe_tup (pa_cons pe_str (pa_cons (pe_call L.c__law_mirror hr (by rfl) T.g__law_mirror T.F__law_mirror.kp T.b__law_mirror .nil pass0 (pa_cons (pe_ix (ix_any rfl (hu65 hr)) (pv 0) pe_int (fun _ _ => rfl)) pa_nil)) (pa_cons (pe_ix (ix_any rfl (hu65 hr)) (pv 0) pe_int (fun _ _ => rfl)) (pa_cons (pe_ix (ix_any rfl (hu65 hr)) (pv 0) pe_int (fun _ _ => rfl)) (pa_cons (pe_ix (ix_any rfl (hu65 hr)) (pv 0) pe_int (fun _ _ => rfl)) pa_nil)))))))) pss_nil)
  (pss_cons (ps_if (pt_cmpR (op_cmp rfl (hu65 hr) .eq) (pe_ix (ix_any rfl (hu65 hr)) (pv 0) pe_int (fun _ _ => rfl)) pe_str (by first | exact nomark _ | rfl)) (pss_one (ps_ret (pe_tup (pa_cons pe_str (pa_cons (pe_ix (ix_any rfl (hu65 hr)) (pv 0) pe_int (fun _ _ => rfl)) (pa_cons (pe_call L.c__law_mirror hr (by rfl) T.g__law_mirror T.F__law_mirror.kp T.b__law_mirror .nil pass0 (pa_cons (pe_ix (ix_any rfl (hu65 hr)) (pv 0) pe_int (fun _ _ => rfl)) pa_nil)) pa_nil)))))) pss_nil)
  (pss_cons (ps_if (pt_cmpR (op_cmp rfl (hu65 hr) .eq) (pe_ix (ix_any rfl (hu65 hr)) (pv 0) pe_int (fun _ _ => rfl)) pe_str (by first | exact nomark _ | rfl)) (pss_one (ps_ret (pe_tup (pa_cons pe_str (pa_cons (pe_notT (pe_ix (ix_any rfl (hu65 hr)) (pv 0) pe_int (fun _ _ => rfl))) (pa_cons (pe_ix (ix_any rfl (hu65 hr)) (pv 0) pe_int (fun _ _ => rfl)) (pa_cons (pe_call L.c__law_mirror hr (by rfl) T.g__law_mirror T.F__law_mirror.kp T.b__law_mirror .nil pass0 (pa_cons (pe_ix (ix_any rfl (hu65 hr)) (pv 0) pe_int (fun _ _ => rfl)) pa_nil)) pa_nil))))))) pss_nil)
  (pss_cons (ps_if (pt_cmpR (op_cmp rfl (hu65 hr) .eq) (pe_ix (ix_any rfl (hu65 hr)) (pv 0) pe_int (fun _ _ => rfl)) pe_str (by first | exact nomark _ | rfl)) (pss_one (ps_ret (pe_tup (pa_cons pe_str (pa_cons (pe_dget2 (hu1 hr) (pv 1) (pe_ix (ix_any rfl (hu65 hr)) (pv 0) pe_int (fun _ _ => rfl)) (pe_ix (ix_any rfl (hu65 hr)) (pv 0) pe_int (fun _ _ => rfl)) ⟨by rfl, by rfl, by rfl, by rfl⟩) pa_nil))))) pss_nil)
  (pss_one (ps_ret (pv 0))))))))))
theorem d__law_numbered (T : Txt K mg A FD V0) {n : Nat} (L : Lv P w K mg base A FD n) : FnOk P w K mg base CX0 (n + 1 + 1) (A 40) (FD 40) ["tree", "order"] (spV K (clV A) (fun _ => Value.none) (tb f__law_numbered).args (run tb (n + 1) f__law_numbered)) := by
  refine fun_V (g := f__law_numbered) (V0 := V0) T.F__law_numbered sc__law_numbered rfl rfl (fun cdv Ar outer s H E hr => ?_)
  show PSs _ _ (dS _ body__law_numbered _)
  exact (pss_cons (ps_if (PW.pt (pw_or (pt_cmpR (op_cmp rfl (hu65 hr) .eq) (pe_ix (ix_any rfl (hu65 hr)) (pv 0) pe_int (fun _ _ => rfl)) pe_str (by first | exact nomark _ | rfl)) (pw_or1 (pt_cmpR (op_cmp rfl (hu65 hr) .eq) (pe_ix (ix_any rfl (hu65 hr)) (pv 0) pe_int (fun _ _ => rfl)) pe_str (by first | exact nomark _ | rfl))))) (pss_cons (ps_set (i := 2) sc__law_numbered.nd rfl (by first | exact Or.inl rfl | exact Or.inr rfl) (pe_call L.c__law_numbered hr (by rfl) T.g__law_numbered T.F__law_numbered.kp T.b__law_numbered .nil pass0 (pa_cons (pe_ix (ix_any rfl (hu65 hr)) (pv 0) pe_int (fun _ _ => rfl)) (pa_cons (pv 1) pa_nil))))
  (pss_one (ps_ret (pe_tup (pa_cons (pe_ix (ix_any rfl (hu65 hr)) (pv 0) pe_int (fun _ _ => rfl)) (pa_cons (pv 2) (pa_cons (pe_call L.c__law_numbered hr (by rfl) T.g__law_numbered T.F__law_numbered.kp T.b__law_numbered .nil pass0 (pa_cons (pe_ix (ix_any rfl (hu65 hr)) (pv 0) pe_int (fun _ _ => rfl)) (pa_cons (pv 1) pa_nil))) pa_nil))))))) pss_nil)
  (pss_cons (ps_if (pt_cmpR (op_cmp rfl (hu65 hr) .eq) (pe_ix (ix_any rfl (hu65 hr)) (pv 0) pe_int (fun _ _ => rfl)) pe_str (by first | exact nomark _ | rfl)) (pss_one (ps_ret (pe_tup (pa_cons pe_str (pa_cons (pe_call L.c__law_numbered hr (by rfl) T.g__law_numbered T.F__law_numbered.kp T.b__law_numbered .nil pass0 (pa_cons (pe_ix (ix_any rfl (hu65 hr)) (pv 0) pe_int (fun _ _ => rfl)) (pa_cons (pv 1) pa_nil))) (pa_cons (pe_ix (ix_any rfl (hu65 hr)) (pv 0) pe_int (fun _ _ => rfl)) (pa_cons (pe_ix (ix_any rfl (hu65 hr)) (pv 0) pe_int (fun _ _ => rfl)) (pa_cons (pe_ix (ix_any rfl (hu65 hr)) (pv 0) pe_int (fun _ _ => rfl)) pa_nil)))))))) pss_nil)
  (pss_cons (ps_if (pt_cmpR (op_cmp rfl (hu65 hr) .eq) (pe_ix (ix_any rfl (hu65 hr)) (pv 0) pe_int (fun _ _ => rfl)) pe_str (by first | exact nomark _ | rfl)) (pss_cons (ps_set (i := 3) sc__law_numbered.nd rfl (by first | exact Or.inl rfl | exact Or.inr rfl) (pe_callB (call_lenK (K := K) rfl) (by rfl) T.m_len PySem.boot_len (pa_cons (pv 1) pa_nil)))
  (pss_cons (ps_expr (pe_bmE (K := K) rfl PySem.F.plainAttrs_list PySem.F.slot_list_append PySem.F.type_list_append mt_append (pv 1) (pa_cons (pe_ix (ix_any rfl (hu65 hr)) (pv 0) pe_int (fun _ _ => rfl)) pa_nil)))
  (pss_one (ps_ret (pe_tup (pa_cons pe_str (pa_cons (pv 3) (pa_cons (pe_call L.c__law_numbered hr (by rfl) T.g__law_numbered T.F__law_numbered.kp T.b__law_numbered .nil pass0 (pa_cons (pe_ix (ix_any rfl (hu65 hr)) (pv 0) pe_int (fun _ _ => rfl)) (pa_cons (pv 1) pa_nil))) pa_nil)))))))) pss_nil)
  (pss_cons (ps_if (pt_cmpR (op_cmp rfl (hu65 hr) .eq) (pe_ix (ix_any rfl (hu65 hr)) (pv 0) pe_int (fun _ _ => rfl)) pe_str (by first | exact nomark _ | rfl)) (pss_one (ps_ret (pe_tup (pa_cons pe_str (pa_cons (pe_ix (ix_any rfl (hu65 hr)) (pv 0) pe_int (fun _ _ => rfl)) (pa_cons (pe_ix (ix_any rfl (hu65 hr)) (pv 0) pe_int (fun _ _ => rfl)) (pa_cons (pe_call L.c__law_numbered hr (by rfl) T.g__law_numbered T.F__law_numbered.kp T.b__law_numbered .nil pass0 (pa_cons (pe_ix (ix_any rfl (hu65 hr)) (pv 0) pe_int (fun _ _ => rfl)) (pa_cons (pv 1) pa_nil))) pa_nil))))))) pss_nil)
  (pss_one (ps_ret (pv 0)))))))
theorem d__law_turned (T : Txt K mg A FD V0) {n : Nat} (L : Lv P w K mg base A FD n) : FnOk P w K mg base CX0 (n + 1 + 1) (A 41) (FD 41) ["way", "size", "order"] (spV K (clV A) (fun _ => Value.none) (tb f__law_turned).args (run tb (n + 1) f__law_turned)) := by
  refine fun_V (g := f__law_turned) (V0 := V0) T.F__law_turned sc__law_turned rfl rfl (fun cdv Ar outer s H E hr => ?_)
  show PSs _ _ (dS _ body__law_turned _)
  exact (pss_cons (ps_set (i := 3) sc__law_turned.nd rfl (by first | exact Or.inl rfl | exact Or.inr rfl) (pe_lst pa_nil))
  (pss_cons (ps_for PassesOwn.never rfl (pi_range1 (by rfl) T.m_range (pa_cons (pe_callB (call_lenK (K := K) rfl) (by rfl) T.m_len PySem.boot_len (pa_cons (pv 2) pa_nil)) pa_nil)) (pg_name (i := 4) sc__law_turned.nd rfl (by first | exact Or.inl rfl | exact Or.inr rfl)) (pss_cons (ps_set (i := 5) sc__law_turned.nd rfl (by first | exact Or.inl rfl | exact Or.inr rfl) (pe_ix (ix_any rfl (hu65 hr)) (pe_ix (ix_any rfl (hu65 hr)) (pv 0) pe_int (fun _ _ => rfl)) (pe_bmE (K := K) rfl PySem.F.plainAttrs_list PySem.F.slot_list_index PySem.F.type_list_index (mt_indexK (K := K) rfl) (pv 2) (pa_cons (pv 4) pa_nil)) (fun _ _ => rfl)))
  (pss_one (ps_if (pt_cmpR (op_cmp rfl (hu65 hr) .isn) (pv 5) pe_non (by first | exact nomark _ | rfl)) (pss_one (ps_expr (pe_bmE (K := K) rfl PySem.F.plainAttrs_list PySem.F.slot_list_append PySem.F.type_list_append mt_append (pv 3) (pa_cons pe_non pa_nil)))) (pss_one (ps_expr (pe_bmE (K := K) rfl PySem.F.plainAttrs_list PySem.F.slot_list_append PySem.F.type_list_append mt_append (pv 3) (pa_cons (pe_tup (pa_cons (pe_op (op_bin rfl .sub) (pv 1) (pe_ix (ix_any rfl (hu65 hr)) (pv 5) pe_int (fun _ _ => rfl))) (pa_cons (pe_op (op_bin rfl .sub) (pv 1) (pe_ix (ix_any rfl (hu65 hr)) (pv 5) pe_int (fun _ _ => rfl))) pa_nil))) pa_nil))))))))
  (pss_one (ps_ret (pe_tup (pa_cons (pe_op (op_bin rfl .sub) (pv 1) (pe_ix (ix_any rfl (hu65 hr)) (pv 0) pe_int (fun _ _ => rfl))) (pa_cons (pe_callTy (call_tuple_ofK (K := K) rfl) (by rfl) T.m_tuple (by decide +kernel) (pa_cons (pv 3) pa_nil)) pa_nil)))))))
theorem d_law (T : Txt K mg A FD V0) {n : Nat} (L : Lv P w K mg base A FD n) : FnOk P w K mg base CX0 (n + 1 + 1) (A 42) (FD 42) ["script"] (spV K (clV A) (fun _ => Value.none) (tb f_law).args (run tb (n + 1) f_law)) := by
  refine fun_V (g := f_law) (V0 := V0) T.F_law sc_law rfl rfl (fun cdv Ar outer s H E hr => ?_)
  show PSs _ _ (dS _ body_law _)
  exact (pss_cons (ps_set (i := 1) sc_law.nd rfl (by first | exact Or.inl rfl | exact Or.inr rfl) (pe_lst (pa_cons pe_int (pa_cons pe_int (pa_cons pe_int (pa_cons pe_int pa_nil))))))
  (pss_cons (ps_set (i := 2) sc_law.nd rfl (by first | exact Or.inl rfl | exact Or.inr rfl) (pe_call L.c__law_tree hr (by rfl) T.g__law_tree T.F__law_tree.kp T.b__law_tree .nil pass0 (pa_cons (pv 0) (pa_cons (pv 1) (pa_cons (pe_op (op_bin rfl .add) pe_int (pe_call L.c__law_digit hr (by rfl) T.g__law_digit T.F__law_digit.kp T.b__law_digit .nil pass0 (pa_cons (pv 0) (pa_cons (pv 1) (pa_cons pe_int pa_nil))))) pa_nil)))))
  (pss_cons (ps_set (i := 3) sc_law.nd rfl (by first | exact Or.inl rfl | exact Or.inr rfl) (pe_call L.c__law_text hr (by rfl) T.g__law_text T.F__law_text.kp T.b__law_text .nil pass0 (pa_cons (pv 0) (pa_cons (pv 1) (pa_cons pe_int pa_nil)))))
  (pss_cons (ps_set (i := 4) sc_law.nd rfl (by first | exact Or.inl rfl | exact Or.inr rfl) (pe_callB (call_lenK (K := K) rfl) (by rfl) T.m_len PySem.boot_len (pa_cons (pv 3) pa_nil)))
  (pss_cons (ps_set (i := 5) sc_law.nd rfl (by first | exact Or.inl rfl | exact Or.inr rfl) (pe_callTy (call_tuple_ofK (K := K) rfl) (by rfl) T.m_tuple (by decide +kernel) (pa_cons (pe_lc (own := [("k", 12)]) (by rfl) sc_law.nd (pi_range1 (by rfl) T.m_range (pa_cons (pe_ix (ix_any rfl (hu65 hr)) (pv 1) pe_int (fun _ _ => rfl)) pa_nil)) (blkOk_by (own := [("k", 12)]) (N := ["script", "state", "tree", "text", "size", "groups", "order", "mirror", "reverse", "at", "found", "expected", "k", "way"]) (sc := defScope s_law) (by decide +kernel)) (fun _ _ _ _ _ => (pg_name (i := 12) sc_law.nd rfl (by first | exact Or.inl rfl | exact Or.inr rfl))) (fun _ _ _ _ _ => pts_nil) (fun _ _ _ _ _ => pe_non)) pa_nil)))
  (pss_cons (ps_set (i := 6) sc_law.nd rfl (by first | exact Or.inl rfl | exact Or.inr rfl) (pe_lst pa_nil))
  (pss_cons (ps_set (i := 7) sc_law.nd rfl (by first | exact Or.inl rfl | exact Or.inr rfl) (pe_call L.c__law_numbered hr (by rfl) T.g__law_numbered T.F__law_numbered.kp T.b__law_numbered .nil pass0 (pa_cons (pe_call L.c__law_mirror hr (by rfl) T.g__law_mirror T.F__law_mirror.kp T.b__law_mirror .nil pass0 (pa_cons (pv 2) pa_nil)) (pa_cons (pv 6) pa_nil))))
  (pss_cons (ps_set (i := 8) sc_law.nd rfl (by first | exact Or.inl rfl | exact Or.inr rfl) (pe_join pe_str (pe_lc (own := [("k", 12)]) (by rfl) sc_law.nd (pi_range1 (by rfl) T.m_range (pa_cons (pv 4) pa_nil)) (blkOk_by (own := [("k", 12)]) (N := ["script", "state", "tree", "text", "size", "groups", "order", "mirror", "reverse", "at", "found", "expected", "k", "way"]) (sc := defScope s_law) (by decide +kernel)) (fun _ _ _ _ _ => (pg_name (i := 12) sc_law.nd rfl (by first | exact Or.inl rfl | exact Or.inr rfl))) (fun _ _ _ _ _ => pts_nil) (fun _ _ _ _ _ => (pe_ix (ix_any rfl (hu65 hr)) (pv 3) (pe_op (op_bin rfl .sub) (pe_op (op_bin rfl .sub) (pv 4) pe_int) (pv 12)) (fun _ _ => rfl))))))
  (pss_cons (ps_for PassesOwn.never rfl (pi_range1 (by rfl) T.m_range (pa_cons (pe_op (op_bin rfl .add) (pv 4) pe_int) pa_nil)) (pg_name (i := 9) sc_law.nd rfl (by first | exact Or.inl rfl | exact Or.inr rfl)) (pss_cons (ps_set (i := 10) sc_law.nd rfl (by first | exact Or.inl rfl | exact Or.inr rfl) (pe_eq (pe_callKw (E := E) L.c_ways hr (by rfl) T.g_ways T.F_ways.kp T.kb0.choose_spec pass0 (pa_cons (pv 7) (pa_cons (pv 8) (pa_cons (pe_op (op_bin rfl .sub) (pv 4) (pv 9)) pa_nil))) (pk_cons (pv 5) pk_nil) (lena_cons (lena_cons (lena_cons lena_nil))) (lena_cons lena_nil)) rfl))
  (pss_cons (ps_setLc (i := 11) (own := [("way", 13)]) (by rfl) sc_law.nd rfl rfl (sw_true rfl rfl rfl (by decide +kernel)) (pi_all rfl (pv 10)) (blkOk_by (own := [("way", 13)]) (N := ["script", "state", "tree", "text", "size", "groups", "order", "mirror", "reverse", "at", "found", "expected", "k", "way"]) (sc := defScope s_law) (by decide +kernel)) (fun _ _ _ _ _ => (pg_name (i := 13) sc_law.nd rfl (by first | exact Or.inl rfl | exact Or.inr rfl))) (fun _ _ _ _ _ => pts_nil) (fun _ _ _ _ _ => (pe_call L.c__law_turned hr (by rfl) T.g__law_turned T.F__law_turned.kp T.b__law_turned .nil pass0 (pa_cons (pv 13) (pa_cons (pv 4) (pa_cons (pv 6) pa_nil))))))
  (pss_one (ps_if (pt_not (pt_truthK (K := K) rfl (pe_call L.c__law_same hr (by rfl) T.g__law_same T.F__law_same.kp T.b__law_same .nil pass0 (pa_cons (pe_eq (pe_callKw (E := E) L.c_ways hr (by rfl) T.g_ways T.F_ways.kp T.kb1.choose_spec pass0 (pa_cons (pv 2) (pa_cons (pv 3) (pa_cons (pv 9) pa_nil))) (pk_cons (pv 5) (pk_cons pe_bl pk_nil)) (lena_cons (lena_cons (lena_cons lena_nil))) (lena_cons (lena_cons lena_nil))) rfl) (pa_cons (pv 11) pa_nil))) (by intro _; rfl))) (pss_one (ps_ret pe_bl)) pss_nil)))))
  (pss_one (ps_ret pe_bl)))))))))))
theorem lv (T : Txt K mg A FD V0) : ∀ n, Lv P w K mg base A FD n
  | 0 => ⟨fun_V0, fun_V0, fun_V0, fun_V0, fun_V0, fun_V0, fun_V0, fun_V0, fun_V0, fun_V0, fun_V0, fun_V0, fun_V0, fun_V0, fun_V0, fun_Vm, fun_V0, fun_V0, fun_V0, fun_V0, fun_V0, fun_V0, fun_V0, fun_V0, fun_V0, fun_V0, fun_V0, fun_V0, fun_V0, fun_V0, fun_V0, fun_V0, fun_V0, fun_V0, fun_V0, fun_V0, fun_V0, fun_V0, fun_V0, fun_V0, fun_V0⟩
  | n + 1 => ⟨d_contains T (lv T n), d__is_in T (lv T n), d_anchor_holds T (lv T n), d_clearing T (lv T n), d_both T (lv T n), d_changed T (lv T n), d_parts T (lv T n), d_bottom_up T (lv T n), d_bottom_up_directed T (lv T n), d_inner_groups T (lv T n), d_make_plan T (lv T n), d__add T (lv T n), d__add_part T (lv T n), d__add_repeat T (lv T n), d_Finder___init__ T (lv T n), (lv T n).c_Finder___init__, d_Finder_ways_from T (lv T n), d_Finder__solved T (lv T n), d_Finder__missing T (lv T n), d_Finder__chained T (lv T n), d_Finder__found T (lv T n), d_Finder__code T (lv T n), d_Finder__holds T (lv T n), d_Finder__set_ways T (lv T n), d_Finder__chain_ways T (lv T n), d__once T (lv T n), d__group_ways T (lv T n), d__look_ways T (lv T n), d_ways T (lv T n), d__law_row T (lv T n), d__law_digit T (lv T n), d__law_codes T (lv T n), d__law_leaf T (lv T n), d__law_repeat T (lv T n), d__law_tree T (lv T n), d__law_text T (lv T n), d__law_same T (lv T n), d__law_mirror T (lv T n), d__law_numbered T (lv T n), d__law_turned T (lv T n), d_law T (lv T n)⟩
end
theorem all_mk {l : PySem.W.OpenLaw} {w : World} {K : PySem.W.Frag} {h : Heap} {mg : Str → Option Value} {fa f0 f1 f2 f3 f4 f5 f6 f7 f8 f9 f10 f11 f12 f13 f14 f15 f16 f17 f18 f19 f20 f21 f22 f23 f24 f25 f26 f27 f28 f29 f30 f31 f32 f33 f34 f35 f36 f37 f38 f39 C_Finder : Addr} (X : K.In h) (G : h.Ns mainGlobals mg) (hfa : mg "law" = some (.ref fa))
    {od0 an0 od1 an1 od2 an2 od3 an3 od4 an4 od5 an5 od6 an6 od7 an7 od8 an8 od9 an9 od10 an10 od11 an11 od12 an12 od13 an13 od14 an14 od15 an15 od16 an16 od17 an17 od18 an18 od19 an19 od20 an20 od21 an21 od22 an22 od23 an23 od24 an24 od25 an25 od26 an26 od27 an27 od28 an28 od29 an29 od30 an30 od31 an31 od32 an32 od33 an33 od34 an34 od35 an35 od36 an36 od37 an37 od38 an38 od39 an39 : Option Addr} {sl0 sl1 sl2 sl3 sl4 sl5 sl6 sl7 sl8 sl9 sl10 sl11 sl12 sl13 sl14 sl15 sl16 sl17 sl18 sl19 sl20 sl21 sl22 sl23 sl24 sl25 sl26 sl27 sl28 sl29 sl30 sl31 sl32 sl33 sl34 sl35 sl36 sl37 sl38 sl39 : Array (Option Value)} {oc0 kV0 dc0 pm0 cd0 ct0 oc1 kV1 dc1 pm1 cd1 ct1 oc2 kV2 dc2 pm2 cd2 ct2 oc3 kV3 dc3 pm3 cd3 ct3 oc4 kV4 dc4 pm4 cd4 ct4 oc5 kV5 dc5 pm5 cd5 ct5 oc6 kV6 dc6 pm6 cd6 ct6 oc7 kV7 dc7 pm7 cd7 ct7 oc8 kV8 dc8 pm8 cd8 ct8 oc9 kV9 dc9 pm9 cd9 ct9 oc10 kV10 dc10 pm10 cd10 ct10 oc11 kV11 dc11 pm11 cd11 ct11 oc12 kV12 dc12 pm12 cd12 ct12 oc13 kV13 dc13 pm13 cd13 ct13 oc14 kV14 dc14 pm14 cd14 ct14 oc15 kV15 dc15 pm15 cd15 ct15 oc16 kV16 dc16 pm16 cd16 ct16 oc17 kV17 dc17 pm17 cd17 ct17 oc18 kV18 dc18 pm18 cd18 ct18 oc19 kV19 dc19 pm19 cd19 ct19 oc20 kV20 dc20 pm20 cd20 ct20 oc21 kV21 dc21 pm21 cd21 ct21 oc22 kV22 dc22 pm22 cd22 ct22 oc23 kV23 dc23 pm23 cd23 ct23 oc24 kV24 dc24 pm24 cd24 ct24 oc25 kV25 dc25 pm25 cd25 ct25 oc26 kV26 dc26 pm26 cd26 ct26 oc27 dc27 pm27 cd27 ct27 oc28 kV28 dc28 pm28 cd28 ct28 oc29 kV29 dc29 pm29 cd29 ct29 oc30 kV30 dc30 pm30 cd30 ct30 oc31 kV31 dc31 pm31 cd31 ct31 oc32 kV32 dc32 pm32 cd32 ct32 oc33 kV33 dc33 pm33 cd33 ct33 oc34 kV34 dc34 pm34 cd34 ct34 oc35 kV35 dc35 pm35 cd35 ct35 oc36 kV36 dc36 pm36 cd36 ct36 oc37 kV37 dc37 pm37 cd37 ct37 oc38 kV38 dc38 pm38 cd38 ct38 oc39 kV39 dc39 pm39 cd39 ct39 : Value}
    {y_0 y_1 y_2 y_3 y_4 y_5 : Addr}
    {x_WORD : Addr}
    {x_LINE_ENDS : Addr}
    {t_0 t_1 t_2 t_3 t_4 t_5 t_6 t_7 t_8 t_9 t_10 t_11 : Tok}
    {n_e_195 n_e_196 n_e_197 n_e_198 n_e_199 n_e_201 n_e_202 n_e_203 : Nat} {s_e_195 s_e_196 s_e_197 s_e_198 s_e_199 s_e_201 s_e_202 s_e_203 : Array (Option Value)}
    {kD_ways : Addr} {u_kd_ways_backward : Value}
    (A_Finder : PySem.W.nsIn K mainGlobals "Finder" = some (some (.ref C_Finder)))
    (a0 : PySem.W.nsIn K mainGlobals "contains" = some (some (.ref f0)))
    (l0 : K.lookup f0 = some ⟨oc0, od0, .func (PySem.W.fnOf "contains" "contains" (defArgs s_contains) (defBody s_contains) (defScope s_contains) .none kV0 dc0 pm0 an0 cd0 ct0), sl0⟩)
    (c0 : PySem.W.codeIn K cd0 "contains" = true)
    (k0 : PySem.W.keepIn K (.ref f0) = true)
    (a1 : PySem.W.nsIn K mainGlobals "_is_in" = some (some (.ref f1)))
    (l1 : K.lookup f1 = some ⟨oc1, od1, .func (PySem.W.fnOf "_is_in" "_is_in" (defArgs s__is_in) (defBody s__is_in) (defScope s__is_in) .none kV1 dc1 pm1 an1 cd1 ct1), sl1⟩)
    (c1 : PySem.W.codeIn K cd1 "_is_in" = true)
    (k1 : PySem.W.keepIn K (.ref f1) = true)
    (a2 : PySem.W.nsIn K mainGlobals "anchor_holds" = some (some (.ref f2)))
    (l2 : K.lookup f2 = some ⟨oc2, od2, .func (PySem.W.fnOf "anchor_holds" "anchor_holds" (defArgs s_anchor_holds) (defBody s_anchor_holds) (defScope s_anchor_holds) .none kV2 dc2 pm2 an2 cd2 ct2), sl2⟩)
    (c2 : PySem.W.codeIn K cd2 "anchor_holds" = true)
    (k2 : PySem.W.keepIn K (.ref f2) = true)
    (a3 : PySem.W.nsIn K mainGlobals "clearing" = some (some (.ref f3)))
    (l3 : K.lookup f3 = some ⟨oc3, od3, .func (PySem.W.fnOf "clearing" "clearing" (defArgs s_clearing) (defBody s_clearing) (defScope s_clearing) .none kV3 dc3 pm3 an3 cd3 ct3), sl3⟩)
    (c3 : PySem.W.codeIn K cd3 "clearing" = true)
    (k3 : PySem.W.keepIn K (.ref f3) = true)
    (a4 : PySem.W.nsIn K mainGlobals "both" = some (some (.ref f4)))
    (l4 : K.lookup f4 = some ⟨oc4, od4, .func (PySem.W.fnOf "both" "both" (defArgs s_both) (defBody s_both) (defScope s_both) .none kV4 dc4 pm4 an4 cd4 ct4), sl4⟩)
    (c4 : PySem.W.codeIn K cd4 "both" = true)
    (k4 : PySem.W.keepIn K (.ref f4) = true)
    (a5 : PySem.W.nsIn K mainGlobals "changed" = some (some (.ref f5)))
    (l5 : K.lookup f5 = some ⟨oc5, od5, .func (PySem.W.fnOf "changed" "changed" (defArgs s_changed) (defBody s_changed) (defScope s_changed) .none kV5 dc5 pm5 an5 cd5 ct5), sl5⟩)
    (c5 : PySem.W.codeIn K cd5 "changed" = true)
    (k5 : PySem.W.keepIn K (.ref f5) = true)
    (a6 : PySem.W.nsIn K mainGlobals "parts" = some (some (.ref f6)))
    (l6 : K.lookup f6 = some ⟨oc6, od6, .func (PySem.W.fnOf "parts" "parts" (defArgs s_parts) (defBody s_parts) (defScope s_parts) .none kV6 dc6 pm6 an6 cd6 ct6), sl6⟩)
    (c6 : PySem.W.codeIn K cd6 "parts" = true)
    (k6 : PySem.W.keepIn K (.ref f6) = true)
    (a7 : PySem.W.nsIn K mainGlobals "bottom_up" = some (some (.ref f7)))
    (l7 : K.lookup f7 = some ⟨oc7, od7, .func (PySem.W.fnOf "bottom_up" "bottom_up" (defArgs s_bottom_up) (defBody s_bottom_up) (defScope s_bottom_up) .none kV7 dc7 pm7 an7 cd7 ct7), sl7⟩)
    (c7 : PySem.W.codeIn K cd7 "bottom_up" = true)
    (k7 : PySem.W.keepIn K (.ref f7) = true)
    (a8 : PySem.W.nsIn K mainGlobals "bottom_up_directed" = some (some (.ref f8)))
    (l8 : K.lookup f8 = some ⟨oc8, od8, .func (PySem.W.fnOf "bottom_up_directed" "bottom_up_directed" (defArgs s_bottom_up_directed) (defBody s_bottom_up_directed) (defScope s_bottom_up_directed) .none kV8 dc8 pm8 an8 cd8 ct8), sl8⟩)
    (c8 : PySem.W.codeIn K cd8 "bottom_up_directed" = true)
    (k8 : PySem.W.keepIn K (.ref f8) = true)
    (a9 : PySem.W.nsIn K mainGlobals "inner_groups" = some (some (.ref f9)))
    (l9 : K.lookup f9 = some ⟨oc9, od9, .func (PySem.W.fnOf "inner_groups" "inner_groups" (defArgs s_inner_groups) (defBody s_inner_groups) (defScope s_inner_groups) .none kV9 dc9 pm9 an9 cd9 ct9), sl9⟩)
    (c9 : PySem.W.codeIn K cd9 "inner_groups" = true)
    (k9 : PySem.W.keepIn K (.ref f9) = true)
    (a10 : PySem.W.nsIn K mainGlobals "make_plan" = some (some (.ref f10)))
    (l10 : K.lookup f10 = some ⟨oc10, od10, .func (PySem.W.fnOf "make_plan" "make_plan" (defArgs s_make_plan) (defBody s_make_plan) (defScope s_make_plan) .none kV10 dc10 pm10 an10 cd10 ct10), sl10⟩)
    (c10 : PySem.W.codeIn K cd10 "make_plan" = true)
    (k10 : PySem.W.keepIn K (.ref f10) = true)
    (a11 : PySem.W.nsIn K mainGlobals "_add" = some (some (.ref f11)))
    (l11 : K.lookup f11 = some ⟨oc11, od11, .func (PySem.W.fnOf "_add" "_add" (defArgs s__add) (defBody s__add) (defScope s__add) .none kV11 dc11 pm11 an11 cd11 ct11), sl11⟩)
    (c11 : PySem.W.codeIn K cd11 "_add" = true)
    (k11 : PySem.W.keepIn K (.ref f11) = true)
    (a12 : PySem.W.nsIn K mainGlobals "_add_part" = some (some (.ref f12)))
    (l12 : K.lookup f12 = some ⟨oc12, od12, .func (PySem.W.fnOf "_add_part" "_add_part" (defArgs s__add_part) (defBody s__add_part) (defScope s__add_part) .none kV12 dc12 pm12 an12 cd12 ct12), sl12⟩)
    (c12 : PySem.W.codeIn K cd12 "_add_part" = true)
    (k12 : PySem.W.keepIn K (.ref f12) = true)
    (a13 : PySem.W.nsIn K mainGlobals "_add_repeat" = some (some (.ref f13)))
    (l13 : K.lookup f13 = some ⟨oc13, od13, .func (PySem.W.fnOf "_add_repeat" "_add_repeat" (defArgs s__add_repeat) (defBody s__add_repeat) (defScope s__add_repeat) .none kV13 dc13 pm13 an13 cd13 ct13), sl13⟩)
    (c13 : PySem.W.codeIn K cd13 "_add_repeat" = true)
    (k13 : PySem.W.keepIn K (.ref f13) = true)
    (a14 : PySem.W.findIn K (.ref C_Finder) "__init__" = some (some (.ref f14)))
    (i14 : PySem.W.isFn K (.ref f14) = true)
    (l14 : K.lookup f14 = some ⟨oc14, od14, .func (PySem.W.fnOf "__init__" "Finder.__init__" (defArgs s_Finder___init__) (defBody s_Finder___init__) (defScope s_Finder___init__) .none kV14 dc14 pm14 an14 cd14 ct14), sl14⟩)
    (c14 : PySem.W.codeIn K cd14 "Finder.__init__" = true)
    (k14 : PySem.W.keepIn K (.ref f14) = true)
    (a15 : PySem.W.findIn K (.ref C_Finder) "ways_from" = some (some (.ref f15)))
    (i15 : PySem.W.isFn K (.ref f15) = true)
    (l15 : K.lookup f15 = some ⟨oc15, od15, .func (PySem.W.fnOf "ways_from" "Finder.ways_from" (defArgs s_Finder_ways_from) (defBody s_Finder_ways_from) (defScope s_Finder_ways_from) .none kV15 dc15 pm15 an15 cd15 ct15), sl15⟩)
    (c15 : PySem.W.codeIn K cd15 "Finder.ways_from" = true)
    (k15 : PySem.W.keepIn K (.ref f15) = true)
    (a16 : PySem.W.findIn K (.ref C_Finder) "_solved" = some (some (.ref f16)))
    (i16 : PySem.W.isFn K (.ref f16) = true)
    (l16 : K.lookup f16 = some ⟨oc16, od16, .func (PySem.W.fnOf "_solved" "Finder._solved" (defArgs s_Finder__solved) (defBody s_Finder__solved) (defScope s_Finder__solved) .none kV16 dc16 pm16 an16 cd16 ct16), sl16⟩)
    (c16 : PySem.W.codeIn K cd16 "Finder._solved" = true)
    (k16 : PySem.W.keepIn K (.ref f16) = true)
    (a17 : PySem.W.findIn K (.ref C_Finder) "_missing" = some (some (.ref f17)))
    (i17 : PySem.W.isFn K (.ref f17) = true)
    (l17 : K.lookup f17 = some ⟨oc17, od17, .func (PySem.W.fnOf "_missing" "Finder._missing" (defArgs s_Finder__missing) (defBody s_Finder__missing) (defScope s_Finder__missing) .none kV17 dc17 pm17 an17 cd17 ct17), sl17⟩)
    (c17 : PySem.W.codeIn K cd17 "Finder._missing" = true)
    (k17 : PySem.W.keepIn K (.ref f17) = true)
    (a18 : PySem.W.findIn K (.ref C_Finder) "_chained" = some (some (.ref f18)))
    (i18 : PySem.W.isFn K (.ref f18) = true)
    (l18 : K.lookup f18 = some ⟨oc18, od18, .func (PySem.W.fnOf "_chained" "Finder._chained" (defArgs s_Finder__chained) (defBody s_Finder__chained) (defScope s_Finder__chained) .none kV18 dc18 pm18 an18 cd18 ct18), sl18⟩)
    (c18 : PySem.W.codeIn K cd18 "Finder._chained" = true)
    (k18 : PySem.W.keepIn K (.ref f18) = true)
    (a19 : PySem.W.findIn K (.ref C_Finder) "_found" = some (some (.ref f19)))
    (i19 : PySem.W.isFn K (.ref f19) = true)
    (l19 : K.lookup f19 = some ⟨oc19, od19, .func (PySem.W.fnOf "_found" "Finder._found" (defArgs s_Finder__found) (defBody s_Finder__found) (defScope s_Finder__found) .none kV19 dc19 pm19 an19 cd19 ct19), sl19⟩)
    (c19 : PySem.W.codeIn K cd19 "Finder._found" = true)
    (k19 : PySem.W.keepIn K (.ref f19) = true)
    (a20 : PySem.W.findIn K (.ref C_Finder) "_code" = some (some (.ref f20)))
    (i20 : PySem.W.isFn K (.ref f20) = true)
    (l20 : K.lookup f20 = some ⟨oc20, od20, .func (PySem.W.fnOf "_code" "Finder._code" (defArgs s_Finder__code) (defBody s_Finder__code) (defScope s_Finder__code) .none kV20 dc20 pm20 an20 cd20 ct20), sl20⟩)
    (c20 : PySem.W.codeIn K cd20 "Finder._code" = true)
    (k20 : PySem.W.keepIn K (.ref f20) = true)
    (a21 : PySem.W.findIn K (.ref C_Finder) "_holds" = some (some (.ref f21)))
    (i21 : PySem.W.isFn K (.ref f21) = true)
    (l21 : K.lookup f21 = some ⟨oc21, od21, .func (PySem.W.fnOf "_holds" "Finder._holds" (defArgs s_Finder__holds) (defBody s_Finder__holds) (defScope s_Finder__holds) .none kV21 dc21 pm21 an21 cd21 ct21), sl21⟩)
    (c21 : PySem.W.codeIn K cd21 "Finder._holds" = true)
    (k21 : PySem.W.keepIn K (.ref f21) = true)
    (a22 : PySem.W.findIn K (.ref C_Finder) "_set_ways" = some (some (.ref f22)))
    (i22 : PySem.W.isFn K (.ref f22) = true)
    (l22 : K.lookup f22 = some ⟨oc22, od22, .func (PySem.W.fnOf "_set_ways" "Finder._set_ways" (defArgs s_Finder__set_ways) (defBody s_Finder__set_ways) (defScope s_Finder__set_ways) .none kV22 dc22 pm22 an22 cd22 ct22), sl22⟩)
    (c22 : PySem.W.codeIn K cd22 "Finder._set_ways" = true)
    (k22 : PySem.W.keepIn K (.ref f22) = true)
    (a23 : PySem.W.findIn K (.ref C_Finder) "_chain_ways" = some (some (.ref f23)))
    (i23 : PySem.W.isFn K (.ref f23) = true)
    (l23 : K.lookup f23 = some ⟨oc23, od23, .func (PySem.W.fnOf "_chain_ways" "Finder._chain_ways" (defArgs s_Finder__chain_ways) (defBody s_Finder__chain_ways) (defScope s_Finder__chain_ways) .none kV23 dc23 pm23 an23 cd23 ct23), sl23⟩)
    (c23 : PySem.W.codeIn K cd23 "Finder._chain_ways" = true)
    (k23 : PySem.W.keepIn K (.ref f23) = true)
    (a24 : PySem.W.nsIn K mainGlobals "_once" = some (some (.ref f24)))
    (l24 : K.lookup f24 = some ⟨oc24, od24, .func (PySem.W.fnOf "_once" "_once" (defArgs s__once) (defBody s__once) (defScope s__once) .none kV24 dc24 pm24 an24 cd24 ct24), sl24⟩)
    (c24 : PySem.W.codeIn K cd24 "_once" = true)
    (k24 : PySem.W.keepIn K (.ref f24) = true)
    (a25 : PySem.W.nsIn K mainGlobals "_group_ways" = some (some (.ref f25)))
    (l25 : K.lookup f25 = some ⟨oc25, od25, .func (PySem.W.fnOf "_group_ways" "_group_ways" (defArgs s__group_ways) (defBody s__group_ways) (defScope s__group_ways) .none kV25 dc25 pm25 an25 cd25 ct25), sl25⟩)
    (c25 : PySem.W.codeIn K cd25 "_group_ways" = true)
    (k25 : PySem.W.keepIn K (.ref f25) = true)
    (a26 : PySem.W.nsIn K mainGlobals "_look_ways" = some (some (.ref f26)))
    (l26 : K.lookup f26 = some ⟨oc26, od26, .func (PySem.W.fnOf "_look_ways" "_look_ways" (defArgs s__look_ways) (defBody s__look_ways) (defScope s__look_ways) .none kV26 dc26 pm26 an26 cd26 ct26), sl26⟩)
    (c26 : PySem.W.codeIn K cd26 "_look_ways" = true)
    (k26 : PySem.W.keepIn K (.ref f26) = true)
    (a27 : PySem.W.nsIn K mainGlobals "ways" = some (some (.ref f27)))
    (l27 : K.lookup f27 = some ⟨oc27, od27, .func (PySem.W.fnOf "ways" "ways" (defArgs s_ways) (defBody s_ways) (defScope s_ways) .none (.ref kD_ways) dc27 pm27 an27 cd27 ct27), sl27⟩)
    (c27 : PySem.W.codeIn K cd27 "ways" = true)
    (k27 : PySem.W.keepIn K (.ref f27) = true)
    (a28 : PySem.W.nsIn K mainGlobals "_law_row" = some (some (.ref f28)))
    (l28 : K.lookup f28 = some ⟨oc28, od28, .func (PySem.W.fnOf "_law_row" "_law_row" (defArgs s__law_row) (defBody s__law_row) (defScope s__law_row) .none kV28 dc28 pm28 an28 cd28 ct28), sl28⟩)
    (c28 : PySem.W.codeIn K cd28 "_law_row" = true)
    (k28 : PySem.W.keepIn K (.ref f28) = true)
    (a29 : PySem.W.nsIn K mainGlobals "_law_digit" = some (some (.ref f29)))
    (l29 : K.lookup f29 = some ⟨oc29, od29, .func (PySem.W.fnOf "_law_digit" "_law_digit" (defArgs s__law_digit) (defBody s__law_digit) (defScope s__law_digit) .none kV29 dc29 pm29 an29 cd29 ct29), sl29⟩)
    (c29 : PySem.W.codeIn K cd29 "_law_digit" = true)
    (k29 : PySem.W.keepIn K (.ref f29) = true)
    (a30 : PySem.W.nsIn K mainGlobals "_law_codes" = some (some (.ref f30)))
    (l30 : K.lookup f30 = some ⟨oc30, od30, .func (PySem.W.fnOf "_law_codes" "_law_codes" (defArgs s__law_codes) (defBody s__law_codes) (defScope s__law_codes) .none kV30 dc30 pm30 an30 cd30 ct30), sl30⟩)
    (c30 : PySem.W.codeIn K cd30 "_law_codes" = true)
    (k30 : PySem.W.keepIn K (.ref f30) = true)
    (a31 : PySem.W.nsIn K mainGlobals "_law_leaf" = some (some (.ref f31)))
    (l31 : K.lookup f31 = some ⟨oc31, od31, .func (PySem.W.fnOf "_law_leaf" "_law_leaf" (defArgs s__law_leaf) (defBody s__law_leaf) (defScope s__law_leaf) .none kV31 dc31 pm31 an31 cd31 ct31), sl31⟩)
    (c31 : PySem.W.codeIn K cd31 "_law_leaf" = true)
    (k31 : PySem.W.keepIn K (.ref f31) = true)
    (a32 : PySem.W.nsIn K mainGlobals "_law_repeat" = some (some (.ref f32)))
    (l32 : K.lookup f32 = some ⟨oc32, od32, .func (PySem.W.fnOf "_law_repeat" "_law_repeat" (defArgs s__law_repeat) (defBody s__law_repeat) (defScope s__law_repeat) .none kV32 dc32 pm32 an32 cd32 ct32), sl32⟩)
    (c32 : PySem.W.codeIn K cd32 "_law_repeat" = true)
    (k32 : PySem.W.keepIn K (.ref f32) = true)
    (a33 : PySem.W.nsIn K mainGlobals "_law_tree" = some (some (.ref f33)))
    (l33 : K.lookup f33 = some ⟨oc33, od33, .func (PySem.W.fnOf "_law_tree" "_law_tree" (defArgs s__law_tree) (defBody s__law_tree) (defScope s__law_tree) .none kV33 dc33 pm33 an33 cd33 ct33), sl33⟩)
    (c33 : PySem.W.codeIn K cd33 "_law_tree" = true)
    (k33 : PySem.W.keepIn K (.ref f33) = true)
    (a34 : PySem.W.nsIn K mainGlobals "_law_text" = some (some (.ref f34)))
    (l34 : K.lookup f34 = some ⟨oc34, od34, .func (PySem.W.fnOf "_law_text" "_law_text" (defArgs s__law_text) (defBody s__law_text) (defScope s__law_text) .none kV34 dc34 pm34 an34 cd34 ct34), sl34⟩)
    (c34 : PySem.W.codeIn K cd34 "_law_text" = true)
    (k34 : PySem.W.keepIn K (.ref f34) = true)
    (a35 : PySem.W.nsIn K mainGlobals "_law_same" = some (some (.ref f35)))
    (l35 : K.lookup f35 = some ⟨oc35, od35, .func (PySem.W.fnOf "_law_same" "_law_same" (defArgs s__law_same) (defBody s__law_same) (defScope s__law_same) .none kV35 dc35 pm35 an35 cd35 ct35), sl35⟩)
    (c35 : PySem.W.codeIn K cd35 "_law_same" = true)
    (k35 : PySem.W.keepIn K (.ref f35) = true)
    (a36 : PySem.W.nsIn K mainGlobals "_law_mirror" = some (some (.ref f36)))
    (l36 : K.lookup f36 = some ⟨oc36, od36, .func (PySem.W.fnOf "_law_mirror" "_law_mirror" (defArgs s__law_mirror) (defBody s__law_mirror) (defScope s__law_mirror) .none kV36 dc36 pm36 an36 cd36 ct36), sl36⟩)
    (c36 : PySem.W.codeIn K cd36 "_law_mirror" = true)
    (k36 : PySem.W.keepIn K (.ref f36) = true)
    (a37 : PySem.W.nsIn K mainGlobals "_law_numbered" = some (some (.ref f37)))
    (l37 : K.lookup f37 = some ⟨oc37, od37, .func (PySem.W.fnOf "_law_numbered" "_law_numbered" (defArgs s__law_numbered) (defBody s__law_numbered) (defScope s__law_numbered) .none kV37 dc37 pm37 an37 cd37 ct37), sl37⟩)
    (c37 : PySem.W.codeIn K cd37 "_law_numbered" = true)
    (k37 : PySem.W.keepIn K (.ref f37) = true)
    (a38 : PySem.W.nsIn K mainGlobals "_law_turned" = some (some (.ref f38)))
    (l38 : K.lookup f38 = some ⟨oc38, od38, .func (PySem.W.fnOf "_law_turned" "_law_turned" (defArgs s__law_turned) (defBody s__law_turned) (defScope s__law_turned) .none kV38 dc38 pm38 an38 cd38 ct38), sl38⟩)
    (c38 : PySem.W.codeIn K cd38 "_law_turned" = true)
    (k38 : PySem.W.keepIn K (.ref f38) = true)
    (a39 : PySem.W.nsIn K mainGlobals "law" = some (some (.ref f39)))
    (l39 : K.lookup f39 = some ⟨oc39, od39, .func (PySem.W.fnOf "law" "law" (defArgs s_law) (defBody s_law) (defScope s_law) .none kV39 dc39 pm39 an39 cd39 ct39), sl39⟩)
    (c39 : PySem.W.codeIn K cd39 "law" = true)
    (k39 : PySem.W.keepIn K (.ref f39) = true)
    (pg_Finder : PySem.W.plainGet K C_Finder Str.empty = true)
    (hd_Finder : PySem.W.hasDictIn K C_Finder = true)
    (po_Finder : PySem.W.plainOver K C_Finder = true)
    (sa_Finder : PySem.W.findIn K (.ref C_Finder) "__setattr__" = some (some (.builtin "object.__setattr__")))
    (mk_Finder : PySem.W.makesIn K C_Finder = true)
    (kc_Finder : PySem.W.keepIn K (.ref C_Finder) = true)
    (n_Finder_codes : PySem.W.findIn K (.ref C_Finder) "codes" = some none)
    (n_Finder_known : PySem.W.findIn K (.ref C_Finder) "known" = some none)
    (n_Finder_rows : PySem.W.findIn K (.ref C_Finder) "rows" = some none)
    (z_bool : PySem.W.nsIn K mainGlobals "bool" = some none)
    (z_int : PySem.W.nsIn K mainGlobals "int" = some none)
    (z_isinstance : PySem.W.nsIn K mainGlobals "isinstance" = some none)
    (z_len : PySem.W.nsIn K mainGlobals "len" = some none)
    (z_list : PySem.W.nsIn K mainGlobals "list" = some none)
    (z_max : PySem.W.nsIn K mainGlobals "max" = some none)
    (z_min : PySem.W.nsIn K mainGlobals "min" = some none)
    (z_ord : PySem.W.nsIn K mainGlobals "ord" = some none)
    (z_range : PySem.W.nsIn K mainGlobals "range" = some none)
    (z_sorted : PySem.W.nsIn K mainGlobals "sorted" = some none)
    (z_str : PySem.W.nsIn K mainGlobals "str" = some none)
    (z_tuple : PySem.W.nsIn K mainGlobals "tuple" = some none)
    (kd_ways_backward : PySem.W.nsIn K kD_ways "backward" = some (some u_kd_ways_backward))
    (r_kd_ways_backward : RelV (V.bl false) u_kd_ways_backward)
    (q_WORD : PySem.W.nsIn K mainGlobals "WORD" = some (some (.ref x_WORD)))
    (e_195 : K.lookup x_WORD = some ⟨.type "tuple", none, .seq #[.ref y_0, .ref y_1, .ref y_2, .ref y_3] n_e_195, s_e_195⟩)
    (e_196 : K.lookup y_0 = some ⟨.type "tuple", none, .seq #[.int (48) t_0, .int (58) t_1] n_e_196, s_e_196⟩)
    (e_197 : K.lookup y_1 = some ⟨.type "tuple", none, .seq #[.int (65) t_2, .int (91) t_3] n_e_197, s_e_197⟩)
    (e_198 : K.lookup y_2 = some ⟨.type "tuple", none, .seq #[.int (95) t_4, .int (96) t_5] n_e_198, s_e_198⟩)
    (e_199 : K.lookup y_3 = some ⟨.type "tuple", none, .seq #[.int (97) t_6, .int (123) t_7] n_e_199, s_e_199⟩)
    (q_LINE_ENDS : PySem.W.nsIn K mainGlobals "LINE_ENDS" = some (some (.ref x_LINE_ENDS)))
    (e_201 : K.lookup x_LINE_ENDS = some ⟨.type "tuple", none, .seq #[.ref y_4, .ref y_5] n_e_201, s_e_201⟩)
    (e_202 : K.lookup y_4 = some ⟨.type "tuple", none, .seq #[.int (10) t_8, .int (11) t_9] n_e_202, s_e_202⟩)
    (e_203 : K.lookup y_5 = some ⟨.type "tuple", none, .seq #[.int (13) t_10, .int (14) t_11] n_e_203, s_e_203⟩)
    : ∃ fd : FuncData, (∀ (s : Shared) (v : Value), BindsTo s fd ⟨[v], []⟩ [("script", v)]) ∧ ∀ base : Heap, K.In base → base.Ns mainGlobals mg → FnOk l.prog w K mg base CX0 41 fa fd ["script"] (spL K) := by
  have e := hfa.symm.trans (PySem.W.mg_of X G a39)
  cases e
  have F0 := fun_mk (st := s_contains) l0 c0 k0
  have b0 := F0.binds (ps := ["a", "code"]) fun _ _ _ _ _ _ us hl => match us, hl with | [_, _], _ => rfl
  have F1 := fun_mk (st := s__is_in) l1 c1 k1
  have b1 := F1.binds (ps := ["codes", "code"]) fun _ _ _ _ _ _ us hl => match us, hl with | [_, _], _ => rfl
  have F2 := fun_mk (st := s_anchor_holds) l2 c2 k2
  have b2 := F2.binds (ps := ["name", "before", "after"]) fun _ _ _ _ _ _ us hl => match us, hl with | [_, _, _], _ => rfl
  have F3 := fun_mk (st := s_clearing) l3 c3 k3
  have b3 := F3.binds (ps := ["groups"]) fun _ _ _ _ _ _ us hl => match us, hl with | [_], _ => rfl
  have F4 := fun_mk (st := s_both) l4 c4 k4
  have b4 := F4.binds (ps := ["earlier", "later"]) fun _ _ _ _ _ _ us hl => match us, hl with | [_, _], _ => rfl
  have F5 := fun_mk (st := s_changed) l5 c5 k5
  have b5 := F5.binds (ps := ["held", "change"]) fun _ _ _ _ _ _ us hl => match us, hl with | [_, _], _ => rfl
  have F6 := fun_mk (st := s_parts) l6 c6 k6
  have b6 := F6.binds (ps := ["tree"]) fun _ _ _ _ _ _ us hl => match us, hl with | [_], _ => rfl
  have F7 := fun_mk (st := s_bottom_up) l7 c7 k7
  have b7 := F7.binds (ps := ["tree"]) fun _ _ _ _ _ _ us hl => match us, hl with | [_], _ => rfl
  have F8 := fun_mk (st := s_bottom_up_directed) l8 c8 k8
  have b8 := F8.binds (ps := ["tree", "backward"]) fun _ _ _ _ _ _ us hl => match us, hl with | [_, _], _ => rfl
  have F9 := fun_mk (st := s_inner_groups) l9 c9 k9
  have b9 := F9.binds (ps := ["tree"]) fun _ _ _ _ _ _ us hl => match us, hl with | [_], _ => rfl
  have F10 := fun_mk (st := s_make_plan) l10 c10 k10
  have b10 := F10.binds (ps := ["tree", "backward"]) fun _ _ _ _ _ _ us hl => match us, hl with | [_, _], _ => rfl
  have F11 := fun_mk (st := s__add) l11 c11 k11
  have b11 := F11.binds (ps := ["rows", "row"]) fun _ _ _ _ _ _ us hl => match us, hl with | [_, _], _ => rfl
  have F12 := fun_mk (st := s__add_part) l12 c12 k12
  have b12 := F12.binds (ps := ["rows", "part", "below", "backward"]) fun _ _ _ _ _ _ us hl => match us, hl with | [_, _, _, _], _ => rfl
  have F13 := fun_mk (st := s__add_repeat) l13 c13 k13
  have b13 := F13.binds (ps := ["rows", "part", "below"]) fun _ _ _ _ _ _ us hl => match us, hl with | [_, _, _], _ => rfl
  have F14 := fun_mk (st := s_Finder___init__) l14 c14 k14
  have b14 := F14.binds (ps := ["self", "tree", "text", "backward"]) fun _ _ _ _ _ _ us hl => match us, hl with | [_, _, _, _], _ => rfl
  have F15 := fun_mk (st := s_Finder_ways_from) l15 c15 k15
  have b15 := F15.binds (ps := ["self", "position", "held"]) fun _ _ _ _ _ _ us hl => match us, hl with | [_, _, _], _ => rfl
  have F16 := fun_mk (st := s_Finder__solved) l16 c16 k16
  have b16 := F16.binds (ps := ["self", "position"]) fun _ _ _ _ _ _ us hl => match us, hl with | [_, _], _ => rfl
  have F17 := fun_mk (st := s_Finder__missing) l17 c17 k17
  have b17 := F17.binds (ps := ["self", "number", "position"]) fun _ _ _ _ _ _ us hl => match us, hl with | [_, _, _], _ => rfl
  have F18 := fun_mk (st := s_Finder__chained) l18 c18 k18
  have b18 := F18.binds (ps := ["self", "row", "position"]) fun _ _ _ _ _ _ us hl => match us, hl with | [_, _, _], _ => rfl
  have F19 := fun_mk (st := s_Finder__found) l19 c19 k19
  have b19 := F19.binds (ps := ["self", "number", "position"]) fun _ _ _ _ _ _ us hl => match us, hl with | [_, _, _], _ => rfl
  have F20 := fun_mk (st := s_Finder__code) l20 c20 k20
  have b20 := F20.binds (ps := ["self", "index"]) fun _ _ _ _ _ _ us hl => match us, hl with | [_, _], _ => rfl
  have F21 := fun_mk (st := s_Finder__holds) l21 c21 k21
  have b21 := F21.binds (ps := ["self", "name", "position"]) fun _ _ _ _ _ _ us hl => match us, hl with | [_, _, _], _ => rfl
  have F22 := fun_mk (st := s_Finder__set_ways) l22 c22 k22
  have b22 := F22.binds (ps := ["self", "row", "position"]) fun _ _ _ _ _ _ us hl => match us, hl with | [_, _, _], _ => rfl
  have F23 := fun_mk (st := s_Finder__chain_ways) l23 c23 k23
  have b23 := F23.binds (ps := ["self", "row", "position"]) fun _ _ _ _ _ _ us hl => match us, hl with | [_, _, _], _ => rfl
  have F24 := fun_mk (st := s__once) l24 c24 k24
  have b24 := F24.binds (ps := ["found"]) fun _ _ _ _ _ _ us hl => match us, hl with | [_], _ => rfl
  have F25 := fun_mk (st := s__group_ways) l25 c25 k25
  have b25 := F25.binds (ps := ["group", "position", "found"]) fun _ _ _ _ _ _ us hl => match us, hl with | [_, _, _], _ => rfl
  have F26 := fun_mk (st := s__look_ways) l26 c26 k26
  have b26 := F26.binds (ps := ["row", "position", "found"]) fun _ _ _ _ _ _ us hl => match us, hl with | [_, _, _], _ => rfl
  have F27 := fun_mk (st := s_ways) l27 c27 k27
  have F28 := fun_mk (st := s__law_row) l28 c28 k28
  have b28 := F28.binds (ps := ["script", "k"]) fun _ _ _ _ _ _ us hl => match us, hl with | [_, _], _ => rfl
  have F29 := fun_mk (st := s__law_digit) l29 c29 k29
  have b29 := F29.binds (ps := ["script", "state", "many"]) fun _ _ _ _ _ _ us hl => match us, hl with | [_, _, _], _ => rfl
  have F30 := fun_mk (st := s__law_codes) l30 c30 k30
  have b30 := F30.binds (ps := ["script", "state"]) fun _ _ _ _ _ _ us hl => match us, hl with | [_, _], _ => rfl
  have F31 := fun_mk (st := s__law_leaf) l31 c31 k31
  have b31 := F31.binds (ps := ["script", "state", "kind"]) fun _ _ _ _ _ _ us hl => match us, hl with | [_, _, _], _ => rfl
  have F32 := fun_mk (st := s__law_repeat) l32 c32 k32
  have b32 := F32.binds (ps := ["script", "state", "depth"]) fun _ _ _ _ _ _ us hl => match us, hl with | [_, _, _], _ => rfl
  have F33 := fun_mk (st := s__law_tree) l33 c33 k33
  have b33 := F33.binds (ps := ["script", "state", "depth"]) fun _ _ _ _ _ _ us hl => match us, hl with | [_, _, _], _ => rfl
  have F34 := fun_mk (st := s__law_text) l34 c34 k34
  have b34 := F34.binds (ps := ["script", "state", "most"]) fun _ _ _ _ _ _ us hl => match us, hl with | [_, _, _], _ => rfl
  have F35 := fun_mk (st := s__law_same) l35 c35 k35
  have b35 := F35.binds (ps := ["actual", "expected"]) fun _ _ _ _ _ _ us hl => match us, hl with | [_, _], _ => rfl
  have F36 := fun_mk (st := s__law_mirror) l36 c36 k36
  have b36 := F36.binds (ps := ["tree"]) fun _ _ _ _ _ _ us hl => match us, hl with | [_], _ => rfl
  have F37 := fun_mk (st := s__law_numbered) l37 c37 k37
  have b37 := F37.binds (ps := ["tree", "order"]) fun _ _ _ _ _ _ us hl => match us, hl with | [_, _], _ => rfl
  have F38 := fun_mk (st := s__law_turned) l38 c38 k38
  have b38 := F38.binds (ps := ["way", "size", "order"]) fun _ _ _ _ _ _ us hl => match us, hl with | [_, _, _], _ => rfl
  have F39 := fun_mk (st := s_law) l39 c39 k39
  have b39 := F39.binds (ps := ["script"]) fun _ _ _ _ _ _ us hl => match us, hl with | [_], _ => rfl
  have T : Txt K mg (fun i => if i = 4 then f0 else if i = 6 then f1 else if i = 7 then f2 else if i = 9 then f3 else if i = 10 then f4 else if i = 11 then f5 else if i = 13 then f6 else if i = 14 then f7 else if i = 15 then f8 else if i = 17 then f9 else if i = 19 then f10 else if i = 20 then f11 else if i = 21 then f12 else if i = 22 then f13 else if i = 25000 then f14 else if i = 25001 then f15 else if i = 25003 then f16 else if i = 25004 then f17 else if i = 25005 then f18 else if i = 25006 then f19 else if i = 25007 then f20 else if i = 25008 then f21 else if i = 25009 then f22 else if i = 25010 then f23 else if i = 25 then f24 else if i = 26 then f25 else if i = 27 then f26 else if i = 29 then f27 else if i = 31 then f28 else if i = 32 then f29 else if i = 33 then f30 else if i = 34 then f31 else if i = 35 then f32 else if i = 36 then f33 else if i = 37 then f34 else if i = 38 then f35 else if i = 39 then f36 else if i = 40 then f37 else if i = 41 then f38 else if i = 42 then fa else if i = 24 then C_Finder else 0) (fun i => if i = 4 then PySem.W.fnOf "contains" "contains" (defArgs s_contains) (defBody s_contains) (defScope s_contains) .none kV0 dc0 pm0 an0 cd0 ct0 else if i = 6 then PySem.W.fnOf "_is_in" "_is_in" (defArgs s__is_in) (defBody s__is_in) (defScope s__is_in) .none kV1 dc1 pm1 an1 cd1 ct1 else if i = 7 then PySem.W.fnOf "anchor_holds" "anchor_holds" (defArgs s_anchor_holds) (defBody s_anchor_holds) (defScope s_anchor_holds) .none kV2 dc2 pm2 an2 cd2 ct2 else if i = 9 then PySem.W.fnOf "clearing" "clearing" (defArgs s_clearing) (defBody s_clearing) (defScope s_clearing) .none kV3 dc3 pm3 an3 cd3 ct3 else if i = 10 then PySem.W.fnOf "both" "both" (defArgs s_both) (defBody s_both) (defScope s_both) .none kV4 dc4 pm4 an4 cd4 ct4 else if i = 11 then PySem.W.fnOf "changed" "changed" (defArgs s_changed) (defBody s_changed) (defScope s_changed) .none kV5 dc5 pm5 an5 cd5 ct5 else if i = 13 then PySem.W.fnOf "parts" "parts" (defArgs s_parts) (defBody s_parts) (defScope s_parts) .none kV6 dc6 pm6 an6 cd6 ct6 else if i = 14 then PySem.W.fnOf "bottom_up" "bottom_up" (defArgs s_bottom_up) (defBody s_bottom_up) (defScope s_bottom_up) .none kV7 dc7 pm7 an7 cd7 ct7 else if i = 15 then PySem.W.fnOf "bottom_up_directed" "bottom_up_directed" (defArgs s_bottom_up_directed) (defBody s_bottom_up_directed) (defScope s_bottom_up_directed) .none kV8 dc8 pm8 an8 cd8 ct8 else if i = 17 then PySem.W.fnOf "inner_groups" "inner_groups" (defArgs s_inner_groups) (defBody s_inner_groups) (defScope s_inner_groups) .none kV9 dc9 pm9 an9 cd9 ct9 else if i = 19 then PySem.W.fnOf "make_plan" "make_plan" (defArgs s_make_plan) (defBody s_make_plan) (defScope s_make_plan) .none kV10 dc10 pm10 an10 cd10 ct10 else if i = 20 then PySem.W.fnOf "_add" "_add" (defArgs s__add) (defBody s__add) (defScope s__add) .none kV11 dc11 pm11 an11 cd11 ct11 else if i = 21 then PySem.W.fnOf "_add_part" "_add_part" (defArgs s__add_part) (defBody s__add_part) (defScope s__add_part) .none kV12 dc12 pm12 an12 cd12 ct12 else if i = 22 then PySem.W.fnOf "_add_repeat" "_add_repeat" (defArgs s__add_repeat) (defBody s__add_repeat) (defScope s__add_repeat) .none kV13 dc13 pm13 an13 cd13 ct13 else if i = 25000 then PySem.W.fnOf "__init__" "Finder.__init__" (defArgs s_Finder___init__) (defBody s_Finder___init__) (defScope s_Finder___init__) .none kV14 dc14 pm14 an14 cd14 ct14 else if i = 25001 then PySem.W.fnOf "ways_from" "Finder.ways_from" (defArgs s_Finder_ways_from) (defBody s_Finder_ways_from) (defScope s_Finder_ways_from) .none kV15 dc15 pm15 an15 cd15 ct15 else if i = 25003 then PySem.W.fnOf "_solved" "Finder._solved" (defArgs s_Finder__solved) (defBody s_Finder__solved) (defScope s_Finder__solved) .none kV16 dc16 pm16 an16 cd16 ct16 else if i = 25004 then PySem.W.fnOf "_missing" "Finder._missing" (defArgs s_Finder__missing) (defBody s_Finder__missing) (defScope s_Finder__missing) .none kV17 dc17 pm17 an17 cd17 ct17 else if i = 25005 then PySem.W.fnOf "_chained" "Finder._chained" (defArgs s_Finder__chained) (defBody s_Finder__chained) (defScope s_Finder__chained) .none kV18 dc18 pm18 an18 cd18 ct18 else if i = 25006 then PySem.W.fnOf "_found" "Finder._found" (defArgs s_Finder__found) (defBody s_Finder__found) (defScope s_Finder__found) .none kV19 dc19 pm19 an19 cd19 ct19 else if i = 25007 then PySem.W.fnOf "_code" "Finder._code" (defArgs s_Finder__code) (defBody s_Finder__code) (defScope s_Finder__code) .none kV20 dc20 pm20 an20 cd20 ct20 else if i = 25008 then PySem.W.fnOf "_holds" "Finder._holds" (defArgs s_Finder__holds) (defBody s_Finder__holds) (defScope s_Finder__holds) .none kV21 dc21 pm21 an21 cd21 ct21 else if i = 25009 then PySem.W.fnOf "_set_ways" "Finder._set_ways" (defArgs s_Finder__set_ways) (defBody s_Finder__set_ways) (defScope s_Finder__set_ways) .none kV22 dc22 pm22 an22 cd22 ct22 else if i = 25010 then PySem.W.fnOf "_chain_ways" "Finder._chain_ways" (defArgs s_Finder__chain_ways) (defBody s_Finder__chain_ways) (defScope s_Finder__chain_ways) .none kV23 dc23 pm23 an23 cd23 ct23 else if i = 25 then PySem.W.fnOf "_once" "_once" (defArgs s__once) (defBody s__once) (defScope s__once) .none kV24 dc24 pm24 an24 cd24 ct24 else if i = 26 then PySem.W.fnOf "_group_ways" "_group_ways" (defArgs s__group_ways) (defBody s__group_ways) (defScope s__group_ways) .none kV25 dc25 pm25 an25 cd25 ct25 else if i = 27 then PySem.W.fnOf "_look_ways" "_look_ways" (defArgs s__look_ways) (defBody s__look_ways) (defScope s__look_ways) .none kV26 dc26 pm26 an26 cd26 ct26 else if i = 29 then PySem.W.fnOf "ways" "ways" (defArgs s_ways) (defBody s_ways) (defScope s_ways) .none (.ref kD_ways) dc27 pm27 an27 cd27 ct27 else if i = 31 then PySem.W.fnOf "_law_row" "_law_row" (defArgs s__law_row) (defBody s__law_row) (defScope s__law_row) .none kV28 dc28 pm28 an28 cd28 ct28 else if i = 32 then PySem.W.fnOf "_law_digit" "_law_digit" (defArgs s__law_digit) (defBody s__law_digit) (defScope s__law_digit) .none kV29 dc29 pm29 an29 cd29 ct29 else if i = 33 then PySem.W.fnOf "_law_codes" "_law_codes" (defArgs s__law_codes) (defBody s__law_codes) (defScope s__law_codes) .none kV30 dc30 pm30 an30 cd30 ct30 else if i = 34 then PySem.W.fnOf "_law_leaf" "_law_leaf" (defArgs s__law_leaf) (defBody s__law_leaf) (defScope s__law_leaf) .none kV31 dc31 pm31 an31 cd31 ct31 else if i = 35 then PySem.W.fnOf "_law_repeat" "_law_repeat" (defArgs s__law_repeat) (defBody s__law_repeat) (defScope s__law_repeat) .none kV32 dc32 pm32 an32 cd32 ct32 else if i = 36 then PySem.W.fnOf "_law_tree" "_law_tree" (defArgs s__law_tree) (defBody s__law_tree) (defScope s__law_tree) .none kV33 dc33 pm33 an33 cd33 ct33 else if i = 37 then PySem.W.fnOf "_law_text" "_law_text" (defArgs s__law_text) (defBody s__law_text) (defScope s__law_text) .none kV34 dc34 pm34 an34 cd34 ct34 else if i = 38 then PySem.W.fnOf "_law_same" "_law_same" (defArgs s__law_same) (defBody s__law_same) (defScope s__law_same) .none kV35 dc35 pm35 an35 cd35 ct35 else if i = 39 then PySem.W.fnOf "_law_mirror" "_law_mirror" (defArgs s__law_mirror) (defBody s__law_mirror) (defScope s__law_mirror) .none kV36 dc36 pm36 an36 cd36 ct36 else if i = 40 then PySem.W.fnOf "_law_numbered" "_law_numbered" (defArgs s__law_numbered) (defBody s__law_numbered) (defScope s__law_numbered) .none kV37 dc37 pm37 an37 cd37 ct37 else if i = 41 then PySem.W.fnOf "_law_turned" "_law_turned" (defArgs s__law_turned) (defBody s__law_turned) (defScope s__law_turned) .none kV38 dc38 pm38 an38 cd38 ct38 else if i = 42 then PySem.W.fnOf "law" "law" (defArgs s_law) (defBody s_law) (defScope s_law) .none kV39 dc39 pm39 an39 cd39 ct39 else PySem.W.fnOf "law" "law" (defArgs s_law) (defBody s_law) (defScope s_law) .none kV39 dc39 pm39 an39 cd39 ct39) (fun i => if i = 1 then V.ref x_WORD else if i = 2 then V.ref x_LINE_ENDS else V.non) := ⟨F0,
    b0,
    PySem.W.mg_of X G a0,
    F1,
    b1,
    PySem.W.mg_of X G a1,
    F2,
    b2,
    PySem.W.mg_of X G a2,
    F3,
    b3,
    PySem.W.mg_of X G a3,
    F4,
    b4,
    PySem.W.mg_of X G a4,
    F5,
    b5,
    PySem.W.mg_of X G a5,
    F6,
    b6,
    PySem.W.mg_of X G a6,
    F7,
    b7,
    PySem.W.mg_of X G a7,
    F8,
    b8,
    PySem.W.mg_of X G a8,
    F9,
    b9,
    PySem.W.mg_of X G a9,
    F10,
    b10,
    PySem.W.mg_of X G a10,
    F11,
    b11,
    PySem.W.mg_of X G a11,
    F12,
    b12,
    PySem.W.mg_of X G a12,
    F13,
    b13,
    PySem.W.mg_of X G a13,
    F14,
    b14,
    F15,
    b15,
    ⟨a15, i15, k15⟩,
    F16,
    b16,
    ⟨a16, i16, k16⟩,
    F17,
    b17,
    ⟨a17, i17, k17⟩,
    F18,
    b18,
    ⟨a18, i18, k18⟩,
    F19,
    b19,
    ⟨a19, i19, k19⟩,
    F20,
    b20,
    ⟨a20, i20, k20⟩,
    F21,
    b21,
    ⟨a21, i21, k21⟩,
    F22,
    b22,
    ⟨a22, i22, k22⟩,
    F23,
    b23,
    ⟨a23, i23, k23⟩,
    F24,
    b24,
    PySem.W.mg_of X G a24,
    F25,
    b25,
    PySem.W.mg_of X G a25,
    F26,
    b26,
    PySem.W.mg_of X G a26,
    F27,
    PySem.W.mg_of X G a27,
    F28,
    b28,
    PySem.W.mg_of X G a28,
    F29,
    b29,
    PySem.W.mg_of X G a29,
    F30,
    b30,
    PySem.W.mg_of X G a30,
    F31,
    b31,
    PySem.W.mg_of X G a31,
    F32,
    b32,
    PySem.W.mg_of X G a32,
    F33,
    b33,
    PySem.W.mg_of X G a33,
    F34,
    b34,
    PySem.W.mg_of X G a34,
    F35,
    b35,
    PySem.W.mg_of X G a35,
    F36,
    b36,
    PySem.W.mg_of X G a36,
    F37,
    b37,
    PySem.W.mg_of X G a37,
    F38,
    b38,
    PySem.W.mg_of X G a38,
    F39,
    b39,
    PySem.W.mg_of X G a39,
    ⟨fun us ws => us ++ (ws ++ [u_kd_ways_backward]), ⟨fun s us ws X hu hw => match us, ws, hu, hw with | [_, _, _], [_], _, _ => BindsTo.of_looks fun M => KwChain.looks X (l := [("backward", u_kd_ways_backward)]) (fun q hq => (List.mem_cons.mp hq).elim (fun e => e ▸ kd_ways_backward) fun hq => nomatch hq) ⟨_, _, _, _, _, _, rfl, rfl, rfl⟩, fun r1 r2 => r1.append (r2.append (.cons r_kd_ways_backward .nil))⟩⟩,
    ⟨fun us ws => us ++ (ws ++ []), ⟨fun s us ws X hu hw => match us, ws, hu, hw with | [_, _, _], [_, _], _, _ => .of_eq rfl, fun r1 r2 => r1.append (r2.append .nil)⟩⟩,
    PySem.W.mg_of X G A_Finder,
    ⟨mk_Finder, a14, i14, kc_Finder⟩,
    fun c => if h0 : c = 0 then by subst h0; exact ⟨pg_Finder, hd_Finder, po_Finder, sa_Finder⟩ else by simp only [clV, h0, if_false, if_neg, reduceIte]; exact ⟨pg_Finder, hd_Finder, po_Finder, sa_Finder⟩,
    fun c => if h0 : c = 0 then by subst h0; exact n_Finder_codes else by simp only [clV, h0, if_false, if_neg, reduceIte]; exact n_Finder_codes,
    fun c => if h0 : c = 0 then by subst h0; exact n_Finder_known else by simp only [clV, h0, if_false, if_neg, reduceIte]; exact n_Finder_known,
    fun c => if h0 : c = 0 then by subst h0; exact n_Finder_rows else by simp only [clV, h0, if_false, if_neg, reduceIte]; exact n_Finder_rows,
    PySem.W.mg_none_of X G z_bool,
    PySem.W.mg_none_of X G z_int,
    PySem.W.mg_none_of X G z_isinstance,
    PySem.W.mg_none_of X G z_len,
    PySem.W.mg_none_of X G z_list,
    PySem.W.mg_none_of X G z_max,
    PySem.W.mg_none_of X G z_min,
    PySem.W.mg_none_of X G z_ord,
    PySem.W.mg_none_of X G z_range,
    PySem.W.mg_none_of X G z_sorted,
    PySem.W.mg_none_of X G z_str,
    PySem.W.mg_none_of X G z_tuple,
    ⟨_, PySem.W.mg_of X G q_WORD, rfl, (.tup (.inr ⟨_, _, _, e_195, rfl, rfl, (show 4 ≤ sizeLine by decide), (.cons (show RelV (V.ref y_0) (Value.ref y_0) from rfl) (.cons (show RelV (V.ref y_1) (Value.ref y_1) from rfl) (.cons (show RelV (V.ref y_2) (Value.ref y_2) from rfl) (.cons (show RelV (V.ref y_3) (Value.ref y_3) from rfl) .nil))))⟩) (.cons (.tup (.inr ⟨_, _, _, e_196, rfl, rfl, (show 2 ≤ sizeLine by decide), (.cons (show RelV (V.int (48)) (Value.int (48) t_0) from ⟨_, rfl⟩) (.cons (show RelV (V.int (58)) (Value.int (58) t_1) from ⟨_, rfl⟩) .nil))⟩) (.cons (.int _) (.cons (.int _) .nil))) (.cons (.tup (.inr ⟨_, _, _, e_197, rfl, rfl, (show 2 ≤ sizeLine by decide), (.cons (show RelV (V.int (65)) (Value.int (65) t_2) from ⟨_, rfl⟩) (.cons (show RelV (V.int (91)) (Value.int (91) t_3) from ⟨_, rfl⟩) .nil))⟩) (.cons (.int _) (.cons (.int _) .nil))) (.cons (.tup (.inr ⟨_, _, _, e_198, rfl, rfl, (show 2 ≤ sizeLine by decide), (.cons (show RelV (V.int (95)) (Value.int (95) t_4) from ⟨_, rfl⟩) (.cons (show RelV (V.int (96)) (Value.int (96) t_5) from ⟨_, rfl⟩) .nil))⟩) (.cons (.int _) (.cons (.int _) .nil))) (.cons (.tup (.inr ⟨_, _, _, e_199, rfl, rfl, (show 2 ≤ sizeLine by decide), (.cons (show RelV (V.int (97)) (Value.int (97) t_6) from ⟨_, rfl⟩) (.cons (show RelV (V.int (123)) (Value.int (123) t_7) from ⟨_, rfl⟩) .nil))⟩) (.cons (.int _) (.cons (.int _) .nil))) .nil)))))⟩,
    ⟨_, PySem.W.mg_of X G q_LINE_ENDS, rfl, (.tup (.inr ⟨_, _, _, e_201, rfl, rfl, (show 2 ≤ sizeLine by decide), (.cons (show RelV (V.ref y_4) (Value.ref y_4) from rfl) (.cons (show RelV (V.ref y_5) (Value.ref y_5) from rfl) .nil))⟩) (.cons (.tup (.inr ⟨_, _, _, e_202, rfl, rfl, (show 2 ≤ sizeLine by decide), (.cons (show RelV (V.int (10)) (Value.int (10) t_8) from ⟨_, rfl⟩) (.cons (show RelV (V.int (11)) (Value.int (11) t_9) from ⟨_, rfl⟩) .nil))⟩) (.cons (.int _) (.cons (.int _) .nil))) (.cons (.tup (.inr ⟨_, _, _, e_203, rfl, rfl, (show 2 ≤ sizeLine by decide), (.cons (show RelV (V.int (13)) (Value.int (13) t_10) from ⟨_, rfl⟩) (.cons (show RelV (V.int (14)) (Value.int (14) t_11) from ⟨_, rfl⟩) .nil))⟩) (.cons (.int _) (.cons (.int _) .nil))) .nil)))⟩⟩
  exact ⟨PySem.W.fnOf "law" "law" (defArgs s_law) (defBody s_law) (defScope s_law) .none kV39 dc39 pm39 an39 cd39 ct39, fun s v => .of_eq rfl, fun base _ _ => law_ok (lv (P := l.prog) (w := w) (base := base) T 40).c_law law_true⟩
end Lw
open PySem PySem.W PyProof.Rows
set_option maxRecDepth 100000 in
set_option maxHeartbeats 0 in
theorem PySem.Challenge.cw_firstway_k15_mirrored_ways_holds : PySem.Challenge.rw_firstway_k15_mirrored_ways.Holds := by
  w_on; o_law; k_head; (case hw => w_witness2)
  k_fill
  refine L2.walk_of (l := PySem.Challenge.rw_firstway_k15_mirrored_ways) (n := 63) (k := 41) (x := "script") (CX := fun _ => L2.CX0) (sp := fun w => VM.spL _) rfl (by decide) rfl ⟨rfl, by decide, by decide⟩ (fun w h Y => PySem.W.kIn_of Y) ?F (fun _ H a ns hl _ hS => ⟨a, ns, rfl, hl, hS, fun _ => rfl⟩) (fun _ _ _ _ _ h => h)
  case F =>
    intro w mg fa h KX G hmg
    refine' Lw.all_mk KX G hmg ?A_Finder ?a0 ?l0 ?c0 ?k0 ?a1 ?l1 ?c1 ?k1 ?a2 ?l2 ?c2 ?k2 ?a3 ?l3 ?c3 ?k3 ?a4 ?l4 ?c4 ?k4 ?a5 ?l5 ?c5 ?k5 ?a6 ?l6 ?c6 ?k6 ?a7 ?l7 ?c7 ?k7 ?a8 ?l8 ?c8 ?k8 ?a9 ?l9 ?c9 ?k9 ?a10 ?l10 ?c10 ?k10 ?a11 ?l11 ?c11 ?k11 ?a12 ?l12 ?c12 ?k12 ?a13 ?l13 ?c13 ?k13 ?a14 ?i14 ?l14 ?c14 ?k14 ?a15 ?i15 ?l15 ?c15 ?k15 ?a16 ?i16 ?l16 ?c16 ?k16 ?a17 ?i17 ?l17 ?c17 ?k17 ?a18 ?i18 ?l18 ?c18 ?k18 ?a19 ?i19 ?l19 ?c19 ?k19 ?a20 ?i20 ?l20 ?c20 ?k20 ?a21 ?i21 ?l21 ?c21 ?k21 ?a22 ?i22 ?l22 ?c22 ?k22 ?a23 ?i23 ?l23 ?c23 ?k23 ?a24 ?l24 ?c24 ?k24 ?a25 ?l25 ?c25 ?k25 ?a26 ?l26 ?c26 ?k26 ?a27 ?l27 ?c27 ?k27 ?a28 ?l28 ?c28 ?k28 ?a29 ?l29 ?c29 ?k29 ?a30 ?l30 ?c30 ?k30 ?a31 ?l31 ?c31 ?k31 ?a32 ?l32 ?c32 ?k32 ?a33 ?l33 ?c33 ?k33 ?a34 ?l34 ?c34 ?k34 ?a35 ?l35 ?c35 ?k35 ?a36 ?l36 ?c36 ?k36 ?a37 ?l37 ?c37 ?k37 ?a38 ?l38 ?c38 ?k38 ?a39 ?l39 ?c39 ?k39 ?pg_Finder ?hd_Finder ?po_Finder ?sa_Finder ?mk_Finder ?kc_Finder ?n_Finder_codes ?n_Finder_known ?n_Finder_rows ?z_bool ?z_int ?z_isinstance ?z_len ?z_list ?z_max ?z_min ?z_ord ?z_range ?z_sorted ?z_str ?z_tuple ?kd_ways_backward ?r_kd_ways_backward ?q_WORD ?e_195 ?e_196 ?e_197 ?e_198 ?e_199 ?q_LINE_ENDS ?e_201 ?e_202 ?e_203
    (case A_Finder => k_is)
    (case a0 => k_is)
    (case l0 => k_is)
    (case c0 => k_is)
    (case k0 => k_is)
    (case a1 => k_is)
    (case l1 => k_is)
    (case c1 => k_is)
    (case k1 => k_is)
    (case a2 => k_is)
    (case l2 => k_is)
    (case c2 => k_is)
    (case k2 => k_is)
    (case a3 => k_is)
    (case l3 => k_is)
    (case c3 => k_is)
    (case k3 => k_is)
    (case a4 => k_is)
    (case l4 => k_is)
    (case c4 => k_is)
    (case k4 => k_is)
    (case a5 => k_is)
    (case l5 => k_is)
    (case c5 => k_is)
    (case k5 => k_is)
    (case a6 => k_is)
    (case l6 => k_is)
    (case c6 => k_is)
    (case k6 => k_is)
    (case a7 => k_is)
    (case l7 => k_is)
    (case c7 => k_is)
    (case k7 => k_is)
    (case a8 => k_is)
    (case l8 => k_is)
    (case c8 => k_is)
    (case k8 => k_is)
    (case a9 => k_is)
    (case l9 => k_is)
    (case c9 => k_is)
    (case k9 => k_is)
    (case a10 => k_is)
    (case l10 => k_is)
    (case c10 => k_is)
    (case k10 => k_is)
    (case a11 => k_is)
    (case l11 => k_is)
    (case c11 => k_is)
    (case k11 => k_is)
    (case a12 => k_is)
    (case l12 => k_is)
    (case c12 => k_is)
    (case k12 => k_is)
    (case a13 => k_is)
    (case l13 => k_is)
    (case c13 => k_is)
    (case k13 => k_is)
    (case a14 => k_is)
    (case i14 => k_is)
    (case l14 => k_is)
    (case c14 => k_is)
    (case k14 => k_is)
    (case a15 => k_is)
    (case i15 => k_is)
    (case l15 => k_is)
    (case c15 => k_is)
    (case k15 => k_is)
    (case a16 => k_is)
    (case i16 => k_is)
    (case l16 => k_is)
    (case c16 => k_is)
    (case k16 => k_is)
    (case a17 => k_is)
    (case i17 => k_is)
    (case l17 => k_is)
    (case c17 => k_is)
    (case k17 => k_is)
    (case a18 => k_is)
    (case i18 => k_is)
    (case l18 => k_is)
    (case c18 => k_is)
    (case k18 => k_is)
    (case a19 => k_is)
    (case i19 => k_is)
    (case l19 => k_is)
    (case c19 => k_is)
    (case k19 => k_is)
    (case a20 => k_is)
    (case i20 => k_is)
    (case l20 => k_is)
    (case c20 => k_is)
    (case k20 => k_is)
    (case a21 => k_is)
    (case i21 => k_is)
    (case l21 => k_is)
    (case c21 => k_is)
    (case k21 => k_is)
    (case a22 => k_is)
    (case i22 => k_is)
    (case l22 => k_is)
    (case c22 => k_is)
    (case k22 => k_is)
    (case a23 => k_is)
    (case i23 => k_is)
    (case l23 => k_is)
    (case c23 => k_is)
    (case k23 => k_is)
    (case a24 => k_is)
    (case l24 => k_is)
    (case c24 => k_is)
    (case k24 => k_is)
    (case a25 => k_is)
    (case l25 => k_is)
    (case c25 => k_is)
    (case k25 => k_is)
    (case a26 => k_is)
    (case l26 => k_is)
    (case c26 => k_is)
    (case k26 => k_is)
    (case a27 => k_is)
    (case l27 => k_is)
    (case c27 => k_is)
    (case k27 => k_is)
    (case a28 => k_is)
    (case l28 => k_is)
    (case c28 => k_is)
    (case k28 => k_is)
    (case a29 => k_is)
    (case l29 => k_is)
    (case c29 => k_is)
    (case k29 => k_is)
    (case a30 => k_is)
    (case l30 => k_is)
    (case c30 => k_is)
    (case k30 => k_is)
    (case a31 => k_is)
    (case l31 => k_is)
    (case c31 => k_is)
    (case k31 => k_is)
    (case a32 => k_is)
    (case l32 => k_is)
    (case c32 => k_is)
    (case k32 => k_is)
    (case a33 => k_is)
    (case l33 => k_is)
    (case c33 => k_is)
    (case k33 => k_is)
    (case a34 => k_is)
    (case l34 => k_is)
    (case c34 => k_is)
    (case k34 => k_is)
    (case a35 => k_is)
    (case l35 => k_is)
    (case c35 => k_is)
    (case k35 => k_is)
    (case a36 => k_is)
    (case l36 => k_is)
    (case c36 => k_is)
    (case k36 => k_is)
    (case a37 => k_is)
    (case l37 => k_is)
    (case c37 => k_is)
    (case k37 => k_is)
    (case a38 => k_is)
    (case l38 => k_is)
    (case c38 => k_is)
    (case k38 => k_is)
    (case a39 => k_is)
    (case l39 => k_is)
    (case c39 => k_is)
    (case k39 => k_is)
    (case pg_Finder => k_is)
    (case hd_Finder => k_is)
    (case po_Finder => k_is)
    (case sa_Finder => k_is)
    (case mk_Finder => k_is)
    (case kc_Finder => k_is)
    (case n_Finder_codes => k_is)
    (case n_Finder_known => k_is)
    (case n_Finder_rows => k_is)
    (case z_bool => k_is)
    (case z_int => k_is)
    (case z_isinstance => k_is)
    (case z_len => k_is)
    (case z_list => k_is)
    (case z_max => k_is)
    (case z_min => k_is)
    (case z_ord => k_is)
    (case z_range => k_is)
    (case z_sorted => k_is)
    (case z_str => k_is)
    (case z_tuple => k_is)
    (case kd_ways_backward => k_is)
    (case r_kd_ways_backward => first | exact ⟨_, rfl⟩ | rfl)
    (case q_WORD => k_is)
    (case e_195 => k_is)
    (case e_196 => k_is)
    (case e_197 => k_is)
    (case e_198 => k_is)
    (case e_199 => k_is)
    (case q_LINE_ENDS => k_is)
    (case e_201 => k_is)
    (case e_202 => k_is)
    (case e_203 => k_is)
end
