import PyProof.Rows.All
import Wide.All
import OpenK.AllK
import Wide.FinOn
import HandS.ForMost
import HandS.IsInst
import HandS.Star
import HandS.SortRule
import HandS.Wide
import HandS.SortInts
import HandS.Conv
import PyProof.StrLaws
import PyProof.Rows.RegStrFacts
import KE.KIntText
import HandS.TupMul
import PyProof.StrBlock2
import HandS.List
import KE.KRevSl
import HandS.AnyAll
import PyProof.GenCompT
import PyProof.WalksPairs
import PyProof.SumAny
import PyProof.Rows.SumGenD
import HandS.Iter
import KE.GoesEnum
import HandS.Call
import KE.KDictKeyed
import KE.KeyNested
import HandS.ListItems
import KE.KDictCopyH
import KE.KDictWalk
import HandS.Deep
import HandS.TupAny
import HandS.Text
import HandS.Dict
import HandS.Flow
import HandS.Style
import HandS.More
import HandS.Small
import HandS.Rev
import HandS.Defaults
import HandS.FStr
import HandS.Exc
import HandS.ExcOwn
import HandS.ExcIs
import HandS.CallSlots
import HandS.RaiseMore
import HandS.WordsExc
import HandS.StrMore
import HandS.StrSplit
import HandS.Replace
import PyProof.FString3
import PyProof.Rows.StrIntSpec
import HandS.RevRange
import HandS.ExcInit
import HandS.ExcField
import HandS.TryOnly
import PyProof.ReprRoads
import PyProof.Rows.RegFStrParts
import PySem.Challenge.RW_firstway_k79_templates_are_read

section
set_option Elab.async false
set_option linter.all false
set_option maxRecDepth 100000
set_option maxHeartbeats 4000000
namespace DL
open PySem PySem.Spec PyProof.Rows L2

abbrev D := PyData
abbrev Sto := List (List D)

/-! ### data stays when the heap grows -/
mutual
theorem dp_mono {K : PySem.W.Frag} {H H' : Hp} (e : Same H H') : ∀ (d : D) (v : V), Dp K H v d → Dp K H' v d
  | .none, _, h => by cases h; exact .non
  | .bool b, _, h => by cases h; exact .bl b
  | .int i, _, h => by cases h; exact .int i
  | .str x, _, h => by cases h; exact .str x
  | .list ds, _, h => by
    cases h with
    | lst h1 h2 => exact .lst (e.seq h1) (dpa_mono e ds _ h2)
  | .tuple ds, _, h => by
    cases h with
    | tup h1 h2 =>
      refine .tup ?_ (dpa_mono e ds _ h2)
      rcases h1 with (h1 | ⟨o, h1⟩) | h1
      · exact .inl (.inl (e _ _ h1))
      · exact .inl (.inr ⟨o, e _ _ h1⟩)
      · exact .inr h1
  | .dict kvs, _, h => by cases h
theorem dpa_mono {K : PySem.W.Frag} {H H' : Hp} (e : Same H H') : ∀ (ds : List D) (vs : List V), DpAll K H vs ds → DpAll K H' vs ds
  | [], _, h => by cases h; exact .nil
  | d :: ds, _, h => by
    cases h with
    | cons h1 h2 => exact .cons (dp_mono e d _ h1) (dpa_mono e ds _ h2)
end
theorem sqt_mono {K : PySem.W.Frag} {H H' : Hp} (e : Same H H') {a : Addr} {xs : List V} (h1 : SqT K H a xs) : SqT K H' a xs := by
  rcases h1 with (h1 | ⟨o, h1⟩) | h1
  · exact .inl (.inl (e _ _ h1))
  · exact .inl (.inr ⟨o, e _ _ h1⟩)
  · exact .inr h1
theorem dpa_len {K : PySem.W.Frag} {H : Hp} : ∀ {vs : List V} {ds : List D}, DpAll K H vs ds → vs.length = ds.length
  | _, _, .nil => rfl
  | _, _, .cons _ h => by simp [dpa_len h]
theorem dpa_get {K : PySem.W.Frag} {H : Hp} : ∀ {vs : List V} {ds : List D} {i : Nat} {d : D}, DpAll K H vs ds → ds[i]? = some d → ∃ v, vs[i]? = some v ∧ Dp K H v d
  | _, _, 0, d, .cons h _, e => ⟨_, rfl, by
      have := Option.some.inj e
      rw [← this]
      exact h⟩
  | _, _, i + 1, d, .cons _ h, e => dpa_get (i := i) h e
theorem dpa_get' {K : PySem.W.Frag} {H : Hp} : ∀ {vs : List V} {ds : List D} {i : Nat} {v : V}, DpAll K H vs ds → vs[i]? = some v → ∃ d, ds[i]? = some d ∧ Dp K H v d
  | _, _, 0, d, .cons h _, e => ⟨_, rfl, by
      have := Option.some.inj e
      rw [← this]
      exact h⟩
  | _, _, i + 1, d, .cons _ h, e => dpa_get' (i := i) h e
theorem dpa_app {K : PySem.W.Frag} {H : Hp} : ∀ {vs ws : List V} {ds es : List D}, DpAll K H vs ds → DpAll K H ws es → DpAll K H (vs ++ ws) (ds ++ es)
  | _, _, _, _, .nil, h => h
  | _, _, _, _, .cons h1 h2, h => .cons h1 (dpa_app h2 h)
theorem dpa_set {K : PySem.W.Frag} {H : Hp} : ∀ {vs : List V} {ds : List D} (i : Nat) {v : V} {d : D}, DpAll K H vs ds → Dp K H v d → DpAll K H (vs.set i v) (ds.set i d)
  | _, _, _, _, _, .nil, _ => .nil
  | _, _, 0, _, _, .cons _ h2, h => .cons h h2
  | _, _, i + 1, _, _, .cons h1 h2, h => .cons h1 (dpa_set i h2 h)
theorem dpa_take {K : PySem.W.Frag} {H : Hp} : ∀ {vs : List V} {ds : List D} (n : Nat), DpAll K H vs ds → DpAll K H (vs.take n) (ds.take n)
  | _, _, 0, _ => by simp only [List.take_zero]; exact .nil
  | _, _, _ + 1, .nil => .nil
  | _, _, n + 1, .cons h1 h2 => .cons h1 (dpa_take n h2)
theorem dpa_drop {K : PySem.W.Frag} {H : Hp} : ∀ {vs : List V} {ds : List D} (n : Nat), DpAll K H vs ds → DpAll K H (vs.drop n) (ds.drop n)
  | _, _, 0, h => h
  | _, _, _ + 1, .nil => .nil
  | _, _, n + 1, .cons h1 h2 => dpa_drop n h2

/-! ### one step: F what is known for ever, H what stands; L what may be written -/
structure Stp (L : List Addr) (F H F' H' : Hp) : Prop where
  fx : Same F F'
  keep : ∀ a o, H a = some o → a ∉ L → H' a = some o
  live : ∀ a, H a ≠ none → H' a ≠ none
  nof : ∀ a, H a ≠ none → F a = none → F' a = none
theorem Stp.refl (L : List Addr) (F H : Hp) : Stp L F H F H := ⟨Same.refl _, fun _ _ h _ => h, fun _ h => h, fun _ _ h => h⟩
theorem Stp.trans {L : List Addr} {F H F1 H1 F2 H2 : Hp} (a : Stp L F H F1 H1) (b : Stp L F1 H1 F2 H2) : Stp L F H F2 H2 :=
  ⟨a.fx.trans b.fx, fun x o h n => b.keep x o (a.keep x o h n) n, fun x h => b.live x (a.live x h), fun x h n => b.nof x (a.live x h) (a.nof x h n)⟩
/-- the written addresses: those of L1, or new ones -/
theorem Stp.trans' {L L1 : List Addr} {F H F1 H1 F2 H2 : Hp} (a : Stp L F H F1 H1) (b : Stp L1 F1 H1 F2 H2) (hl : ∀ x ∈ L1, x ∈ L ∨ H x = none) : Stp L F H F2 H2 :=
  ⟨a.fx.trans b.fx, fun x o h n => b.keep x o (a.keep x o h n) (fun m => by
    rcases hl x m with q | q
    · exact n q
    · rw [q] at h; cases h), fun x h => b.live x (a.live x h), fun x h n => b.nof x (a.live x h) (a.nof x h n)⟩
theorem Stp.fresh {L : List Addr} {F H F' H' : Hp} (a : Stp L F H F' H') {x : Addr} (h : H' x = none) : H x = none := by
  cases q : H x with
  | none => rfl
  | some o => exact absurd h (a.live x (by rw [q]; exact nofun))

structure SOk (K : PySem.W.Frag) (F H : Hp) (L : List Addr) (S : Sto) : Prop where
  sub : Same F H
  len : L.length = S.length
  nd : L.Nodup
  st : ∀ (n : Nat) (a : Addr), L[n]? = some a → F a = none ∧ ∃ vs ds, S[n]? = some ds ∧ H a = some (.lst vs) ∧ DpAll K F vs ds

inductive En where
  | un
  | dt (d : D)
  | mu (n : Nat)
abbrev Rho := List En
def EnOk (K : PySem.W.Frag) (F : Hp) (L : List Addr) : En → Option V → Prop
  | .un, _ => True
  | .dt d, o => ∃ v, o = some v ∧ Dp K F v d
  | .mu n, o => ∃ a, o = some (.ref a) ∧ L[n]? = some a
def EOk (K : PySem.W.Frag) (F : Hp) (L : List Addr) (σ : L2.St) (ρ : Rho) : Prop := ∀ (i : Nat) (e : En), ρ[i]? = some e → ∃ o, σ[i]? = some o ∧ EnOk K F L e o
theorem EnOk.mono {K : PySem.W.Frag} {F F' : Hp} {L : List Addr} (h : Same F F') {R : List Addr} : ∀ {e : En} {o : Option V}, EnOk K F L e o → EnOk K F' (L ++ R) e o
  | .un, _, _ => trivial
  | .dt d, _, ⟨v, e, q⟩ => ⟨v, e, dp_mono h d v q⟩
  | .mu n, _, ⟨a, e, q⟩ => ⟨a, e, by
      rw [List.getElem?_append_left (List.getElem?_eq_some_iff.mp q).1]
      exact q⟩
theorem EOk.mono {K : PySem.W.Frag} {F F' : Hp} {L R : List Addr} (h : Same F F') {σ : L2.St} {ρ : Rho} (E : EOk K F L σ ρ) : EOk K F' (L ++ R) σ ρ := fun i e q =>
  let ⟨o, a, b⟩ := E i e q
  ⟨o, a, b.mono h⟩
theorem EOk.mono0 {K : PySem.W.Frag} {F F' : Hp} {L : List Addr} (h : Same F F') {σ : L2.St} {ρ : Rho} (E : EOk K F L σ ρ) : EOk K F' L σ ρ := by
  have := EOk.mono (R := []) h E
  rw [List.append_nil] at this
  exact this
theorem EOk.set {K : PySem.W.Frag} {F : Hp} {L : List Addr} {σ : L2.St} {ρ : Rho} (E : EOk K F L σ ρ) (i : Nat) {e : En} {o : Option V} (h : EnOk K F L e o) : EOk K F L (σ.set i o) (ρ.set i e) := fun j u q => by
  by_cases hij : i = j
  · subst hij
    have hl : i < ρ.length := by
      have := (List.getElem?_eq_some_iff.mp q).1
      rw [List.length_set] at this
      exact this
    obtain ⟨o', a, _⟩ := E i _ (List.getElem?_eq_getElem hl)
    have hs : i < σ.length := (List.getElem?_eq_some_iff.mp a).1
    rw [List.getElem?_set_self hl] at q
    have := Option.some.inj q
    subst this
    exact ⟨o, List.getElem?_set_self hs, h⟩
  · rw [List.getElem?_set_ne hij] at q
    rw [List.getElem?_set_ne hij]
    exact E j u q

/-! ### results -/
inductive Rs where
  | v (d : D)
  | nl (ds : List D)
  | mu (n : Nat)
def RsOk (K : PySem.W.Frag) (L : List Addr) (F' H H' : Hp) (v : V) : Rs → Prop
  | .v d => Dp K F' v d
  | .nl ds => ∃ a vs, v = .ref a ∧ H a = none ∧ F' a = none ∧ H' a = some (.lst vs) ∧ DpAll K F' vs ds
  | .mu n => ∃ a, v = .ref a ∧ L[n]? = some a
/-- r as it is, or a new list taken as data -/
def RsLe (r2 r : Rs) : Prop := r2 = r ∨ ∃ ds, r2 = .nl ds ∧ r = .v (.list ds)

/-- a new list becomes data -/
theorem freeze {K : PySem.W.Frag} {L : List Addr} {S0 S : Sto} {F0 H0 F H : Hp} {a : Addr} {vs : List V} {ds : List D} (st : Stp L F0 H0 F H) (s0 : SOk K F0 H0 L S0) (so : SOk K F H L S) (h0 : H0 a = none) (hf : F a = none) (hh : H a = some (.lst vs)) (hd : DpAll K F vs ds) :
    Stp L F0 H0 (upd F a (.lst vs)) H ∧ SOk K (upd F a (.lst vs)) H L S ∧ Dp K (upd F a (.lst vs)) (.ref a) (.list ds) := by
  have sm : Same F (upd F a (.lst vs)) := fun b o e => by
    rw [upd_ne (ne_of_none e hf)]
    exact e
  refine ⟨⟨st.fx.trans sm, st.keep, st.live, fun b hb n => ?_⟩, ⟨fun b o e => ?_, so.len, so.nd, fun n b e => ?_⟩, .lst (.inl (.inl upd_same)) (dpa_mono sm _ _ hd)⟩
  · have : b ≠ a := fun q => hb (by rw [q]; exact h0)
    rw [upd_ne this]
    exact st.nof b hb n
  · by_cases q : b = a
    · subst q
      rw [upd_same] at e
      cases e
      exact hh
    · rw [upd_ne q] at e
      exact so.sub _ _ e
  · obtain ⟨f0, vs', ds', e1, e2, e3⟩ := so.st n b e
    obtain ⟨_, vs0, _, _, e0, _⟩ := s0.st n b e
    have : b ≠ a := fun q => by
      rw [q, h0] at e0
      cases e0
    rw [upd_ne this]
    exact ⟨f0, vs', ds', e1, e2, dpa_mono sm _ _ e3⟩

/-! ### what evaluates to what -/
def Ev (K : PySem.W.Frag) (ρ : Rho) (S : Sto) (te : TE) (r : Rs) (S' : Sto) : Prop := ∀ σ F H L, EOk K F L σ ρ → SOk K F H L S → ∀ Q : VK, (∀ v F' H', Stp L F H F' H' → SOk K F' H' L S' → RsOk K L F' H H' v r → Q v H') → te σ H Q
def EvT (K : PySem.W.Frag) (ρ : Rho) (S : Sto) (tt : TT) (b : Bool) (S' : Sto) : Prop := ∀ σ F H L, EOk K F L σ ρ → SOk K F H L S → ∀ Q : Bool → Hp → Prop, (∀ F' H', Stp L F H F' H' → SOk K F' H' L S' → Q b H') → tt σ H Q
def EvA (K : PySem.W.Frag) (ρ : Rho) (S : Sto) (ta : TA) (es : Rho) (S' : Sto) : Prop := ∀ σ F H L, EOk K F L σ ρ → SOk K F H L S → ∀ Q : List V → Hp → Prop, (∀ vs F' H', Stp L F H F' H' → SOk K F' H' L S' → vs.length = es.length → EOk K F' L (vs.map some) es → Q vs H') → ta σ H Q
section
variable {K : PySem.W.Frag} {ρ : Rho} {S S1 S2 S3 : Sto} {ta tb tc te : TE} {t u : TT} {d e f : D} {r : Rs}
theorem ev_dt (h : Ev K ρ S te r S1) (hr : RsLe r (.v d)) : Ev K ρ S te (.v d) S1 := by
  rcases hr with rfl | ⟨ds, rfl, e⟩
  · exact h
  · cases e
    intro σ F H L e s Q q
    refine h σ F H L e s Q fun v F' H' st s' rr => ?_
    obtain ⟨a, vs, rfl, h0, hf, hh, hd⟩ := rr
    obtain ⟨x, y, z⟩ := freeze st s s' h0 hf hh hd
    exact q _ _ _ x y z
theorem ev_fr {ds : List D} (h : Ev K ρ S te (.nl ds) S1) : Ev K ρ S te (.v (.list ds)) S1 := ev_dt h (.inr ⟨ds, rfl, rfl⟩)
theorem ev_is {r' : Rs} (h : Ev K ρ S te r S1) (e : r = r') : Ev K ρ S te r' S1 := e ▸ h
theorem ev_var {i : Nat} (h : ρ[i]? = some (.dt d)) : Ev K ρ S (tVar i) (.v d) S := fun σ F H L e s Q q => by
  obtain ⟨o, h1, v, h2, h3⟩ := e i _ h
  subst h2
  exact ⟨v, h1, q v F H (.refl _ _ _) s h3⟩
theorem ev_mu {i n : Nat} (h : ρ[i]? = some (.mu n)) : Ev K ρ S (tVar i) (.mu n) S := fun σ F H L e s Q q => by
  obtain ⟨o, h1, a, h2, h3⟩ := e i _ h
  subst h2
  exact ⟨_, h1, q _ F H (.refl _ _ _) s ⟨a, rfl, h3⟩⟩
theorem ev_int {i : Int} : Ev K ρ S (tC (.int i)) (.v (.int i)) S := fun σ F H L e s Q q => q _ F H (.refl _ _ _) s (.int i)
theorem ev_bl {b : Bool} : Ev K ρ S (tC (.bl b)) (.v (.bool b)) S := fun σ F H L e s Q q => q _ F H (.refl _ _ _) s (.bl b)
theorem ev_non : Ev K ρ S (tC .non) (.v .none) S := fun σ F H L e s Q q => q _ F H (.refl _ _ _) s .non
theorem ev_str {x : Str} : Ev K ρ S (tC (.str x)) (.v (.str x)) S := fun σ F H L e s Q q => q _ F H (.refl _ _ _) s (.str x)
/-- a constant of the module that is data of the written part -/
def KDat (K : PySem.W.Frag) (v : V) (d : D) : Prop := Dp K (fun _ => none) v d
theorem KDat.dp {v : V} (h : KDat K v d) (F : Hp) : Dp K F v d := dp_mono (fun _ _ e => by cases e) _ _ h
theorem ev_k {v : V} (h : KDat K v d) : Ev K ρ S (tC v) (.v d) S := fun σ F H L e s Q q => q _ F H (.refl _ _ _) s (h.dp F)

/-! operators by values -/
def Op1 (K : PySem.W.Frag) (r : V → Hp → VK → Prop) (d : D) (e : D) : Prop := ∀ F H x, Same F H → Dp K F x d → ∀ Q : VK, (∀ v, Dp K F v e → Q v H) → r x H Q
def Op2 (K : PySem.W.Frag) (r : R2) (d1 d2 : D) (e : D) : Prop := ∀ F H x y, Same F H → Dp K F x d1 → Dp K F y d2 → ∀ Q : VK, (∀ v, Dp K F v e → Q v H) → r x y H Q
theorem ev_op {rr : R2} (ha : Ev K ρ S ta (.v d) S1) (hb : Ev K ρ S1 tb (.v e) S2) (hr : Op2 K rr d e f) : Ev K ρ S (tOp rr ta tb) (.v f) S2 := fun σ F H L E s Q q =>
  ha σ F H L E s _ fun x F1 H1 st1 s1 r1 => hb σ F1 H1 L (E.mono0 st1.fx) s1 _ fun y F2 H2 st2 s2 r2 =>
    hr F2 H2 x y s2.sub (dp_mono st2.fx _ _ r1) r2 Q fun v hv => q v F2 H2 (st1.trans st2) s2 hv
theorem ev_un {rr : V → Hp → VK → Prop} (ha : Ev K ρ S ta (.v d) S1) (hr : Op1 K rr d e) : Ev K ρ S (tUn rr ta) (.v e) S1 := fun σ F H L E s Q q =>
  ha σ F H L E s _ fun x F1 H1 st1 s1 r1 => hr F1 H1 x s1.sub r1 Q fun v hv => q v F1 H1 st1 s1 hv
theorem op2_I0 {g : Int → Int → V} {i j : Int} (h : ∀ F, Dp K F (g i j) e) : Op2 K (rI0 g) (.int i) (.int j) e := fun F H x y _ hx hy Q q => by
  cases hx; cases hy
  exact ⟨i, j, rfl, rfl, q _ (h F)⟩
theorem op2_I {C : Int → Int → Prop} {g : Int → Int → V} {i j : Int} (hc : C i j) (h : ∀ F, Dp K F (g i j) e) : Op2 K (rI C g) (.int i) (.int j) e := fun F H x y _ hx hy Q q => by
  cases hx; cases hy
  exact ⟨i, j, rfl, rfl, hc, q _ (h F)⟩
theorem o_add {i j : Int} : Op2 K (rI0 fun i j => .int (i + j)) (.int i) (.int j) (.int (i + j)) := op2_I0 fun _ => .int _
theorem o_sub {i j : Int} : Op2 K (rI0 fun i j => .int (i - j)) (.int i) (.int j) (.int (i - j)) := op2_I0 fun _ => .int _
theorem o_lt {i j : Int} : Op2 K (rI0 fun i j => .bl (decide (i < j))) (.int i) (.int j) (.bool (decide (i < j))) := op2_I0 fun _ => .bl _
theorem o_le {i j : Int} : Op2 K (rI0 fun i j => .bl (decide (i ≤ j))) (.int i) (.int j) (.bool (decide (i ≤ j))) := op2_I0 fun _ => .bl _
theorem o_gt {i j : Int} : Op2 K (rI0 fun i j => .bl (decide (j < i))) (.int i) (.int j) (.bool (decide (j < i))) := op2_I0 fun _ => .bl _
theorem o_ge {i j : Int} : Op2 K (rI0 fun i j => .bl (decide (j ≤ i))) (.int i) (.int j) (.bool (decide (j ≤ i))) := op2_I0 fun _ => .bl _
theorem o_mul {i j : Int} (h : (-(2 ^ 64) < i ∧ i < 2 ^ 64) ∨ (-(2 ^ 64) < j ∧ j < 2 ^ 64)) : Op2 K (rI CMul fun i j => .int (i * j)) (.int i) (.int j) (.int (i * j)) := op2_I h fun _ => .int _
theorem o_mod {i j : Int} (h : 0 < j) : Op2 K (rI (fun _ j => 0 < j) fun i j => .int (i % j)) (.int i) (.int j) (.int (i % j)) := op2_I h fun _ => .int _
theorem o_div {i j : Int} (h : 0 < j ∧ j < 1073741824) : Op2 K (rI CDiv fun i j => .int (i / j)) (.int i) (.int j) (.int (i / j)) := op2_I h fun _ => .int _
theorem o_pow {i j : Int} (h : 0 ≤ j ∧ j ≤ 1000000 ∧ i.natAbs < 2 ^ 64) : Op2 K (rI CPow fun i j => .int (i ^ j.toNat)) (.int i) (.int j) (.int (i ^ j.toNat)) := op2_I h fun _ => .int _
theorem u_neg {i : Int} : Op1 K (rU fun i => .int (-i)) (.int i) (.int (-i)) := fun F H x _ hx Q q => by
  cases hx
  exact ⟨i, rfl, q _ (.int _)⟩
/-- == of any data -/
theorem o_eqD (h1 : SeqAt.shaped d = true) (h2 : SeqAt.shaped e = true) : Op2 K (rEqD K) d e (.bool (PyData.eqv d e)) := fun F H x y sm hx hy Q q =>
  ⟨d, e, dp_mono sm _ _ hx, dp_mono sm _ _ hy, h1, h2, q _ (.bl _)⟩
theorem o_neD (h1 : SeqAt.shaped d = true) (h2 : SeqAt.shaped e = true) : Op2 K (rNeD K) d e (.bool (!PyData.eqv d e)) := fun F H x y sm hx hy Q q =>
  ⟨d, e, dp_mono sm _ _ hx, dp_mono sm _ _ hy, h1, h2, q _ (.bl _)⟩
theorem o_isN : Op2 K (fun x y H Q => y = .non ∧ Q (.bl (decide (x = .non))) H) d .none (.bool (match d with | .none => true | _ => false)) := fun F H x y _ hx hy Q q => by
  cases hy
  refine ⟨rfl, q _ ?_⟩
  cases hx <;> exact .bl _
theorem o_notN : Op2 K (fun x y H Q => y = .non ∧ Q (.bl (!decide (x = .non))) H) d .none (.bool (match d with | .none => false | _ => true)) := fun F H x y _ hx hy Q q => by
  cases hy
  refine ⟨rfl, q _ ?_⟩
  cases hx <;> exact .bl _
theorem o_addS {a b : Str} (h : a.length + b.length ≤ sizeLine) : Op2 K (fun x y H Q => ∃ i j, x = .str i ∧ y = .str j ∧ i.length + j.length ≤ sizeLine ∧ Q (.str (i ++ j)) H) (.str a) (.str b) (.str (a ++ b)) := fun F H x y _ hx hy Q q => by
  cases hx; cases hy
  exact ⟨a, b, rfl, rfl, h, q _ (.str _)⟩
/-- a chain of two comparisons -/
theorem ev_chain {r1 r2 : R2} {b1 b2 : Bool} (ha : Ev K ρ S ta (.v d) S1) (hb : Ev K ρ S1 tb (.v e) S2) (h1 : Op2 K r1 d e (.bool b1)) (hc : b1 = true → Ev K ρ S2 tc (.v f) S2) (h2 : b1 = true → Op2 K r2 e f (.bool b2)) :
    Ev K ρ S (tChain r1 r2 ta tb tc) (.v (.bool (b1 && b2))) S2 := fun σ F H L E s Q q =>
  ha σ F H L E s _ fun x F1 H1 st1 s1 q1 => hb σ F1 H1 L (E.mono0 st1.fx) s1 _ fun y F2 H2 st2 s2 q2 =>
    h1 F2 H2 x y s2.sub (dp_mono st2.fx _ _ q1) q2 _ fun z hz => by
      cases hz
      refine ⟨b1, rfl, ?_⟩
      cases b1 with
      | true =>
        rw [if_pos rfl]
        refine hc rfl σ F2 H2 L (E.mono0 (st1.trans st2).fx) s2 _ fun w F3 H3 st3 s3 q3 => ?_
        exact h2 rfl F3 H3 y w s3.sub (dp_mono st3.fx _ _ q2) q3 Q fun v hv => q v F3 H3 ((st1.trans st2).trans st3) s3 hv
      | false =>
        rw [if_neg Bool.false_ne_true]
        exact q _ F2 H2 (st1.trans st2) s2 (.bl _)

/-! tests -/
theorem et_test {b : Bool} (h : Ev K ρ S te (.v (.bool b)) S1) : EvT K ρ S (tTest te) b S1 := fun σ F H L E s Q q => h σ F H L E s _ fun v F1 H1 st s1 hv => by
  cases hv
  exact ⟨b, rfl, q F1 H1 st s1⟩
theorem et_B {b : Bool} (h : Ev K ρ S te (.v (.bool b)) S1) : EvT K ρ S (tB te) b S1 := fun σ F H L E s Q q => h σ F H L E s _ fun v F1 H1 st s1 hv => by
  cases hv
  exact ⟨b, rfl, q F1 H1 st s1⟩
theorem et_and {a b : Bool} (h1 : EvT K ρ S t a S1) (h2 : a = true → EvT K ρ S1 u b S1) : EvT K ρ S (tAnd t u) (a && b) S1 := fun σ F H L E s Q q => h1 σ F H L E s _ fun F1 H1 st s1 => by
  cases a with
  | true =>
    show u σ H1 Q
    exact h2 rfl σ F1 H1 L (E.mono0 st.fx) s1 Q fun F2 H2 st2 s2 => q F2 H2 (st.trans st2) s2
  | false =>
    show Q false H1
    exact q F1 H1 st s1
theorem et_or {a b : Bool} (h1 : EvT K ρ S t a S1) (h2 : a = false → EvT K ρ S1 u b S1) : EvT K ρ S (tOr t u) (a || b) S1 := fun σ F H L E s Q q => h1 σ F H L E s _ fun F1 H1 st s1 => by
  cases a with
  | true =>
    show Q true H1
    exact q F1 H1 st s1
  | false =>
    show u σ H1 Q
    exact h2 rfl σ F1 H1 L (E.mono0 st.fx) s1 Q fun F2 H2 st2 s2 => q F2 H2 (st.trans st2) s2
theorem et_not {a : Bool} (h1 : EvT K ρ S t a S1) : EvT K ρ S (tNot t) (!a) S1 := fun σ F H L E s Q q => h1 σ F H L E s _ fun F1 H1 st s1 => q F1 H1 st s1
theorem et_is {a b : Bool} (h : EvT K ρ S t a S1) (e : a = b) : EvT K ρ S t b S1 := e ▸ h
theorem ev_andV {a : Bool} (h1 : Ev K ρ S ta (.v (.bool a)) S1) (h2 : a = true → Ev K ρ S1 tb (.v d) S1) (h3 : a = false → d = .bool false) : Ev K ρ S (tAndV ta tb) (.v d) S1 := fun σ F H L E s Q q => h1 σ F H L E s _ fun v F1 H1 st s1 hv => by
  cases hv
  refine ⟨a, rfl, ?_⟩
  cases a with
  | true =>
    show tb σ H1 Q
    exact h2 rfl σ F1 H1 L (E.mono0 st.fx) s1 Q fun v F2 H2 st2 s2 hv => q v F2 H2 (st.trans st2) s2 hv
  | false =>
    show Q (.bl false) H1
    refine q _ F1 H1 st s1 ?_
    rw [h3 rfl]
    exact Dp.bl _
theorem ev_orV {a : Bool} (h1 : Ev K ρ S ta (.v (.bool a)) S1) (h2 : a = false → Ev K ρ S1 tb (.v d) S1) (h3 : a = true → d = .bool true) : Ev K ρ S (tOrV ta tb) (.v d) S1 := fun σ F H L E s Q q => h1 σ F H L E s _ fun v F1 H1 st s1 hv => by
  cases hv
  refine ⟨a, rfl, ?_⟩
  cases a with
  | true =>
    show Q (.bl true) H1
    refine q _ F1 H1 st s1 ?_
    rw [h3 rfl]
    exact Dp.bl _
  | false =>
    show tb σ H1 Q
    exact h2 rfl σ F1 H1 L (E.mono0 st.fx) s1 Q fun v F2 H2 st2 s2 hv => q v F2 H2 (st.trans st2) s2 hv
theorem ev_andB {a b : Bool} (h1 : Ev K ρ S ta (.v (.bool a)) S1) (h2 : a = true → Ev K ρ S1 tb (.v (.bool b)) S1) : Ev K ρ S (tAndV ta tb) (.v (.bool (a && b))) S1 :=
  ev_andV h1 (fun e => by subst e; exact h2 rfl) (fun e => by subst e; rfl)
theorem ev_orB {a b : Bool} (h1 : Ev K ρ S ta (.v (.bool a)) S1) (h2 : a = false → Ev K ρ S1 tb (.v (.bool b)) S1) : Ev K ρ S (tOrV ta tb) (.v (.bool (a || b))) S1 :=
  ev_orV h1 (fun e => by subst e; exact h2 rfl) (fun e => by subst e; rfl)
theorem ev_notV {a : Bool} (h1 : Ev K ρ S ta (.v (.bool a)) S1) : Ev K ρ S (tNotV ta) (.v (.bool (!a))) S1 := fun σ F H L E s Q q => h1 σ F H L E s _ fun v F1 H1 st s1 hv => by
  cases hv
  exact ⟨a, rfl, q _ F1 H1 st s1 (.bl _)⟩
theorem ev_if {b : Bool} (h : EvT K ρ S t b S1) (h1 : b = true → Ev K ρ S1 ta (.v d) S2) (h2 : b = false → Ev K ρ S1 tb (.v d) S2) : Ev K ρ S (tIf t ta tb) (.v d) S2 := fun σ F H L E s Q q => h σ F H L E s _ fun F1 H1 st s1 => by
  cases b with
  | true =>
    show ta σ H1 Q
    exact h1 rfl σ F1 H1 L (E.mono0 st.fx) s1 Q fun v F2 H2 st2 s2 hv => q v F2 H2 (st.trans st2) s2 hv
  | false =>
    show tb σ H1 Q
    exact h2 rfl σ F1 H1 L (E.mono0 st.fx) s1 Q fun v F2 H2 st2 s2 hv => q v F2 H2 (st.trans st2) s2 hv
end
end DL
end

section
set_option Elab.async false
set_option linter.all false
set_option maxRecDepth 100000
set_option maxHeartbeats 4000000
namespace DL
open PySem PySem.Spec PyProof.Rows L2

/-! ### sequences that are read -/
def RdSq (S : Sto) (r : Rs) (ds : List D) : Prop := r = .v (.list ds) ∨ r = .v (.tuple ds) ∨ ∃ n, r = .mu n ∧ S[n]? = some ds
def notNl : Rs → Bool
  | .nl _ => false
  | _ => true
theorem RsOk.pers {K : PySem.W.Frag} {L : List Addr} {F F' H0 H H0' H' : Hp} {v : V} (e : Same F F') : ∀ {r : Rs}, RsOk K L F H0 H v r → notNl r = true → RsOk K L F' H0' H' v r
  | .v d, h, _ => dp_mono e d v h
  | .mu n, h, _ => h
theorem RsOk.back {K : PySem.W.Frag} {L : List Addr} {F0 H0 F F' H H' : Hp} {v : V} (st : Stp L F0 H0 F H) : ∀ {r : Rs}, RsOk K L F' H H' v r → RsOk K L F' H0 H' v r
  | .v d, h => h
  | .mu n, h => h
  | .nl ds, ⟨a, vs, e, h0, h1, h2, h3⟩ => ⟨a, vs, e, st.fresh h0, h1, h2, h3⟩
theorem rd_sq {K : PySem.W.Frag} {L : List Addr} {F H H0 : Hp} {S : Sto} {v : V} {r : Rs} {ds : List D} (s : SOk K F H L S) (h : RsOk K L F H0 H v r) (q : RdSq S r ds) : ∃ a vs, v = .ref a ∧ (SqL K H a vs ∨ SqT K H a vs) ∧ DpAll K F vs ds := by
  rcases q with rfl | rfl | ⟨n, rfl, e⟩
  · have h' : Dp K F v (.list ds) := h
    cases h' with
    | lst h1 h2 => exact ⟨_, _, rfl, .inl (s.sub.seq h1), h2⟩
  · have h' : Dp K F v (.tuple ds) := h
    cases h' with
    | tup h1 h2 => exact ⟨_, _, rfl, .inr (sqt_mono s.sub h1), h2⟩
  · obtain ⟨a, rfl, e1⟩ := h
    obtain ⟨_, vs, ds', e2, e3, e4⟩ := s.st n a e1
    rw [e] at e2
    cases e2
    exact ⟨a, vs, rfl, .inl (.inl (.inl e3)), e4⟩
theorem atI_dp {K : PySem.W.Frag} {F : Hp} {vs : List V} {ds : List D} {i : Int} {d : D} (h : DpAll K F vs ds) (e : atI ds i = some d) : ∃ v, atI vs i = some v ∧ Dp K F v d := by
  unfold atI at e ⊢
  rw [dpa_len h]
  cases q : ixN ds.length i with
  | none => rw [q] at e; cases e
  | some j =>
    rw [q] at e
    exact dpa_get h e
/-- all arguments data -/
def EvD (K : PySem.W.Frag) (ρ : Rho) (S : Sto) (ta : TA) (ds : List D) (S' : Sto) : Prop := ∀ σ F H L, EOk K F L σ ρ → SOk K F H L S → ∀ Q : List V → Hp → Prop, (∀ vs F' H', Stp L F H F' H' → SOk K F' H' L S' → DpAll K F' vs ds → Q vs H') → ta σ H Q
theorem small5 {n : Nat} (h : n ≤ 100000) : n ≤ sizeLine := Nat.le_trans h (by decide)
theorem small5' {n : Nat} (h : n < 100000) : n < sizeLine := Nat.lt_of_lt_of_le h (by decide)

/-- a new tuple, a new list -/
theorem new_tup {K : PySem.W.Frag} {L : List Addr} {F H : Hp} {S : Sto} {vs : List V} {ds : List D} {p : Addr} (s : SOk K F H L S) (hd : DpAll K F vs ds) (hp : H p = none) :
    Stp L F H (upd F p (.tup vs)) (upd H p (.tup vs)) ∧ SOk K (upd F p (.tup vs)) (upd H p (.tup vs)) L S ∧ Dp K (upd F p (.tup vs)) (.ref p) (.tuple ds) := by
  have hf : F p = none := by
    cases q : F p with
    | none => rfl
    | some o => rw [s.sub _ _ q] at hp; cases hp
  have sm : Same F (upd F p (.tup vs)) := fun b o e => by
    rw [upd_ne (ne_of_none e hf)]
    exact e
  refine ⟨⟨sm, fun a o e _ => ?_, fun a h => ?_, fun a h n => ?_⟩, ⟨fun b o e => ?_, s.len, s.nd, fun n a e => ?_⟩, .tup (.inl (.inl upd_same)) (dpa_mono sm _ _ hd)⟩
  · rw [upd_ne (ne_of_none e hp)]; exact e
  · by_cases q : a = p
    · rw [q, upd_same]; exact nofun
    · rw [upd_ne q]; exact h
  · have : a ≠ p := fun q => h (by rw [q]; exact hp)
    rw [upd_ne this]; exact n
  · by_cases q : b = p
    · rw [q, upd_same] at e ⊢; exact e
    · rw [upd_ne q] at e ⊢; exact s.sub _ _ e
  · obtain ⟨f0, ws, es, e1, e2, e3⟩ := s.st n a e
    have : a ≠ p := fun q => by rw [q, hp] at e2; cases e2
    rw [upd_ne this, upd_ne this]
    exact ⟨f0, ws, es, e1, e2, dpa_mono sm _ _ e3⟩
theorem new_lst {K : PySem.W.Frag} {L : List Addr} {F H : Hp} {S : Sto} {vs : List V} {ds : List D} {p : Addr} (s : SOk K F H L S) (hd : DpAll K F vs ds) (hp : H p = none) :
    Stp L F H F (upd H p (.lst vs)) ∧ SOk K F (upd H p (.lst vs)) L S ∧ RsOk K L F H (upd H p (.lst vs)) (.ref p) (.nl ds) := by
  have hf : F p = none := by
    cases q : F p with
    | none => rfl
    | some o => rw [s.sub _ _ q] at hp; cases hp
  refine ⟨⟨Same.refl _, fun a o e _ => ?_, fun a h => ?_, fun a h n => n⟩, ⟨fun b o e => ?_, s.len, s.nd, fun n a e => ?_⟩, ⟨p, vs, rfl, hp, hf, upd_same, hd⟩⟩
  · rw [upd_ne (ne_of_none e hp)]; exact e
  · by_cases q : a = p
    · rw [q, upd_same]; exact nofun
    · rw [upd_ne q]; exact h
  · rw [upd_ne (ne_of_none e hf)]; exact s.sub _ _ e
  · obtain ⟨f0, ws, es, e1, e2, e3⟩ := s.st n a e
    have : a ≠ p := fun q => by rw [q, hp] at e2; cases e2
    rw [upd_ne this]
    exact ⟨f0, ws, es, e1, e2, e3⟩

section
variable {K : PySem.W.Frag} {ρ : Rho} {S S1 S2 S3 : Sto} {ta tb tc te : TE} {t u : TT} {tr : TA} {d e f : D} {r : Rs} {ds es : List D}
theorem ed_nil : EvD K ρ S tNil [] S := fun σ F H L E s Q q => q [] F H (.refl _ _ _) s .nil
theorem ed_cons (h : Ev K ρ S te (.v d) S1) (hr : EvD K ρ S1 tr ds S2) : EvD K ρ S (tCons te tr) (d :: ds) S2 := fun σ F H L E s Q q =>
  h σ F H L E s _ fun v F1 H1 st1 s1 r1 => hr σ F1 H1 L (E.mono0 st1.fx) s1 _ fun vs F2 H2 st2 s2 r2 => q _ F2 H2 (st1.trans st2) s2 (.cons (dp_mono st2.fx _ _ r1) r2)
theorem ed_consN (h : Ev K ρ S te (.nl es) S1) (hr : EvD K ρ S1 tr ds S2) : EvD K ρ S (tCons te tr) (.list es :: ds) S2 := ed_cons (ev_fr h) hr
theorem ev_tup (h : EvD K ρ S tr ds S1) (hl : ds.length ≤ 100000) : Ev K ρ S (tTup tr) (.v (.tuple ds)) S1 := fun σ F H L E s Q q =>
  h σ F H L E s _ fun vs F1 H1 st1 s1 r1 => ⟨by rw [dpa_len r1]; exact small5 hl, fun p hp => by
    obtain ⟨a, b, c⟩ := new_tup s1 r1 hp
    exact q _ _ _ (st1.trans a) b c⟩
theorem ev_lst (h : EvD K ρ S tr ds S1) (hl : ds.length ≤ 100000) : Ev K ρ S (tLst tr) (.nl ds) S1 := fun σ F H L E s Q q =>
  h σ F H L E s _ fun vs F1 H1 st1 s1 r1 => ⟨by rw [dpa_len r1]; exact small5 hl, fun p hp => by
    obtain ⟨a, b, c⟩ := new_lst (L := L) s1 r1 hp
    exact q _ _ _ (st1.trans a) b (c.back st1)⟩
/-! items -/
theorem ev_ix {i : Int} (ha : Ev K ρ S ta r S1) (hn : notNl r = true) (hb : Ev K ρ S1 tb (.v (.int i)) S2) (hq : RdSq S2 r ds) (hi : atI ds i = some d) : Ev K ρ S (tOp (rIx K) ta tb) (.v d) S2 := fun σ F H L E s Q q =>
  ha σ F H L E s _ fun x F1 H1 st1 s1 r1 => hb σ F1 H1 L (E.mono0 st1.fx) s1 _ fun y F2 H2 st2 s2 r2 => by
    cases r2
    obtain ⟨a, vs, rfl, hs, hd⟩ := rd_sq (H0 := H) s2 (r1.pers st2.fx hn) hq
    obtain ⟨v, hv, hdp⟩ := atI_dp hd hi
    rcases hs with hs | hs
    · exact .inl ⟨a, vs, i, v, rfl, rfl, hs, hv, q v F2 H2 (st1.trans st2) s2 hdp⟩
    · exact .inr (.inl ⟨a, vs, i, v, rfl, rfl, hs, hv, q v F2 H2 (st1.trans st2) s2 hdp⟩)
theorem ev_ixS {i : Int} {z : Str} {c : Nat} (ha : Ev K ρ S ta (.v (.str z)) S1) (hb : Ev K ρ S1 tb (.v (.int i)) S2) (hz : z.length ≤ sizeLine) (hi : atI z.cps.toList i = some c) : Ev K ρ S (tOp (rIx K) ta tb) (.v (.str ⟨#[c]⟩)) S2 := fun σ F H L E s Q q =>
  ha σ F H L E s _ fun x F1 H1 st1 s1 r1 => hb σ F1 H1 L (E.mono0 st1.fx) s1 _ fun y F2 H2 st2 s2 r2 => by
    cases r1; cases r2
    exact .inr (.inr ⟨z, i, c, rfl, rfl, hz, hi, q _ F2 H2 (st1.trans st2) s2 (.str _)⟩)
/-! builtins over data -/
def Fn (K : PySem.W.Frag) (rr : List V → Hp → VK → Prop) (ds : List D) (r : Rs) : Prop := ∀ F H L S vs, SOk K F H L S → DpAll K F vs ds → ∀ Q : VK, (∀ v F' H', Stp L F H F' H' → SOk K F' H' L S → RsOk K L F' H H' v r → Q v H') → rr vs H Q
theorem ev_fn {rr : List V → Hp → VK → Prop} (h : EvD K ρ S tr ds S1) (hr : Fn K rr ds r) : Ev K ρ S (tCB rr tr) r S1 := fun σ F H L E s Q q =>
  h σ F H L E s _ fun vs F1 H1 st1 s1 r1 => hr F1 H1 L S1 vs s1 r1 Q fun v F2 H2 st2 s2 r2 => q v F2 H2 (st1.trans st2) s2 (r2.back st1)
theorem dpa1 {F : Hp} {vs : List V} (h : DpAll K F vs [d]) : ∃ v, vs = [v] ∧ Dp K F v d := by
  cases h with
  | cons a b => cases b; exact ⟨_, rfl, a⟩
theorem dpa2 {F : Hp} {vs : List V} (h : DpAll K F vs [d, e]) : ∃ v w, vs = [v, w] ∧ Dp K F v d ∧ Dp K F w e := by
  cases h with
  | cons a b =>
    cases b with
    | cons a' b => cases b; exact ⟨_, _, rfl, a, a'⟩
theorem fn_max {i j : Int} : Fn K (fun xs H Q => ∃ i j, xs = [.int i, .int j] ∧ Q (.int (if j > i then j else i)) H) [.int i, .int j] (.v (.int (max i j))) := fun F H L S vs s h Q q => by
  obtain ⟨v, w, rfl, a, b⟩ := dpa2 h
  cases a; cases b
  refine ⟨i, j, rfl, q _ F H (.refl _ _ _) s ?_⟩
  have : (if j > i then j else i) = max i j := by
    rw [Int.max_def]
    split <;> split <;> omega
  rw [this]
  exact Dp.int _
theorem fn_min {i j : Int} : Fn K (fun xs H Q => ∃ i j, xs = [.int i, .int j] ∧ Q (.int (if j < i then j else i)) H) [.int i, .int j] (.v (.int (min i j))) := fun F H L S vs s h Q q => by
  obtain ⟨v, w, rfl, a, b⟩ := dpa2 h
  cases a; cases b
  refine ⟨i, j, rfl, q _ F H (.refl _ _ _) s ?_⟩
  have : (if j < i then j else i) = min i j := by
    rw [Int.min_def]
    split <;> split <;> omega
  rw [this]
  exact Dp.int _
theorem fn_int {i : Int} : Fn K (fun xs H Q => (∃ i, xs = [.int i] ∧ Q (.int i) H) ∨ ∃ k, xs = [.bl k] ∧ Q (.int (if k then 1 else 0)) H) [.int i] (.v (.int i)) := fun F H L S vs s h Q q => by
  obtain ⟨v, rfl, a⟩ := dpa1 h
  cases a
  exact .inl ⟨i, rfl, q _ F H (.refl _ _ _) s (.int _)⟩
theorem fn_ord {x : Str} (hx : x.length = 1) : Fn K (fun xs H Q => ∃ x, xs = [.str x] ∧ x.length = 1 ∧ Q (.int (x.cps.getD 0 0 : Nat)) H) [.str x] (.v (.int (x.cps.getD 0 0 : Nat))) := fun F H L S vs s h Q q => by
  obtain ⟨v, rfl, a⟩ := dpa1 h
  cases a
  exact ⟨x, rfl, hx, q _ F H (.refl _ _ _) s (.int _)⟩
/-- len, list, tuple of what is read -/
theorem ev_len (h : Ev K ρ S te r S1) (hn : notNl r = true) (hq : RdSq S1 r ds) : Ev K ρ S (tCB (fun xs H Q => ∃ x n, xs = [x] ∧ LenV K x H n ∧ Q (.int n) H) (tCons te tNil)) (.v (.int (ds.length : Int))) S1 := fun σ F H L E s Q q =>
  h σ F H L E s _ fun x F1 H1 st1 s1 r1 => by
    obtain ⟨a, vs, rfl, hs, hd⟩ := rd_sq (H0 := H) s1 (r1.pers (Same.refl _) hn) hq
    refine ⟨_, ds.length, rfl, ?_, q _ F1 H1 st1 s1 (.int _)⟩
    rcases hs with hs | hs
    · exact .inl ⟨vs, hs, (dpa_len hd).symm⟩
    · exact .inr ⟨vs, hs, (dpa_len hd).symm⟩
theorem ev_lenS {z : Str} (h : Ev K ρ S te (.v (.str z)) S1) (hz : z.length ≤ sizeLine) : Ev K ρ S (tCB (fun xs H Q => ∃ x n, xs = [x] ∧ LenV K x H n ∧ Q (.int n) H) (tCons te tNil)) (.v (.int (z.length : Int))) S1 := fun σ F H L E s Q q =>
  h σ F H L E s _ fun x F1 H1 st1 s1 r1 => by
    cases r1
    exact ⟨_, z.length, rfl, ⟨hz, rfl⟩, q _ F1 H1 st1 s1 (.int _)⟩
theorem ev_list (h : Ev K ρ S te r S1) (hn : notNl r = true) (hq : RdSq S1 r ds) : Ev K ρ S (tCB (fun xs H Q => ∃ p ys, xs = [.ref p] ∧ (SqL K H p ys ∨ SqT K H p ys) ∧ ∀ l, H l = none → Q (.ref l) (upd H l (.lst ys))) (tCons te tNil)) (.nl ds) S1 := fun σ F H L E s Q q =>
  h σ F H L E s _ fun x F1 H1 st1 s1 r1 => by
    obtain ⟨a, vs, rfl, hs, hd⟩ := rd_sq (H0 := H) s1 (r1.pers (Same.refl _) hn) hq
    refine ⟨a, vs, rfl, hs, fun l hl => ?_⟩
    obtain ⟨a, b, c⟩ := new_lst (L := L) s1 hd hl
    exact q _ _ _ (st1.trans a) b (c.back st1)
theorem ev_tuple (h : Ev K ρ S te r S1) (hn : notNl r = true) (hq : RdSq S1 r ds) : Ev K ρ S (tCB (fun xs H Q => ∃ p ys, xs = [.ref p] ∧ ((SqL K H p ys ∧ ∀ l, H l = none → Q (.ref l) (upd H l (.tup ys))) ∨ (SqT K H p ys ∧ Q (.ref p) H))) (tCons te tNil)) (.v (.tuple ds)) S1 := fun σ F H L E s Q q =>
  h σ F H L E s _ fun x F1 H1 st1 s1 r1 => by
    rcases hq with rfl | rfl | ⟨n, rfl, e⟩
    · obtain ⟨a, vs, rfl, hs, hd⟩ := rd_sq (H0 := H) s1 (r1.pers (Same.refl _) hn) (.inl rfl)
      have r1' : Dp K F1 (.ref a) (.list ds) := r1
      cases r1' with
      | lst h1 h2 =>
        refine ⟨a, _, rfl, .inl ⟨s1.sub.seq h1, fun l hl => ?_⟩⟩
        obtain ⟨x, y, z⟩ := new_tup (L := L) s1 h2 hl
        exact q _ _ _ (st1.trans x) y z
    · have r1' : Dp K F1 x (.tuple ds) := r1
      cases r1' with
      | tup h1 h2 => exact ⟨_, _, rfl, .inr ⟨sqt_mono s1.sub h1, q _ F1 H1 st1 s1 (.tup h1 h2)⟩⟩
    · obtain ⟨a, rfl, e1⟩ := r1
      obtain ⟨_, vs, ds', e2, e3, e4⟩ := s1.st n a e1
      rw [e] at e2
      cases e2
      refine ⟨a, vs, rfl, .inl ⟨.inl (.inl e3), fun l hl => ?_⟩⟩
      obtain ⟨x, y, z⟩ := new_tup (L := L) s1 e4 hl
      exact q _ _ _ (st1.trans x) y z
/-- truth of a list -/
theorem et_truL (h : Ev K ρ S te r S1) (hn : notNl r = true) (hq : RdSq S1 r ds) : EvT K ρ S (fun σ H Q => te σ H fun x H' => ∃ k, TruV K x H' k ∧ Q k H') (!ds.isEmpty) S1 := fun σ F H L E s Q q =>
  h σ F H L E s _ fun x F1 H1 st1 s1 r1 => by
    obtain ⟨a, vs, rfl, hs, hd⟩ := rd_sq (H0 := H) s1 (r1.pers (Same.refl _) hn) hq
    refine ⟨_, ?_, q F1 H1 st1 s1⟩
    have hl := dpa_len hd
    have he : vs.isEmpty = ds.isEmpty := by
      cases vs <;> cases ds <;> simp_all
    rcases hs with hs | hs
    · exact .inl ⟨vs, hs, by rw [he]⟩
    · exact .inr (.inl ⟨vs, hs, by rw [he]⟩)
theorem et_truB {b : Bool} (h : Ev K ρ S te (.v (.bool b)) S1) : EvT K ρ S (fun σ H Q => te σ H fun x H' => ∃ k, TruV K x H' k ∧ Q k H') b S1 := fun σ F H L E s Q q =>
  h σ F H L E s _ fun x F1 H1 st1 s1 r1 => by
    cases r1
    exact ⟨b, rfl, q F1 H1 st1 s1⟩
/-- isinstance -/
def tyD : D → String
  | .none => "NoneType" | .bool _ => "bool" | .int _ => "int" | .str _ => "str" | .list _ => "list" | .tuple _ => "tuple" | .dict _ => "dict"
end
end DL
end

section
set_option Elab.async false
set_option linter.all false
set_option maxRecDepth 100000
set_option maxHeartbeats 4000000
namespace DL
open PySem PySem.Spec PyProof.Rows L2

section
variable {K : PySem.W.Frag} {ρ : Rho} {S S1 S2 S3 : Sto} {ta tb tc te : TE} {t u : TT} {tr : TA} {d e f : D} {r : Rs} {ds es : List D}
theorem ty_dp {F : Hp} {v : V} (h : Dp K F v d) : TyX K F v (.type (tyD d)) := by
  cases h with
  | non => exact .base .non
  | bl b => exact .base (.bl b)
  | int i => exact .base (.int i)
  | str x => exact .base (.str x)
  | lst h1 h2 =>
    rcases h1 with (h1 | ⟨o, h1⟩) | ⟨o, its, n, h1, h3, _⟩
    · exact .base (.lst h1)
    · exact .base (.frz h1)
    · exact .kList h1 h3
  | tup h1 h2 =>
    rcases h1 with (h1 | ⟨o, h1⟩) | ⟨o, its, n, h1, h3, _⟩
    · exact .base (.tup h1)
    · exact .fTuple h1
    · exact .kTuple h1 h3
theorem tyx_mono {F H : Hp} {v : V} (h : Dp K F v d) (sm : Same F H) : TyX K H v (.type (tyD d)) := ty_dp (dp_mono sm _ _ h)
theorem ev_isi {T : String} {b : Bool} (h : Ev K ρ S te (.v d) S1) (hb : kitB (tyD d) T = some b) : Ev K ρ S (tCB (rIsi K) (tCons te (tCons (tC (.ty T)) tNil))) (.v (.bool b)) S1 := fun σ F H L E s Q q =>
  h σ F H L E s _ fun x F1 H1 st1 s1 r1 => ⟨x, _, _, _, b, rfl, .ty T, tyx_mono r1 s1.sub, kit_ty hb, q _ F1 H1 st1 s1 (.bl b)⟩

/-! ### arguments of own defs -/
def enOf : Rs → En
  | .v d => .dt d
  | .nl ds => .dt (.list ds)
  | .mu n => .mu n
theorem ea_nil : EvA K ρ S tNil [] S := fun σ F H L E s Q q => q [] F H (.refl _ _ _) s rfl fun i e h => by simp at h
theorem ea_cons1 {es : Rho} {en : En} (hx : ∀ σ F H L, EOk K F L σ ρ → SOk K F H L S → ∀ Q : VK, (∀ v F' H', Stp L F H F' H' → SOk K F' H' L S1 → EnOk K F' L en (some v) → Q v H') → te σ H Q) (hr : EvA K ρ S1 tr es S2) : EvA K ρ S (tCons te tr) (en :: es) S2 := fun σ F H L E s Q q =>
  hx σ F H L E s _ fun v F1 H1 st1 s1 r1 => hr σ F1 H1 L (E.mono0 st1.fx) s1 _ fun vs F2 H2 st2 s2 hl r2 => q _ F2 H2 (st1.trans st2) s2 (by simp [hl]) fun i e h => by
    cases i with
    | zero =>
      have := Option.some.inj h
      subst this
      refine ⟨some v, rfl, ?_⟩
      have := r1.mono (R := []) st2.fx
      rw [List.append_nil] at this
      exact this
    | succ i => exact r2 i e h
theorem ea_cons {es : Rho} (h : Ev K ρ S te (.v d) S1) (hr : EvA K ρ S1 tr es S2) : EvA K ρ S (tCons te tr) (.dt d :: es) S2 := ea_cons1 (fun σ F H L E s Q q => h σ F H L E s Q fun v F1 H1 st s1 r1 => q v F1 H1 st s1 ⟨v, rfl, r1⟩) hr
theorem ea_consN {es : Rho} {ds : List D} (h : Ev K ρ S te (.nl ds) S1) (hr : EvA K ρ S1 tr es S2) : EvA K ρ S (tCons te tr) (.dt (.list ds) :: es) S2 := ea_cons (ev_fr h) hr
theorem ea_consM {es : Rho} {n : Nat} (h : Ev K ρ S te (.mu n) S1) (hr : EvA K ρ S1 tr es S2) : EvA K ρ S (tCons te tr) (.mu n :: es) S2 := ea_cons1 (fun σ F H L E s Q q => h σ F H L E s Q fun v F1 H1 st s1 r1 => q v F1 H1 st s1 (by
  obtain ⟨a, rfl, e⟩ := r1
  exact ⟨a, rfl, e⟩)) hr

/-! ### a def's promise: G tells, of the arguments and the written lists, the result and the lists behind -/
def spA (K : PySem.W.Frag) (n : Nat) (G : Rho → Sto → Rs → Sto → Prop) : Sp := fun vs H Q E => vs.length = n ∧ ∃ F L ρ S r S', EOk K F L (vs.map some) ρ ∧ ρ.length = n ∧ SOk K F H L S ∧ G ρ S r S' ∧ ∀ v F' H', Stp L F H F' H' → SOk K F' H' L S' → RsOk K L F' H H' v r → Q v H'
def isDt : En → Bool
  | .dt _ => true
  | _ => false
def notMu : Rs → Bool
  | .mu _ => false
  | _ => true
theorem eok_dt {F : Hp} {L L' : List Addr} {σ : L2.St} {es : Rho} (h : EOk K F L σ es) (hd : es.all isDt = true) : EOk K F L' σ es := fun i e q => by
  obtain ⟨o, a, b⟩ := h i e q
  have := List.all_eq_true.mp hd e (List.mem_of_getElem? q)
  cases e with
  | dt d => exact ⟨o, a, b⟩
  | un => cases this
  | mu n => cases this
theorem ev_call0 {n : Nat} {G : Rho → Sto → Rs → Sto → Prop} {es : Rho} {E : XK} (h : EvA K ρ S tr es S1) (hd : es.all isDt = true) (hn : es.length = n) (hm : notMu r = true) (g : G es [] r []) : Ev K ρ S (tCall (spA K n G) [] E tr) r S1 := fun σ F H L Eo s Q q =>
  h σ F H L Eo s _ fun vs F1 H1 st1 s1 hl r1 => by
    refine ⟨by simp [hl, hn], F1, [], es, [], r, [], by rw [List.append_nil]; exact eok_dt r1 hd, hn, ⟨s1.sub, rfl, .nil, fun n a e => by simp at e⟩, g, fun v F2 H2 st2 s2 r2 => ?_⟩
    have st3 : Stp L F1 H1 F2 H2 := ⟨st2.fx, fun a o e _ => st2.keep a o e (by simp), st2.live, st2.nof⟩
    refine q v F2 H2 (st1.trans st3) ⟨s2.sub, s1.len, s1.nd, fun n a e => ?_⟩ ?_
    · obtain ⟨f0, ws, xs, e1, e2, e3⟩ := s1.st n a e
      exact ⟨st2.nof a (by rw [e2]; exact nofun) f0, ws, xs, e1, st2.keep _ _ e2 (by simp), dpa_mono st2.fx _ _ e3⟩
    · cases r with
      | v d => exact r2
      | nl ds =>
        obtain ⟨a, vs, e, h0, h1, h2, h3⟩ := r2
        exact ⟨a, vs, e, st1.fresh h0, h1, h2, h3⟩
      | mu n => cases hm
def reix : En → En
  | .mu _ => .mu 0
  | e => e
def muIs (n : Nat) : En → Bool
  | .mu m => m == n
  | .dt _ => true
  | .un => false
theorem ev_call1 {n : Nat} {k : Nat} {G : Rho → Sto → Rs → Sto → Prop} {es : Rho} {E : XK} {ds ds' : List D} (h : EvA K ρ S tr es S1) (hd : es.all (muIs k) = true) (hn : es.length = n) (hk : S1[k]? = some ds) (hm : notMu r = true) (g : G (es.map reix) [ds] r [ds']) :
    Ev K ρ S (tCall (spA K n G) [] E tr) r (S1.set k ds') := fun σ F H L Eo s Q q =>
  h σ F H L Eo s _ fun vs F1 H1 st1 s1 hl r1 => by
    have hkl : k < L.length := by
      rw [s1.len]
      exact (List.getElem?_eq_some_iff.mp hk).1
    obtain ⟨a, ha⟩ : ∃ a, L[k]? = some a := ⟨_, List.getElem?_eq_getElem hkl⟩
    obtain ⟨fa, wsa, dsa, ea1, ea2, ea3⟩ := s1.st k a ha
    rw [hk] at ea1
    cases ea1
    have haL : a ∈ L := List.mem_of_getElem? ha
    refine ⟨by simp [hl, hn], F1, [a], es.map reix, [ds], r, [ds'], ?_, by simp [hn], ⟨s1.sub, rfl, by simp, fun n b e => ?_⟩, g, fun v F2 H2 st2 s2 r2 => ?_⟩
    · rw [List.append_nil]
      intro i e q
      rw [List.getElem?_map] at q
      cases qe : es[i]? with
      | none => rw [qe] at q; cases q
      | some e0 =>
        rw [qe] at q
        have q' := Option.some.inj q
        obtain ⟨o, h1, h2⟩ := r1 i e0 qe
        have hmu := List.all_eq_true.mp hd e0 (List.mem_of_getElem? qe)
        refine ⟨o, h1, ?_⟩
        subst q'
        cases e0 with
        | un => cases hmu
        | dt d => exact h2
        | mu m =>
          have : m = k := by simpa [muIs] using hmu
          subst this
          obtain ⟨b, hb1, hb2⟩ := h2
          rw [ha] at hb2
          cases hb2
          exact ⟨a, hb1, rfl⟩
    · cases n with
      | zero =>
        cases e
        exact ⟨fa, wsa, ds, rfl, ea2, ea3⟩
      | succ n => simp at e
    · have st3 : Stp L F1 H1 F2 H2 := ⟨st2.fx, fun b o e nb => st2.keep b o e (by
        intro hb
        have : b = a := by simpa using hb
        exact nb (this ▸ haL)), st2.live, st2.nof⟩
      obtain ⟨fa2, ws2, xs2, eb1, eb2, eb3⟩ := s2.st 0 a rfl
      cases eb1
      refine q v F2 H2 (st1.trans st3) ⟨s2.sub, by simp [s1.len], s1.nd, fun n b e => ?_⟩ ?_
      · by_cases hnk : k = n
        · subst hnk
          rw [ha] at e
          cases e
          exact ⟨fa2, ws2, ds', by rw [List.getElem?_set_self (by rw [← s1.len]; exact hkl)], eb2, eb3⟩
        · obtain ⟨f0, ws, xs, e1, e2, e3⟩ := s1.st n b e
          have hba : b ≠ a := fun z => by
            subst z
            have h1 := (List.getElem?_eq_some_iff.mp e)
            have h2 := (List.getElem?_eq_some_iff.mp ha)
            exact hnk ((List.getElem_inj s1.nd).mp (h2.2.trans h1.2.symm))
          refine ⟨st2.nof b (by rw [e2]; exact nofun) f0, ws, xs, by rw [List.getElem?_set_ne hnk]; exact e1, st2.keep _ _ e2 (by simpa using hba), dpa_mono st2.fx _ _ e3⟩
      · cases r with
        | v d => exact r2
        | nl ds =>
          obtain ⟨a, vs, e, h0, h1, h2, h3⟩ := r2
          exact ⟨a, vs, e, st1.fresh h0, h1, h2, h3⟩
        | mu n => cases hm
end

/-! ### statements -/
structure AE where
  nx : Rho → Sto → Prop
  rt : Rs → Sto → Prop
  bk : Rho → Sto → Prop := fun _ _ => False
  ct : Rho → Sto → Prop := fun _ _ => False
/-- since the def's entry (L0, F0, H0) -/
structure Bs (n0 : Nat) (L0 : List Addr) (F0 H0 : Hp) (L : List Addr) (F H : Hp) : Prop where
  n : L0.length = n0
  stp : Stp L0 F0 H0 F H
  pre : ∃ R, L = L0 ++ R
  fr : ∀ a ∈ L, a ∈ L0 ∨ H0 a = none
structure Cov (K : PySem.W.Frag) (n0 : Nat) (A : AE) (L0 : List Addr) (F0 H0 : Hp) (DE : Ends) : Prop where
  nx : ∀ σ F H L ρ S, Bs n0 L0 F0 H0 L F H → EOk K F L σ ρ → SOk K F H L S → A.nx ρ S → DE.nx σ H
  bk : ∀ σ F H L ρ S, Bs n0 L0 F0 H0 L F H → EOk K F L σ ρ → SOk K F H L S → A.bk ρ S → DE.bk σ H
  ct : ∀ σ F H L ρ S, Bs n0 L0 F0 H0 L F H → EOk K F L σ ρ → SOk K F H L S → A.ct ρ S → DE.ct σ H
  rt : ∀ v F H L r S, notMu r = true → Bs n0 L0 F0 H0 L F H → SOk K F H L S → RsOk K L0 F H0 H v r → A.rt r S → DE.rt v H
def As (K : PySem.W.Frag) (n0 : Nat) (ts : TS) (A : AE) (ρ : Rho) (S : Sto) : Prop := ∀ L0 F0 H0 σ F H L, Bs n0 L0 F0 H0 L F H → EOk K F L σ ρ → SOk K F H L S → ∀ DE : Ends, Cov K n0 A L0 F0 H0 DE → ts DE σ H
theorem Bs.step {n0 : Nat} {L0 L : List Addr} {F0 H0 F H F' H' : Hp} (b : Bs n0 L0 F0 H0 L F H) (s : Stp L F H F' H') : Bs n0 L0 F0 H0 L F' H' := ⟨b.n, b.stp.trans' s b.fr, b.pre, b.fr⟩
theorem Cov.mono {K : PySem.W.Frag} {n0 : Nat} {A B : AE} {L0 : List Addr} {F0 H0 : Hp} {DE : Ends} (c : Cov K n0 B L0 F0 H0 DE) (h1 : ∀ ρ S, A.nx ρ S → B.nx ρ S) (h2 : ∀ r S, A.rt r S → B.rt r S) (h3 : ∀ ρ S, A.bk ρ S → B.bk ρ S) (h4 : ∀ ρ S, A.ct ρ S → B.ct ρ S) : Cov K n0 A L0 F0 H0 DE :=
  ⟨fun σ F H L ρ S a b d x => c.nx σ F H L ρ S a b d (h1 _ _ x), fun σ F H L ρ S a b d x => c.bk σ F H L ρ S a b d (h3 _ _ x), fun σ F H L ρ S a b d x => c.ct σ F H L ρ S a b d (h4 _ _ x), fun v F H L r S m a b d x => c.rt v F H L r S m a b d (h2 _ _ x)⟩
section
variable {K : PySem.W.Frag} {n0 : Nat} {A B : AE} {ρ : Rho} {S S1 S2 S3 : Sto} {ta tb tc te : TE} {t u : TT} {tr : TA} {d e f : D} {r : Rs} {ds es : List D} {ts tu tw : TS} {g : TG}
theorem As.mono (h : As K n0 ts A ρ S) (h1 : ∀ ρ S, A.nx ρ S → B.nx ρ S) (h2 : ∀ r S, A.rt r S → B.rt r S) (h3 : ∀ ρ S, A.bk ρ S → B.bk ρ S) (h4 : ∀ ρ S, A.ct ρ S → B.ct ρ S) : As K n0 ts B ρ S := fun L0 F0 H0 σ F H L b e s DE c =>
  h L0 F0 H0 σ F H L b e s DE (c.mono h1 h2 h3 h4)
theorem as_seq (h : As K n0 ts { A with nx := fun ρ S => As K n0 tu A ρ S } ρ S) : As K n0 (tSeq ts tu) A ρ S := fun L0 F0 H0 σ F H L b e s DE c =>
  h L0 F0 H0 σ F H L b e s { DE with nx := tu DE } ⟨fun σ F H L ρ S b e s x => x L0 F0 H0 σ F H L b e s DE c, c.bk, c.ct, c.rt⟩
theorem as_next (h : A.nx ρ S) : As K n0 tNext A ρ S := fun L0 F0 H0 σ F H L b e s DE c => c.nx σ F H L ρ S b e s h
theorem as_break (h : A.bk ρ S) : As K n0 tBreak A ρ S := fun L0 F0 H0 σ F H L b e s DE c => c.bk σ F H L ρ S b e s h
theorem as_cont (h : A.ct ρ S) : As K n0 tCont A ρ S := fun L0 F0 H0 σ F H L b e s DE c => c.ct σ F H L ρ S b e s h
theorem as_asg {i : Nat} (h : Ev K ρ S te (.v d) S1) (k : A.nx (ρ.set i (.dt d)) S1) : As K n0 (tAsg te (gName i)) A ρ S := fun L0 F0 H0 σ F H L b e s DE c =>
  h σ F H L e s _ fun v F1 H1 st s1 r1 => c.nx _ F1 H1 L _ S1 (b.step st) ((e.mono0 st.fx).set i (e := .dt d) ⟨v, rfl, r1⟩) s1 k
theorem as_asgM {i n : Nat} (h : Ev K ρ S te (.mu n) S1) (k : A.nx (ρ.set i (.mu n)) S1) : As K n0 (tAsg te (gName i)) A ρ S := fun L0 F0 H0 σ F H L b e s DE c =>
  h σ F H L e s _ fun v F1 H1 st s1 r1 => c.nx _ F1 H1 L _ S1 (b.step st) ((e.mono0 st.fx).set i (e := .mu n) (by
    obtain ⟨a, rfl, q⟩ := r1
    exact ⟨a, rfl, q⟩)) s1 k
/-- a new list becomes a written one -/
theorem own_new {L0 L : List Addr} {F0 H0 F H F1 H1 : Hp} {v : V} (b : Bs n0 L0 F0 H0 L F H) (st : Stp L F H F1 H1) (s0 : SOk K F H L S) (s1 : SOk K F1 H1 L S1) (r1 : RsOk K L F1 H H1 v (.nl ds)) : ∃ a, v = .ref a ∧ Bs n0 L0 F0 H0 (L ++ [a]) F1 H1 ∧ SOk K F1 H1 (L ++ [a]) (S1 ++ [ds]) := by
  obtain ⟨a, vs, rfl, h0, hf, hh, hd⟩ := r1
  have ha0 : H0 a = none := b.stp.fresh h0
  have b1 := b.step st
  have haL : a ∉ L := fun m => by
    obtain ⟨n, hn⟩ := List.getElem?_of_mem m
    obtain ⟨_, _, _, _, e2, _⟩ := s0.st n a hn
    rw [h0] at e2
    cases e2
  refine ⟨a, rfl, ⟨b1.n, b1.stp, ?_, fun x hx => ?_⟩, ⟨s1.sub, by simp [s1.len], ?_, fun n x e => ?_⟩⟩
  · obtain ⟨R, rfl⟩ := b.pre
    exact ⟨R ++ [a], by rw [List.append_assoc]⟩
  · rcases List.mem_append.mp hx with hx | hx
    · exact b.fr x hx
    · have : x = a := by simpa using hx
      subst this
      exact .inr ha0
  · rw [List.nodup_append]
    exact ⟨s1.nd, by simp, fun x hx y hy => by
      have : y = a := by simpa using hy
      subst this
      exact fun z => haL (z ▸ hx)⟩
  · rw [List.getElem?_append] at e
    split at e
    · rename_i hl
      obtain ⟨f0, ws, xs, e1, e2, e3⟩ := s1.st n x e
      refine ⟨f0, ws, xs, ?_, e2, e3⟩
      rw [List.getElem?_append_left (by rw [← s1.len]; exact hl)]
      exact e1
    · rename_i hl
      have hn : n - L.length = 0 := by
        have := (List.getElem?_eq_some_iff.mp e).1
        simp at this
        omega
      rw [hn] at e
      cases e
      refine ⟨hf, vs, ds, ?_, hh, hd⟩
      rw [List.getElem?_append_right (by rw [← s1.len]; omega), ← s1.len, hn]
      rfl
theorem as_asgN {i : Nat} (h : Ev K ρ S te (.nl ds) S1) (k : A.nx (ρ.set i (.mu S1.length)) (S1 ++ [ds])) : As K n0 (tAsg te (gName i)) A ρ S := fun L0 F0 H0 σ F H L b e s DE c =>
  h σ F H L e s _ fun v F1 H1 st s1 r1 => by
    obtain ⟨a, rfl, b2, s2⟩ := own_new b st s s1 r1
    refine c.nx _ F1 H1 (L ++ [a]) _ _ b2 ((e.mono (R := [a]) st.fx).set i (e := .mu S1.length) ⟨a, rfl, ?_⟩) s2 k
    rw [← s1.len, List.getElem?_append_right (Nat.le_refl _), Nat.sub_self]
    rfl
theorem as_if {b : Bool} (h : EvT K ρ S t b S1) (h1 : b = true → As K n0 tu A ρ S1) (h2 : b = false → As K n0 tw A ρ S1) : As K n0 (tIfS t tu tw) A ρ S := fun L0 F0 H0 σ F H L bs e s DE c =>
  h σ F H L e s _ fun F1 H1 st s1 => by
    cases b with
    | true =>
      show tu DE σ H1
      exact h1 rfl L0 F0 H0 σ F1 H1 L (bs.step st) (e.mono0 st.fx) s1 DE c
    | false =>
      show tw DE σ H1
      exact h2 rfl L0 F0 H0 σ F1 H1 L (bs.step st) (e.mono0 st.fx) s1 DE c
theorem as_ret (h : Ev K ρ S te r S1) (hm : notMu r = true) (k : A.rt r S1) : As K n0 (tRet te) A ρ S := fun L0 F0 H0 σ F H L b e s DE c =>
  h σ F H L e s _ fun v F1 H1 st s1 r1 => by
    refine c.rt v F1 H1 L r S1 hm (b.step st) s1 ?_ k
    cases r with
    | v d => exact r1
    | nl ds =>
      obtain ⟨a, vs, e, h0, h1, h2, h3⟩ := r1
      exact ⟨a, vs, e, b.stp.fresh h0, h1, h2, h3⟩
    | mu n => cases hm
/-- return of a list of one's own -/
theorem as_retM {n : Nat} (h : Ev K ρ S te (.mu n) S1) (hn : n0 ≤ n) (hd : S1[n]? = some ds) (k : A.rt (.nl ds) S1) : As K n0 (tRet te) A ρ S := fun L0 F0 H0 σ F H L b e s DE c =>
  h σ F H L e s _ fun v F1 H1 st s1 r1 => by
    obtain ⟨a, rfl, ha⟩ := r1
    obtain ⟨f0, ws, xs, e1, e2, e3⟩ := s1.st n a ha
    rw [hd] at e1
    cases e1
    refine c.rt _ F1 H1 L (.nl ds) S1 rfl (b.step st) s1 ⟨a, ws, rfl, ?_, f0, e2, e3⟩ k
    rcases b.fr a (List.mem_of_getElem? ha) with q | q
    · exfalso
      obtain ⟨R, rfl⟩ := b.pre
      obtain ⟨m, hm⟩ := List.getElem?_of_mem q
      have h1 := (List.getElem?_eq_some_iff.mp hm)
      obtain ⟨hl, _⟩ := h1
      have hm' : (L0 ++ R)[m]? = some a := by rw [List.getElem?_append_left hl]; exact hm
      have h3 := List.getElem?_eq_some_iff.mp hm'
      have h4 := List.getElem?_eq_some_iff.mp ha
      have : m = n := (List.getElem_inj s1.nd).mp (h3.2.trans h4.2.symm)
      have := b.n
      omega
    · exact q
theorem as_retN (k : A.rt (.v .none) S) : As K n0 tRetN A ρ S := fun L0 F0 H0 σ F H L b e s DE c => c.rt _ F H L (.v .none) S rfl b s (show Dp K F .non .none from .non) k
theorem as_drop (h : Ev K ρ S te r S1) (k : A.nx ρ S1) : As K n0 (tDrop te) A ρ S := fun L0 F0 H0 σ F H L b e s DE c =>
  h σ F H L e s _ fun v F1 H1 st s1 r1 => c.nx _ F1 H1 L _ S1 (b.step st) (e.mono0 st.fx) s1 k
/-- a written list is stored to -/
theorem put_lst {L0 L : List Addr} {F0 H0 F H : Hp} {n : Nat} {a : Addr} {vs : List V} (b : Bs n0 L0 F0 H0 L F H) (s : SOk K F H L S) (ha : L[n]? = some a) (hd : DpAll K F vs ds) : Bs n0 L0 F0 H0 L F (upd H a (.lst vs)) ∧ SOk K F (upd H a (.lst vs)) L (S.set n ds) := by
  obtain ⟨f0, ws, xs, e1, e2, e3⟩ := s.st n a ha
  have hl : n < S.length := (List.getElem?_eq_some_iff.mp e1).1
  have st : Stp L F H F (upd H a (.lst vs)) := ⟨Same.refl _, fun x o e nx => by
    rw [upd_ne (fun (z : x = a) => nx (by rw [z]; exact List.mem_of_getElem? ha))]
    exact e, fun x hx => by
      by_cases q : x = a
      · rw [q, upd_same]; exact nofun
      · rw [upd_ne q]; exact hx, fun x hx h => h⟩
  refine ⟨b.step st, ⟨fun x o e => ?_, by simp [s.len], s.nd, fun m x e => ?_⟩⟩
  · rw [upd_ne (ne_of_none e f0)]
    exact s.sub _ _ e
  · by_cases hnm : n = m
    · subst hnm
      rw [ha] at e
      cases e
      exact ⟨f0, vs, ds, List.getElem?_set_self hl, upd_same, hd⟩
    · obtain ⟨g0, ws', xs', k1, k2, k3⟩ := s.st m x e
      have hxa : x ≠ a := fun z => by
        subst z
        have h1 := List.getElem?_eq_some_iff.mp e
        have h2 := List.getElem?_eq_some_iff.mp ha
        exact hnm ((List.getElem_inj s.nd).mp (h2.2.trans h1.2.symm))
      exact ⟨g0, ws', xs', by rw [List.getElem?_set_ne hnm]; exact k1, by rw [upd_ne hxa]; exact k2, k3⟩
theorem as_app {n : Nat} (ha : Ev K ρ S ta (.mu n) S1) (h : Ev K ρ S1 te (.v d) S2) (hd : S2[n]? = some ds) (hz : ds.length < 100000) (k : A.nx ρ (S2.set n (ds ++ [d]))) : As K n0 (tDrop (tBM K "list" rAppend ta (tCons te tNil))) A ρ S := fun L0 F0 H0 σ F H L b e s DE c =>
  ha σ F H L e s _ fun v F1 H1 st1 s1 r1 => by
    obtain ⟨a, rfl, ha⟩ := r1
    obtain ⟨_, ws1, xs1, _, e12, _⟩ := s1.st n a ha
    refine ⟨.inl ⟨rfl, ws1, .inl (.inl e12)⟩, h σ F1 H1 L (e.mono0 st1.fx) s1 _ fun w F2 H2 st2 s2 r2 => ?_⟩
    obtain ⟨f0, ws, xs, e1, e2, e3⟩ := s2.st n a ha
    rw [hd] at e1
    cases e1
    obtain ⟨b3, s3⟩ := put_lst (b.step (st1.trans st2)) s2 ha (dpa_app e3 (.cons r2 .nil))
    exact ⟨a, ws, w, rfl, rfl, e2, by rw [dpa_len e3]; exact small5' hz, c.nx _ F2 _ L _ _ b3 (e.mono0 (st1.trans st2).fx) s3 k⟩
theorem as_appN {n : Nat} (ha : Ev K ρ S ta (.mu n) S1) (h : Ev K ρ S1 te (.nl es) S2) (hd : S2[n]? = some ds) (hz : ds.length < 100000) (k : A.nx ρ (S2.set n (ds ++ [.list es]))) : As K n0 (tDrop (tBM K "list" rAppend ta (tCons te tNil))) A ρ S := as_app ha (ev_fr h) hd hz k
theorem ixN_nat {n j : Nat} (hj : j < n) : ixN n (j : Int) = some j := by
  unfold ixN
  rw [if_pos (by omega), if_pos (by omega)]
  simp
theorem as_setI {n : Nat} {i : Int} {j : Nat} (h : Ev K ρ S te (.v d) S1) (ho : Ev K ρ S1 ta (.mu n) S2) (hi : Ev K ρ S2 tb (.v (.int i)) S3) (hd : S3[n]? = some ds) (hj : ixN ds.length i = some j) (k : A.nx ρ (S3.set n (ds.set j d))) : As K n0 (tAsg te (gSub ta tb rSetL)) A ρ S := fun L0 F0 H0 σ F H L b e s DE c =>
  h σ F H L e s _ fun v F1 H1 st1 s1 r1 => ho σ F1 H1 L (e.mono0 st1.fx) s1 _ fun w F2 H2 st2 s2 r2 => by
    obtain ⟨a, rfl, ha⟩ := r2
    refine hi σ F2 H2 L (e.mono0 (st1.trans st2).fx) s2 _ fun y F3 H3 st3 s3 r3 => ?_
    cases r3
    obtain ⟨f0, ws, xs, e1, e2, e3⟩ := s3.st n a ha
    rw [hd] at e1
    cases e1
    obtain ⟨b4, s4⟩ := put_lst (b.step ((st1.trans st2).trans st3)) s3 ha (dpa_set j e3 (dp_mono (st2.trans st3).fx _ _ r1))
    exact ⟨a, ws, i, j, rfl, rfl, e2, by rw [dpa_len e3]; exact hj, c.nx _ F3 _ L _ _ b4 (e.mono0 ((st1.trans st2).trans st3).fx) s4 k⟩
theorem as_aug {i : Nat} {ff : Int → Int → Int} {x y : Int} (hx : ρ[i]? = some (.dt (.int x))) (h : Ev K ρ S te (.v (.int y)) S1) (k : A.nx (ρ.set i (.dt (.int (ff x y)))) S1) : As K n0 (tAug i te (ipI ff)) A ρ S := fun L0 F0 H0 σ F H L b e s DE c => by
  obtain ⟨o, h1, v, rfl, h3⟩ := e i _ hx
  cases h3
  refine ⟨_, h1, h σ F H L e s _ fun w F1 H1 st s1 r1 => ?_⟩
  cases r1
  exact ⟨x, y, rfl, rfl, c.nx _ F1 H1 L _ S1 (b.step st) ((e.mono0 st.fx).set i (e := .dt (.int (ff x y))) ⟨_, rfl, .int _⟩) s1 k⟩
end
end DL
end

section
set_option Elab.async false
set_option linter.all false
set_option maxRecDepth 100000
set_option maxHeartbeats 4000000
namespace DL
open PySem PySem.Spec PyProof.Rows L2

/-! ### what is walked: J gives ds, as long as chk holds of the written lists -/
structure JOk (K : PySem.W.Frag) (F : Hp) (L : List Addr) (J : It) (ds : List D) (chk : Sto → Prop) : Prop where
  go : ∀ F2 H2 R S2 (i : Nat), Same F F2 → SOk K F2 H2 (L ++ R) S2 → chk S2 → i < ds.length → J.go i H2 ∧ ∀ x H', J.yld i H2 x H' → ∃ F3 d, Stp (L ++ R) F2 H2 F3 H' ∧ SOk K F3 H' (L ++ R) S2 ∧ ds[i]? = some d ∧ Dp K F3 x d
  stop : ∀ F2 H2 R S2, Same F F2 → SOk K F2 H2 (L ++ R) S2 → chk S2 → J.stop ds.length H2
def Wk (K : PySem.W.Frag) (ρ : Rho) (S : Sto) (wi : TI) (ds : List D) (chk : Sto → Prop) (S1 : Sto) : Prop := ∀ σ F H L, EOk K F L σ ρ → SOk K F H L S → ∀ R : It → Hp → Prop, (∀ F' H' J, Stp L F H F' H' → SOk K F' H' L S1 → JOk K F' L J ds chk → R J H') → wi σ H R
/-- a list or a tuple -/
def iSeq (K : PySem.W.Frag) (tl : TE) : TI := fun σ H R => tl σ H fun x H1 => ∃ a, x = .ref a ∧ (((∃ xs, SqL K H1 a xs) ∧ R (Itl K a) H1) ∨ ((∃ xs, SqT K H1 a xs) ∧ R (Itt K a) H1))
theorem pi_seq {X : Cx} {tg l : Expr} {tl : TE} (hl : PE X l tl) : PI X tg l (iSeq X.K tl) := by
  refine ⟨fun pins s σ H R I h => ?_⟩
  refine thn (hl.run pins s σ H _ I h) fun v s1 ⟨x, H1, I1, r1, q1⟩ => ?_
  obtain ⟨a, e, q⟩ := q1
  subst e
  cases r1
  rcases q with ⟨⟨xs, hq⟩, q⟩ | ⟨⟨xs, hq⟩, q⟩
  · obtain ⟨its, rv, p, hz⟩ := I1.list hq
    refine wpAny_pyIter_list p.isList ?_
    refine ⟨s1.heap.objs.size, [s1.heap.objs.size], _, _, H1, rfl, I1.kept (t' := s1.toks) fun b o e => Heap.get?_push_of_some _ e, turn_list a _, ⟨_, Heap.get?_push_size _ rfl, rfl, rfl⟩, fun b hb => ?_, q⟩
    have e : b = s1.heap.objs.size := by simpa using hb
    subst e
    exact I1.fpOk (Nat.le_refl _) (I1.hok.fresh (Nat.le_refl _))
  · obtain ⟨its, rv, p, hz⟩ := I1.tuple hq
    refine wpAny_pyIter_tuple (show s1.heap.IsTuple a its.toArray from p) ?_
    refine ⟨s1.heap.objs.size, [s1.heap.objs.size], _, _, H1, rfl, I1.kept (t' := s1.toks) fun b o e => Heap.get?_push_of_some _ e, turn_tuple a _, ⟨_, Heap.get?_push_size _ rfl, rfl, rfl⟩, fun b hb => ?_, q⟩
    have e : b = s1.heap.objs.size := by simpa using hb
    subst e
    exact I1.fpOk (Nat.le_refl _) (I1.hok.fresh (Nat.le_refl _))
section
variable {K : PySem.W.Frag} {n0 : Nat} {A B : AE} {ρ : Rho} {S S1 S2 S3 : Sto} {ta tb tc te : TE} {t u : TT} {tr : TA} {d e f : D} {r : Rs} {ds es : List D} {ts tu tw : TS} {g : TG} {wi : TI} {chk : Sto → Prop}
theorem jok_l {F : Hp} {L : List Addr} {a : Addr} {vs : List V} (h : ∀ F2 H2 R S2, Same F F2 → SOk K F2 H2 (L ++ R) S2 → chk S2 → ∃ vs, SqL K H2 a vs ∧ DpAll K F2 vs ds) : JOk K F L (Itl K a) ds chk where
  go := fun F2 H2 R S2 i sm s c hi => by
    obtain ⟨vs, h1, h2⟩ := h F2 H2 R S2 sm s c
    obtain ⟨v, hv, hd⟩ := dpa_get h2 (List.getElem?_eq_getElem hi)
    exact ⟨⟨vs, v, h1, hv⟩, fun x H' y => by
      obtain ⟨rfl, y⟩ := y
      have := y vs h1
      rw [hv] at this
      cases this
      exact ⟨F2, _, .refl _ _ _, s, List.getElem?_eq_getElem hi, hd⟩⟩
  stop := fun F2 H2 R S2 sm s c => by
    obtain ⟨vs, h1, h2⟩ := h F2 H2 R S2 sm s c
    exact ⟨vs, h1, by rw [dpa_len h2]; exact Nat.le_refl _⟩
theorem jok_t {F : Hp} {L : List Addr} {a : Addr} {vs : List V} (h : ∀ F2 H2 R S2, Same F F2 → SOk K F2 H2 (L ++ R) S2 → chk S2 → ∃ vs, SqT K H2 a vs ∧ DpAll K F2 vs ds) : JOk K F L (Itt K a) ds chk where
  go := fun F2 H2 R S2 i sm s c hi => by
    obtain ⟨vs, h1, h2⟩ := h F2 H2 R S2 sm s c
    obtain ⟨v, hv, hd⟩ := dpa_get h2 (List.getElem?_eq_getElem hi)
    exact ⟨⟨vs, v, h1, hv⟩, fun x H' y => by
      obtain ⟨rfl, y⟩ := y
      have := y vs h1
      rw [hv] at this
      cases this
      exact ⟨F2, _, .refl _ _ _, s, List.getElem?_eq_getElem hi, hd⟩⟩
  stop := fun F2 H2 R S2 sm s c => by
    obtain ⟨vs, h1, h2⟩ := h F2 H2 R S2 sm s c
    exact ⟨vs, h1, by rw [dpa_len h2]; exact Nat.le_refl _⟩
theorem wk_list (h : Ev K ρ S te (.v (.list ds)) S1) : Wk K ρ S (iSeq K te) ds (fun _ => True) S1 := fun σ F H L E s R q => h σ F H L E s _ fun v F1 H1 st s1 r1 => by
  have r1' : Dp K F1 v (.list ds) := r1
  cases r1' with
  | lst h1 h2 =>
    rename_i a xs
    refine ⟨a, rfl, .inl ⟨⟨xs, s1.sub.seq h1⟩, q F1 H1 _ st s1 (jok_l (vs := xs) fun F2 H2 R S2 sm s2 _ => ⟨xs, s2.sub.seq (sm.seq h1), dpa_mono sm _ _ h2⟩)⟩⟩
theorem wk_tup (h : Ev K ρ S te (.v (.tuple ds)) S1) : Wk K ρ S (iSeq K te) ds (fun _ => True) S1 := fun σ F H L E s R q => h σ F H L E s _ fun v F1 H1 st s1 r1 => by
  have r1' : Dp K F1 v (.tuple ds) := r1
  cases r1' with
  | tup h1 h2 =>
    rename_i a xs
    refine ⟨a, rfl, .inr ⟨⟨xs, sqt_mono s1.sub h1⟩, q F1 H1 _ st s1 (jok_t (vs := xs) fun F2 H2 R S2 sm s2 _ => ⟨xs, sqt_mono s2.sub (sqt_mono sm h1), dpa_mono sm _ _ h2⟩)⟩⟩
theorem wk_nl (h : Ev K ρ S te (.nl ds) S1) : Wk K ρ S (iSeq K te) ds (fun _ => True) S1 := wk_list (ev_fr h)
theorem wk_mu {n : Nat} (h : Ev K ρ S te (.mu n) S1) (hd : S1[n]? = some ds) : Wk K ρ S (iSeq K te) ds (fun S' => S'[n]? = some ds) S1 := fun σ F H L E s R q => h σ F H L E s _ fun v F1 H1 st s1 r1 => by
  obtain ⟨a, rfl, ha⟩ := r1
  obtain ⟨f0, ws, xs, e1, e2, e3⟩ := s1.st n a ha
  refine ⟨a, rfl, .inl ⟨⟨ws, .inl (.inl e2)⟩, q F1 H1 _ st s1 (jok_l (vs := ws) fun F2 H2 R S2 sm s2 c => ?_)⟩⟩
  obtain ⟨_, ws', xs', k1, k2, k3⟩ := s2.st n a (by rw [List.getElem?_append_left (List.getElem?_eq_some_iff.mp ha).1]; exact ha)
  rw [c] at k1
  cases k1
  exact ⟨ws', .inl (.inl k2), k3⟩
def rngD (lo : Int) (n : Nat) : List D := (List.range n).map fun (i : Nat) => .int (lo + (i : Int))
theorem rngD_len {lo : Int} {n : Nat} : (rngD lo n).length = n := by simp [rngD]
theorem rngD_get {lo : Int} {n i : Nat} (h : i < n) : (rngD lo n)[i]? = some (.int (lo + (i : Int))) := by
  simp [rngD, h]
theorem jok_r {F : Hp} {L : List Addr} {lo : Int} {n : Nat} : JOk K F L (Itr lo n) (rngD lo n) (fun _ => True) where
  go := fun F2 H2 R S2 i sm s _ hi => by
    rw [rngD_len] at hi
    exact ⟨hi, fun x H' y => by
      obtain ⟨rfl, rfl⟩ := y
      exact ⟨F2, _, .refl _ _ _, s, rngD_get hi, .int _⟩⟩
  stop := fun F2 H2 R S2 sm s _ => by
    rw [rngD_len]
    exact Nat.le_refl n
theorem wk_r1 {n : Int} (h : EvD K ρ S tr [.int n] S1) (hn : -4611686018427387904 ≤ n ∧ n < 4611686018427387904) : Wk K ρ S (iRng1 tr) (rngD 0 n.toNat) (fun _ => True) S1 := fun σ F H L E s R q => h σ F H L E s _ fun vs F1 H1 st s1 r1 => by
  obtain ⟨v, rfl, a⟩ := dpa1 r1
  cases a
  exact ⟨n, rfl, by have := hn.1; omega, by have := hn.2; omega, q F1 H1 _ st s1 jok_r⟩
theorem wk_r2 {lo n : Int} (h : EvD K ρ S tr [.int lo, .int n] S1) (hl : -4611686018427387904 ≤ lo ∧ lo < 4611686018427387904) (hn : -4611686018427387904 ≤ n ∧ n < 4611686018427387904) : Wk K ρ S (iRng2 tr) (rngD lo (n - lo).toNat) (fun _ => True) S1 := fun σ F H L E s R q => h σ F H L E s _ fun vs F1 H1 st s1 r1 => by
  obtain ⟨v, w, rfl, a, b⟩ := dpa2 r1
  cases a; cases b
  exact ⟨lo, n, rfl, ⟨by omega, by omega, by omega, by omega⟩, q F1 H1 _ st s1 jok_r⟩

/-! ### targets -/
def Tg (K : PySem.W.Frag) (g : TG) (d : D) (b : Rho → Rho) : Prop := ∀ v σ F H L ρ (Q : L2.St → Hp → Prop), Same F H → EOk K F L σ ρ → Dp K F v d → (∀ σ', EOk K F L σ' (b ρ) → Q σ' H) → g v σ H Q
def TgS (K : PySem.W.Frag) (g : TGs) (ds : List D) (b : Rho → Rho) : Prop := ∀ vs σ F H L ρ (Q : L2.St → Hp → Prop), Same F H → EOk K F L σ ρ → DpAll K F vs ds → (∀ σ', EOk K F L σ' (b ρ) → Q σ' H) → g vs σ H Q
theorem tg_name {i : Nat} : Tg K (gName i) d (fun ρ => ρ.set i (.dt d)) := fun v σ F H L ρ Q _ E h q => q _ (E.set i (e := .dt d) ⟨v, rfl, h⟩)
theorem tgs_nil : TgS K gNil [] (fun ρ => ρ) := fun vs σ F H L ρ Q _ E h q => by
  cases h
  exact ⟨rfl, q σ E⟩
theorem tgs_cons {gs : TGs} {b c : Rho → Rho} (h1 : Tg K g d b) (h2 : TgS K gs ds c) : TgS K (gCons g gs) (d :: ds) (fun ρ => c (b ρ)) := fun vs σ F H L ρ Q sm E h q => by
  cases h with
  | cons a r => exact ⟨_, _, rfl, h1 _ σ F H L ρ _ sm E a fun σ' E' => h2 _ σ' F H L _ Q sm E' r q⟩
theorem tg_tup {gs : TGs} {n : Nat} {b : Rho → Rho} (h : TgS K gs ds b) (hn : ds.length = n) : Tg K (gTup K n gs) (.tuple ds) b := fun v σ F H L ρ Q sm E hd q => by
  cases hd with
  | tup h1 h2 => exact ⟨_, _, rfl, sqt_mono sm h1, by rw [dpa_len h2]; exact hn, h _ σ F H L ρ Q sm E h2 q⟩
def bN (i : Nat) (d : D) (ρ : Rho) : Rho := ρ.set i (.dt d)
def bT2 (i j : Nat) (d : D) (ρ : Rho) : Rho := match d with
  | .tuple [a, b] => (ρ.set i (.dt a)).set j (.dt b)
  | _ => ρ
def bT3 (i j k : Nat) (d : D) (ρ : Rho) : Rho := match d with
  | .tuple [a, b, c] => ((ρ.set i (.dt a)).set j (.dt b)).set k (.dt c)
  | _ => ρ
def isT2 : D → Bool
  | .tuple [_, _] => true
  | _ => false
theorem tg_bN {i : Nat} : Tg K (gName i) d (bN i d) := tg_name
theorem tg_bT2 {i j : Nat} (h : isT2 d = true) : Tg K (gTup K 2 (gCons (gName i) (gCons (gName j) gNil))) d (bT2 i j d) := by
  unfold isT2 at h
  split at h
  · rename_i a b
    show Tg K _ _ (fun ρ => (ρ.set i (.dt a)).set j (.dt b))
    exact tg_tup (tgs_cons tg_name (tgs_cons tg_name tgs_nil)) rfl
  · cases h
/-- a, b = e -/
theorem as_asgT {b : Rho → Rho} (h : Ev K ρ S te (.v d) S1) (hg : Tg K g d b) (k : A.nx (b ρ) S1) : As K n0 (tAsg te g) A ρ S := fun L0 F0 H0 σ F H L bs e s DE c =>
  h σ F H L e s _ fun v F1 H1 st s1 r1 => hg v σ F1 H1 L ρ _ s1.sub (e.mono0 st.fx) r1 fun σ' E' => c.nx σ' F1 H1 L _ S1 (bs.step st) E' s1 k

/-! ### for -/
def Loop (K : PySem.W.Frag) (n0 : Nat) (tb : TS) (bind : D → Rho → Rho) (A : AE) (chk : Sto → Prop) : List D → Rho → Sto → Prop
  | [], ρ, S => A.nx ρ S
  | d :: ds, ρ, S => As K n0 tb ⟨fun ρ' S' => chk S' ∧ Loop K n0 tb bind A chk ds ρ' S', A.rt, A.nx, fun ρ' S' => chk S' ∧ Loop K n0 tb bind A chk ds ρ' S'⟩ (bind d ρ) S
theorem as_for {bind : D → Rho → Rho} {tb : TS} (hw : Wk K ρ S wi ds chk S1) (hc : chk S1) (hg : ∀ d ∈ ds, Tg K g d (bind d)) (h : Loop K S1.length tb bind A chk ds ρ S1) : As K n0 (tFor wi g tb) A ρ S := by
  intro L0 F0 H0 σ F H L bs e s DE c
  refine hw σ F H L e s _ fun F1 H1 J st s1 hJ => ?_
  have bs1 := bs.step st
  -- what is asked behind the loop, from the loop's own beginning
  have up : ∀ {L' F' H'}, Bs S1.length L F1 H1 L' F' H' → Bs n0 L0 F0 H0 L' F' H' := fun {L' F' H'} b => ⟨bs.n, bs1.stp.trans' b.stp bs1.fr, by
    obtain ⟨R, rfl⟩ := b.pre
    obtain ⟨R0, rfl⟩ := bs.pre
    exact ⟨R0 ++ R, by rw [List.append_assoc]⟩, fun a ha => by
    rcases b.fr a ha with q | q
    · exact bs1.fr a q
    · exact .inr (bs1.stp.fresh q)⟩
  have c1 : Cov K S1.length A L F1 H1 DE := ⟨fun σ F H L ρ S b => c.nx σ F H L ρ S (up b), fun σ F H L ρ S b => c.bk σ F H L ρ S (up b), fun σ F H L ρ S b => c.ct σ F H L ρ S (up b), fun v F H L' r S m b s' r1 => c.rt v F H L' r S m (up b) s' (by
    cases r with
    | v d => exact r1
    | nl ds =>
      obtain ⟨a, vs, e, h0, h1, h2, h3⟩ := r1
      exact ⟨a, vs, e, bs1.stp.fresh h0, h1, h2, h3⟩
    | mu n => cases m)⟩
  have b0 : Bs S1.length L F1 H1 L F1 H1 := ⟨s1.len, .refl _ _ _, ⟨[], by simp⟩, fun a ha => .inl ha⟩
  refine ⟨fun i m σ' H' => m = ds.length - i ∧ i ≤ ds.length ∧ ∃ F' L' ρ' S', Bs S1.length L F1 H1 L' F' H' ∧ EOk K F' L' σ' ρ' ∧ SOk K F' H' L' S' ∧ chk S' ∧ Loop K S1.length tb bind A chk (ds.drop i) ρ' S', ⟨_, rfl, Nat.zero_le _, F1, L, ρ, S1, b0, e.mono0 st.fx, s1, hc, h⟩, ?_⟩
  rintro i m σ' H' ⟨rfl, hi, F', L', ρ', S', b', e', s', c', lp⟩
  obtain ⟨R, rfl⟩ := b'.pre
  by_cases hlt : i < ds.length
  · obtain ⟨go, yl⟩ := hJ.go F' H' R S' i b'.stp.fx s' c' hlt
    rw [List.drop_eq_getElem_cons hlt] at lp
    refine .inr ⟨go, fun σ2 H2 => ∃ F2 L2 ρ2 S2, Bs S1.length L F1 H1 L2 F2 H2 ∧ EOk K F2 L2 σ2 ρ2 ∧ SOk K F2 H2 L2 S2 ∧ chk S2 ∧ Loop K S1.length tb bind A chk (ds.drop (i + 1)) ρ2 S2, fun σ2 H2 n2 => ⟨_, by omega, rfl, hlt, n2⟩, fun x H2 y => ?_⟩
    obtain ⟨F3, d, st3, s3, hd, hx⟩ := yl x H2 y
    rw [List.getElem?_eq_getElem hlt] at hd
    cases hd
    refine hg _ (List.getElem_mem hlt) x σ' F3 H2 (L ++ R) ρ' _ s3.sub (e'.mono0 st3.fx) hx fun σ3 e3 => ?_
    exact lp L F1 H1 σ3 F3 H2 (L ++ R) (b'.step st3) e3 s3 _ ⟨fun σ F H L ρ S b e s x => ⟨F, L, ρ, S, b, e, s, x.1, x.2⟩, fun σ F H L ρ S b e s x => c1.nx σ F H L ρ S b e s x, fun σ F H L ρ S b e s x => ⟨F, L, ρ, S, b, e, s, x.1, x.2⟩, c1.rt⟩
  · have ei : i = ds.length := by omega
    subst ei
    rw [List.drop_length] at lp
    exact .inl ⟨hJ.stop F' H' R S' b'.stp.fx s' c', c1.nx σ' F' H' (L ++ R) ρ' S' b' e' s' lp⟩
/-- the loop by a word of the turn -/
theorem loop_inv {bind : D → Rho → Rho} {tb : TS} (I : Nat → Rho → Sto → Prop) : ∀ (ds : List D) (k : Nat) (ρ : Rho) (S : Sto), (∀ i d ρ S, ds[i]? = some d → I (k + i) ρ S → As K n0 tb ⟨fun ρ' S' => chk S' ∧ I (k + i + 1) ρ' S', A.rt, A.nx, fun ρ' S' => chk S' ∧ I (k + i + 1) ρ' S'⟩ (bind d ρ) S) → (∀ ρ S, I (k + ds.length) ρ S → A.nx ρ S) → I k ρ S → Loop K n0 tb bind A chk ds ρ S
  | [], k, ρ, S, _, hd, h => hd ρ S h
  | d :: ds, k, ρ, S, hs, hd, h => by
    have ih : ∀ ρ S, I (k + 1) ρ S → Loop K n0 tb bind A chk ds ρ S := fun ρ S h' => loop_inv I ds (k + 1) ρ S (fun i d ρ S hi hI => by
      have := hs (i + 1) d ρ S hi (by rw [← Nat.add_assoc, Nat.add_right_comm]; exact hI)
      rw [← Nat.add_assoc, Nat.add_right_comm k i 1] at this
      exact this) (fun ρ S hI => hd ρ S (by
        rw [List.length_cons, ← Nat.add_assoc, Nat.add_right_comm]
        exact hI)) h'
    exact (hs 0 d ρ S rfl h).mono (fun ρ S h => ⟨h.1, ih ρ S h.2⟩) (fun _ _ h => h) (fun _ _ h => h) (fun ρ S h => ⟨h.1, ih ρ S h.2⟩)

/-! ### while -/
theorem as_while {W : Nat → Rho → Sto → Prop} {tb : TS} (m0 : Nat) (h0 : W m0 ρ S) (hs : ∀ m ρ' S', S'.length = S.length → W m ρ' S' → ∃ b S2, EvT K ρ' S' t b S2 ∧ (b = true → As K S.length tb ⟨fun ρ2 S3 => ∃ m', m' < m ∧ S3.length = S.length ∧ W m' ρ2 S3, A.rt, A.nx, fun ρ2 S3 => ∃ m', m' < m ∧ S3.length = S.length ∧ W m' ρ2 S3⟩ ρ' S2) ∧ (b = false → A.nx ρ' S2)) : As K n0 (tWhile t tb) A ρ S := by
  intro L0 F0 H0 σ F H L bs e s DE c
  have up : ∀ {L' F' H'}, Bs S.length L F H L' F' H' → Bs n0 L0 F0 H0 L' F' H' := fun {L' F' H'} b => ⟨bs.n, bs.stp.trans' b.stp bs.fr, by
    obtain ⟨R, rfl⟩ := b.pre
    obtain ⟨R0, rfl⟩ := bs.pre
    exact ⟨R0 ++ R, by rw [List.append_assoc]⟩, fun a ha => by
    rcases b.fr a ha with q | q
    · exact bs.fr a q
    · exact .inr (bs.stp.fresh q)⟩
  have c1 : Cov K S.length A L F H DE := ⟨fun σ F H L ρ S b => c.nx σ F H L ρ S (up b), fun σ F H L ρ S b => c.bk σ F H L ρ S (up b), fun σ F H L ρ S b => c.ct σ F H L ρ S (up b), fun v F H L' r S m b s' r1 => c.rt v F H L' r S m (up b) s' (by
    cases r with
    | v d => exact r1
    | nl ds =>
      obtain ⟨a, vs, e, h0, h1, h2, h3⟩ := r1
      exact ⟨a, vs, e, bs.stp.fresh h0, h1, h2, h3⟩
    | mu n => cases m)⟩
  have b0 : Bs S.length L F H L F H := ⟨s.len, .refl _ _ _, ⟨[], by simp⟩, fun a ha => .inl ha⟩
  refine ⟨fun m σ' H' => ∃ F' L' ρ' S', Bs S.length L F H L' F' H' ∧ EOk K F' L' σ' ρ' ∧ SOk K F' H' L' S' ∧ S'.length = S.length ∧ W m ρ' S', ⟨m0, F, L, ρ, S, b0, e, s, rfl, h0⟩, ?_⟩
  rintro m σ' H' ⟨F', L', ρ', S', b', e', s', hl, w⟩
  obtain ⟨b, S2, ht, h1, h2⟩ := hs m ρ' S' hl w
  refine ht σ' F' H' L' e' s' _ fun F2 H2 st2 s2 => ?_
  cases b with
  | true =>
    rw [if_pos rfl]
    refine ⟨fun σ3 H3 => ∃ m', m' < m ∧ ∃ F' L' ρ' S', Bs S.length L F H L' F' H3 ∧ EOk K F' L' σ3 ρ' ∧ SOk K F' H3 L' S' ∧ S'.length = S.length ∧ W m' ρ' S', fun σ3 H3 h => h, ?_⟩
    exact h1 rfl L F H σ' F2 H2 L' (b'.step st2) (e'.mono0 st2.fx) s2 _ ⟨fun σ F H L ρ S b e s ⟨m', x, y, z⟩ => ⟨m', x, F, L, ρ, S, b, e, s, y, z⟩, fun σ F H L ρ S b e s x => c1.nx σ F H L ρ S b e s x, fun σ F H L ρ S b e s ⟨m', x, y, z⟩ => ⟨m', x, F, L, ρ, S, b, e, s, y, z⟩, c1.rt⟩
  | false =>
    rw [if_neg Bool.false_ne_true]
    exact c1.nx σ' F2 H2 L' ρ' S2 (b'.step st2) (e'.mono0 st2.fx) s2 (h2 rfl)

/-! ### comprehensions -/
/-- what [e for j in ds if t] gives, and the lists behind -/
def Lc (K : PySem.W.Frag) (ρ : Rho) (tt : TT) (te : TE) (bind : D → Rho → Rho) (chk : Sto → Prop) : List D → Sto → List D → Sto → Prop
  | [], S, out, S' => chk S ∧ out = [] ∧ S' = S
  | d :: ds, S, out, S' => chk S ∧ ∃ b S1, EvT K (bind d ρ) S tt b S1 ∧ ((b = true ∧ ∃ e S2 r out', Ev K (bind d ρ) S1 te r S2 ∧ RsLe r (.v e) ∧ Lc K ρ tt te bind chk ds S2 out' S' ∧ out = e :: out') ∨ (b = false ∧ Lc K ρ tt te bind chk ds S1 out S'))
def wipeR (ρ : Rho) : List Nat → Rho
  | [] => ρ
  | v :: vs => (wipeR ρ vs).set v .un
theorem wipe_ok {F : Hp} {L : List Addr} {σ : L2.St} (E : EOk K F L σ ρ) : ∀ vs : List Nat, EOk K F L (wipe σ vs) (wipeR ρ vs)
  | [] => E
  | v :: vs => (wipe_ok E vs).set v (e := .un) trivial
theorem lc_len {tt : TT} {bind : D → Rho → Rho} : ∀ {ds : List D} {S S' : Sto} {out : List D}, Lc K ρ tt te bind chk ds S out S' → out.length ≤ ds.length
  | [], S, S', out, ⟨_, h, _⟩ => by rw [h]; exact Nat.le_refl _
  | d :: ds, S, S', out, ⟨_, b, S1, _, h⟩ => by
    rcases h with ⟨_, e, S2, r, out', _, _, h, rfl⟩ | ⟨_, h⟩
    · have := lc_len h
      simp only [List.length_cons]
      omega
    · have := lc_len h
      simp only [List.length_cons]
      omega
theorem wipe_get (j : Nat) : ∀ (ws : List Nat) (τ : L2.St), (wipe τ ws)[j]? = if j ∈ ws ∧ j < τ.length then some none else τ[j]? := by
  intro ws
  induction ws with
  | nil => intro τ; simp [wipe]
  | cons w ws ih =>
    intro τ
    unfold wipe
    by_cases hw : w = j
    · subst hw
      by_cases hl : w < τ.length
      · rw [List.getElem?_set_self (by rw [wipe_length]; exact hl)]
        simp [hl]
      · rw [List.getElem?_eq_none (by simp [wipe_length]; omega), List.getElem?_eq_none (by omega)]
        simp [hl]
    · rw [List.getElem?_set_ne hw, ih]
      simp [Ne.symm hw]
theorem wipe_wipe (σ : L2.St) (vs : List Nat) : wipe (wipe σ vs) vs = wipe σ vs := by
  apply List.ext_getElem?
  intro i
  rw [wipe_get, wipe_length, wipe_get]
  by_cases h : i ∈ vs ∧ i < σ.length <;> simp [h]
/-- a target that stores only in the slots vs -/
def TgW (g : TG) (vs : List Nat) : Prop := ∀ v σ H (Q Q' : L2.St → Hp → Prop), g v σ H Q → (∀ σ2 H2, Q σ2 H2 → wipe σ2 vs = wipe σ vs → Q' σ2 H2) → g v σ H Q'
def TgsW (g : TGs) (vs : List Nat) : Prop := ∀ v σ H (Q Q' : L2.St → Hp → Prop), g v σ H Q → (∀ σ2 H2, Q σ2 H2 → wipe σ2 vs = wipe σ vs → Q' σ2 H2) → g v σ H Q'
theorem tgw_name {i : Nat} {vs : List Nat} (hi : i ∈ vs) : TgW (gName i) vs := fun v σ H Q Q' q h => h _ _ q (by
  apply List.ext_getElem?
  intro j
  rw [wipe_get, wipe_get, List.length_set]
  by_cases h : j ∈ vs ∧ j < σ.length
  · simp [h]
  · rw [if_neg h, if_neg h]
    by_cases hij : i = j
    · subst hij
      have : ¬ i < σ.length := fun z => h ⟨hi, z⟩
      rw [List.getElem?_eq_none (by simp; omega), List.getElem?_eq_none (by omega)]
    · rw [List.getElem?_set_ne hij])
theorem tgsw_nil {vs : List Nat} : TgsW gNil vs := fun vss σ H Q Q' q h => ⟨q.1, h _ _ q.2 rfl⟩
theorem tgsw_cons {gs : TGs} {vs : List Nat} (h1 : TgW g vs) (h2 : TgsW gs vs) : TgsW (gCons g gs) vs := fun vss σ H Q Q' q h => by
  obtain ⟨v, r, rfl, q⟩ := q
  exact ⟨v, r, rfl, h1 v σ H _ _ q fun σ2 H2 q2 e => h2 r σ2 H2 _ _ q2 fun σ3 H3 q3 e3 => h _ _ q3 (e3.trans e)⟩
theorem tgw_tup {gs : TGs} {vs : List Nat} {n : Nat} (h1 : TgsW gs vs) : TgW (gTup K n gs) vs := fun v σ H Q Q' q h => by
  obtain ⟨a, xs, rfl, hs, hl, q⟩ := q
  exact ⟨a, xs, rfl, hs, hl, h1 xs σ H _ _ q h⟩
theorem ev_lc {tt : TT} {bind : D → Rho → Rho} {vs : List Nat} {out : List D} (hw : Wk K ρ S wi ds chk S1) (hg : ∀ d ∈ ds, Tg K g d (bind d)) (hv : TgW g vs) (hl : ds.length ≤ 100000) (h : Lc K (wipeR ρ vs) tt te bind chk ds S1 out S2) : Ev K ρ S (tLc wi g tt te vs) (.nl out) S2 := by
  intro σ F H L e s Q q
  refine hw σ F H L e s _ fun F1 H1 J st1 s1 hJ Da hDa => ?_
  have hF1 : F1 Da = none := by
    cases z : F1 Da with
    | none => rfl
    | some o => rw [s1.sub _ _ z] at hDa; cases hDa
  have hDL : ∀ {n : Nat} {a : Addr}, L[n]? = some a → a ≠ Da := fun {n a} hn z => by
    obtain ⟨_, _, _, _, e2, _⟩ := s1.st n a hn
    rw [z, hDa] at e2
    cases e2
  have hDL' : Da ∉ L := fun m => by
    obtain ⟨n, hn⟩ := List.getElem?_of_mem m
    exact hDL hn rfl
  -- storing to Da
  have put : ∀ {F' H' : Hp} {S' : Sto} {xs : List V}, Stp L F1 H1 F' H' → SOk K F' H' L S' → F' Da = none → Stp L F1 H1 F' (upd H' Da (.lst xs)) ∧ SOk K F' (upd H' Da (.lst xs)) L S' := fun {F' H' S' xs} st s' hF => by
    refine ⟨⟨st.fx, fun a o ea na => ?_, fun a ha => ?_, st.nof⟩, ⟨fun a o ea => ?_, s'.len, s'.nd, fun n a ea => ?_⟩⟩
    · rw [upd_ne (ne_of_none ea hDa)]
      exact st.keep a o ea na
    · by_cases z : a = Da
      · rw [z, upd_same]; exact nofun
      · rw [upd_ne z]; exact st.live a ha
    · rw [upd_ne (ne_of_none ea hF)]
      exact s'.sub _ _ ea
    · obtain ⟨f0, ws, es, e1, e2, e3⟩ := s'.st n a ea
      rw [upd_ne (hDL ea)]
      exact ⟨f0, ws, es, e1, e2, e3⟩
  obtain ⟨st0, s0⟩ := put (xs := []) (.refl _ _ _) s1 hF1
  refine ⟨fun i m H' => m = ds.length - i ∧ i ≤ ds.length ∧ ∃ F' S' xs acc rest, Stp L F1 H1 F' H' ∧ SOk K F' H' L S' ∧ F' Da = none ∧ H' Da = some (.lst xs) ∧ DpAll K F' xs acc ∧ acc.length ≤ i ∧ acc ++ rest = out ∧ Lc K (wipeR ρ vs) tt te bind chk (ds.drop i) S' rest S2, ⟨_, rfl, Nat.zero_le _, F1, S1, [], [], out, st0, s0, hF1, upd_same, .nil, Nat.le_refl _, rfl, h⟩, ?_⟩
  rintro i m H' ⟨rfl, hi, F', S', xs, acc, rest, st', s', hF', hD', hx, ha, eo, lc⟩
  have s'' : SOk K F' H' (L ++ []) S' := by rw [List.append_nil]; exact s'
  by_cases hlt : i < ds.length
  · rw [List.drop_eq_getElem_cons hlt] at lc
    obtain ⟨ck, b, S3, ht, lc⟩ := lc
    obtain ⟨go, yl⟩ := hJ.go F' H' [] S' i st'.fx s'' ck hlt
    refine .inr ⟨go, fun H' => i + 1 ≤ ds.length ∧ ∃ F' S' xs acc rest, Stp L F1 H1 F' H' ∧ SOk K F' H' L S' ∧ F' Da = none ∧ H' Da = some (.lst xs) ∧ DpAll K F' xs acc ∧ acc.length ≤ i + 1 ∧ acc ++ rest = out ∧ Lc K (wipeR ρ vs) tt te bind chk (ds.drop (i + 1)) S' rest S2, fun H'' n2 => ⟨_, by omega, rfl, n2⟩, fun x H2 y => ?_⟩
    obtain ⟨F3, d, st3, s3, hd, hxd⟩ := yl x H2 y
    rw [List.append_nil] at st3 s3
    rw [List.getElem?_eq_getElem hlt] at hd
    cases hd
    have e3 : EOk K F3 L (wipe σ vs) (wipeR ρ vs) := wipe_ok (e.mono0 ((st1.trans st').trans st3).fx) vs
    refine hv x _ _ _ _ (hg _ (List.getElem_mem hlt) x _ F3 H2 L _ (fun σ2 H2' => H2' = H2 ∧ EOk K F3 L σ2 (bind ds[i] (wipeR ρ vs))) s3.sub e3 hxd fun σ4 e4 => ⟨rfl, e4⟩) fun σ2 H2' ⟨eH, e4⟩ ew => ?_
    subst eH
    rw [wipe_wipe] at ew
    refine ⟨ew, ht σ2 F3 H2' L e4 s3 _ fun F4 H4 st4 s4 => ?_⟩
    have keepD : ∀ {F5 H5}, Stp L F3 H2' F5 H5 → F5 Da = none ∧ H5 Da = some (.lst xs) ∧ DpAll K F5 xs acc := fun {F5 H5} st5 => by
      have h1 : H2' Da = some (.lst xs) := st3.keep _ _ hD' hDL'
      have f1 : F3 Da = none := st3.nof _ (by rw [hD']; exact nofun) hF'
      exact ⟨st5.nof _ (by rw [h1]; exact nofun) f1, st5.keep _ _ h1 hDL', dpa_mono (st3.fx.trans st5.fx) _ _ hx⟩
    have hmem := lc
    rcases lc with ⟨rfl, e, S4, r, out', he, rl, lc, rfl⟩ | ⟨rfl, lc⟩
    · rw [if_pos rfl]
      refine (ev_dt he rl) σ2 F4 H4 L (e4.mono0 st4.fx) s4 _ fun v F5 H5 st5 s5 r5 => ?_
      obtain ⟨k1, k2, k3⟩ := keepD (st4.trans st5)
      obtain ⟨p1, p2⟩ := put (xs := xs ++ [v]) (((st'.trans st3).trans st4).trans st5) s5 k1
      have hlx : xs.length < sizeLine := by rw [dpa_len hx]; exact small5' (by omega)
      refine ⟨xs, k2, hlx, hlt, F5, S4, _, acc ++ [e], out', p1, p2, k1, upd_same, dpa_app k3 (.cons r5 .nil), by simp; omega, by rw [← eo]; simp, lc⟩
    · rw [if_neg Bool.false_ne_true]
      obtain ⟨k1, k2, k3⟩ := keepD st4
      exact ⟨hlt, F4, S3, xs, acc, rest, (st'.trans st3).trans st4, s4, k1, k2, k3, by omega, eo, lc⟩
  · have ei : i = ds.length := by omega
    subst ei
    rw [List.drop_length] at lc
    obtain ⟨ck, rfl, rfl⟩ := lc
    rw [List.append_nil] at eo
    subst eo
    exact .inl ⟨hJ.stop F' H' [] S2 st'.fx s'' ck, q _ F' H' (st1.trans st') s' ⟨Da, xs, rfl, st1.fresh hDa, hF', hD', hx⟩⟩
/-- elements that change no list -/
theorem lc_pure {tt : TT} {bind : D → Rho → Rho} (hc : chk S) (p : D → Bool) (f : D → D) : ∀ {ds : List D}, (∀ d ∈ ds, EvT K (bind d ρ) S tt (p d) S ∧ (p d = true → ∃ r, Ev K (bind d ρ) S te r S ∧ RsLe r (.v (f d)))) → Lc K ρ tt te bind chk ds S ((ds.filter p).map f) S
  | [], _ => ⟨hc, rfl, rfl⟩
  | d :: ds, h => by
    have ih := lc_pure (ds := ds) hc p f fun d hd => h d (List.mem_cons_of_mem _ hd)
    obtain ⟨h1, h2⟩ := h d List.mem_cons_self
    refine ⟨hc, p d, S, h1, ?_⟩
    cases hp : p d with
    | true =>
      obtain ⟨r, h3, h4⟩ := h2 hp
      exact .inl ⟨rfl, f d, S, r, _, h3, h4, ih, by simp [List.filter_cons, hp]⟩
    | false => exact .inr ⟨rfl, by simpa [List.filter_cons, hp] using ih⟩
theorem et_yes : EvT K ρ S tYes true S := fun σ F H L e s Q q => q F H (.refl _ _ _) s
theorem lc_map {bind : D → Rho → Rho} (hc : chk S) (f : D → D) {ds : List D} (h : ∀ d ∈ ds, ∃ r, Ev K (bind d ρ) S te r S ∧ RsLe r (.v (f d))) : Lc K ρ tYes te bind chk ds S (ds.map f) S := by
  have := lc_pure (tt := tYes) (te := te) (bind := bind) (ρ := ρ) (K := K) hc (fun _ => true) f (ds := ds) fun d hd => ⟨et_yes, fun _ => h d hd⟩
  rw [List.filter_eq_self.mpr (by simp)] at this
  exact this

/-! ### views of a state -/
def View (K : PySem.W.Frag) (n0 : Nat) (ρ : Rho) (S : Sto) (ρ' : Rho) (S' : Sto) : Prop := ∀ L0 F0 H0 σ F H L, Bs n0 L0 F0 H0 L F H → EOk K F L σ ρ → SOk K F H L S → ∃ F' L', Bs n0 L0 F0 H0 L' F' H ∧ EOk K F' L' σ ρ' ∧ SOk K F' H L' S'
theorem as_view {ρ' : Rho} {S' : Sto} (v : View K n0 ρ S ρ' S') (h : As K n0 ts A ρ' S') : As K n0 ts A ρ S := fun L0 F0 H0 σ F H L b e s DE c => by
  obtain ⟨F', L', b', e', s'⟩ := v L0 F0 H0 σ F H L b e s
  exact h L0 F0 H0 σ F' H L' b' e' s' DE c
theorem as_post (h : As K n0 ts { A with nx := fun ρ S => ∃ ρ' S', View K n0 ρ S ρ' S' ∧ A.nx ρ' S' } ρ S) : As K n0 ts A ρ S := fun L0 F0 H0 σ F H L b e s DE c =>
  h L0 F0 H0 σ F H L b e s DE ⟨fun σ F H L ρ S b e s ⟨ρ', S', v, x⟩ => by
    obtain ⟨F', L', b', e', s'⟩ := v L0 F0 H0 σ F H L b e s
    exact c.nx σ F' H L' ρ' S' b' e' s' x, c.bk, c.ct, c.rt⟩
theorem View.refl : View K n0 ρ S ρ S := fun L0 F0 H0 σ F H L b e s => ⟨F, L, b, e, s⟩
theorem View.trans {ρ1 ρ2 : Rho} {S1 S2 : Sto} (a : View K n0 ρ S ρ1 S1) (b : View K n0 ρ1 S1 ρ2 S2) : View K n0 ρ S ρ2 S2 := fun L0 F0 H0 σ F H L bs e s => by
  obtain ⟨F', L', b', e', s'⟩ := a L0 F0 H0 σ F H L bs e s
  exact b L0 F0 H0 σ F' H L' b' e' s'
/-- a name forgotten -/
theorem view_un (i : Nat) : View K n0 ρ S (ρ.set i .un) S := fun L0 F0 H0 σ F H L b e s => ⟨F, L, b, by
  intro j en q
  by_cases hij : i = j
  · subst hij
    have hl := (List.getElem?_eq_some_iff.mp q).1
    rw [List.length_set] at hl
    obtain ⟨o, ho, _⟩ := e i _ (List.getElem?_eq_getElem hl)
    rw [List.getElem?_set_self hl] at q
    cases q
    exact ⟨o, ho, trivial⟩
  · rw [List.getElem?_set_ne hij] at q
    exact e j en q, s⟩
/-- the last written list becomes data for ever -/
def frz1 (n : Nat) (ds : List D) : En → En
  | .mu m => if m = n then .dt (.list ds) else .mu m
  | e => e
theorem view_frz (hn : n0 ≤ S.length) : View K n0 ρ (S ++ [ds]) (ρ.map (frz1 S.length ds)) S := fun L0 F0 H0 σ F H L b e s => by
  have hlen := s.len
  rw [List.length_append, List.length_singleton] at hlen
  have hl : S.length < L.length := by omega
  obtain ⟨a, ha⟩ : ∃ a, L[S.length]? = some a := ⟨_, List.getElem?_eq_getElem hl⟩
  obtain ⟨f0, ws, xs, e1, e2, e3⟩ := s.st _ _ ha
  rw [List.getElem?_append_right (Nat.le_refl _), Nat.sub_self] at e1
  cases e1
  have hLd : L = L.dropLast ++ [a] := by
    have hne : L ≠ [] := fun z => by rw [z] at hl; simp at hl
    have : L.getLast hne = a := by
      rw [List.getLast_eq_getElem]
      have := (List.getElem?_eq_some_iff.mp ha).2
      rw [← this]
      congr 1
      omega
    rw [← this]
    exact (List.dropLast_concat_getLast hne).symm
  have sm : Same F (upd F a (.lst ws)) := fun x o ex => by
    rw [upd_ne (ne_of_none ex f0)]
    exact ex
  have hDl : L.dropLast.length = S.length := by simp; omega
  have get : ∀ {n : Nat} {x : Addr}, L.dropLast[n]? = some x → L[n]? = some x ∧ n < S.length ∧ x ≠ a := fun {n x} hx => by
    have hlt : n < L.dropLast.length := (List.getElem?_eq_some_iff.mp hx).1
    have h1 : L[n]? = some x := by
      rw [hLd, List.getElem?_append_left hlt]
      exact hx
    refine ⟨h1, by omega, fun z => ?_⟩
    subst z
    have h2 := (List.getElem?_eq_some_iff.mp h1).2
    have h3 := (List.getElem?_eq_some_iff.mp ha).2
    have := (List.getElem_inj s.nd).mp (h2.trans h3.symm)
    omega
  have hn0 := b.n
  have b' : Bs n0 L0 F0 H0 L.dropLast (upd F a (.lst ws)) H := by
    refine ⟨b.n, ⟨b.stp.fx.trans sm, b.stp.keep, b.stp.live, fun x hx h0 => ?_⟩, ?_, fun x hx => b.fr x (by rw [hLd]; exact List.mem_append_left _ hx)⟩
    · have : x ≠ a := fun z => by
        subst z
        rcases b.fr x (List.mem_of_getElem? ha) with q | q
        · obtain ⟨R, hR⟩ := b.pre
          obtain ⟨m, hm⟩ := List.getElem?_of_mem q
          have hml : m < L0.length := (List.getElem?_eq_some_iff.mp hm).1
          have hm' : L[m]? = some x := by rw [hR, List.getElem?_append_left hml]; exact hm
          have h2 := (List.getElem?_eq_some_iff.mp hm').2
          have h3 := (List.getElem?_eq_some_iff.mp ha).2
          have := (List.getElem_inj s.nd).mp (h2.trans h3.symm)
          omega
        · exact hx q
      rw [upd_ne this]
      exact b.stp.nof x hx h0
    · obtain ⟨R, hR⟩ := b.pre
      refine ⟨R.dropLast, ?_⟩
      rw [hR]
      apply List.dropLast_append_of_ne_nil
      intro z
      subst z
      rw [List.append_nil] at hR
      rw [hR] at hl
      omega
  refine ⟨upd F a (.lst ws), L.dropLast, b', fun i en q => ?_, ⟨fun x o ex => ?_, hDl, ?_, fun n x hx => ?_⟩⟩
  · rw [List.getElem?_map] at q
    cases qe : ρ[i]? with
    | none => rw [qe] at q; cases q
    | some e0 =>
      rw [qe] at q
      have q' : frz1 S.length ds e0 = en := Option.some.inj q
      subst q'
      obtain ⟨o, h1, h2⟩ := e i e0 qe
      refine ⟨o, h1, ?_⟩
      cases e0 with
      | un => trivial
      | dt d =>
        obtain ⟨v, h3, h4⟩ := h2
        exact ⟨v, h3, dp_mono sm _ _ h4⟩
      | mu m =>
        obtain ⟨x, h3, h4⟩ := h2
        show EnOk K (upd F a (.lst ws)) L.dropLast (if m = S.length then .dt (.list ds) else .mu m) o
        by_cases hm : m = S.length
        · rw [if_pos hm]
          rw [hm, ha] at h4
          cases h4
          exact ⟨_, h3, .lst (.inl (.inl upd_same)) (dpa_mono sm _ _ e3)⟩
        · rw [if_neg hm]
          refine ⟨x, h3, ?_⟩
          have hml := (List.getElem?_eq_some_iff.mp h4).1
          rw [hLd, List.getElem?_append_left (by omega)] at h4
          exact h4
  · by_cases z : x = a
    · rw [z, upd_same] at ex
      cases ex
      rw [z]
      exact e2
    · rw [upd_ne z] at ex
      exact s.sub _ _ ex
  · have := s.nd
    rw [hLd, List.nodup_append] at this
    exact this.1
  · obtain ⟨h1, h2, h3⟩ := get hx
    obtain ⟨g0, vs', es', k1, k2, k3⟩ := s.st n x h1
    rw [List.getElem?_append_left h2] at k1
    rw [upd_ne h3]
    exact ⟨g0, vs', es', k1, k2, dpa_mono sm _ _ k3⟩
end

/-! ### the def's rule -/
def ρ0 (args : Rho) (n : Nat) : Rho := args ++ List.replicate n .un
theorem fun_okA {P : Program} {w : World} {K : PySem.W.Frag} {mg : Str → Option Value} {base : Heap} {x qual : Str} {st : Stmt} {f : Addr} {fd : FuncData} {N ps : List Str} {k n m : Nat} {G : Rho → Sto → Rs → Sto → Prop} (F : Fun K x qual st f fd) (S : FnScope N ps (defScope st)) (hn : ps.length = n) (hm : N.length = n + m)
    (hG : ∀ ρ S r S', G ρ S r S' → S'.length = S.length ∧ notMu r = true)
    (hbody : ∀ (cdv : Value) (A : Around) (outer : List Env) (s : Shared) (H : Hp) (E : XK), Room k (A.deeper (envOfC qual (defScope st) s.heap.objs.size f cdv)) →
      ∃ t, PSs (cxOf CX0 P w K mg base N qual (defScope st) f cdv A outer s H E).nox (defBody st) t ∧ ∀ ρ S r S', ρ.length = n → G ρ S r S' → As K S.length t ⟨fun _ S2 => RsLe (.v .none) r ∧ S2.take S.length = S', fun r2 S2 => RsLe r2 r ∧ S2.take S.length = S', fun _ _ => False, fun _ _ => False⟩ (ρ0 ρ m) S) :
    FnOk P w K mg base CX0 (k + 1) f fd ps (spA K n G) := by
  refine F.ok S (fun vs H Q E h => h.1.trans hn.symm) (fun cdv A outer s H vs Q E hr h => ?_)
  obtain ⟨t, ht, ha⟩ := hbody cdv A outer s H E hr
  refine ⟨t, ht, ?_⟩
  obtain ⟨hl, F, L, ρ, S, r, S', e, hρ, so, g, q⟩ := h
  obtain ⟨hS, hr'⟩ := hG ρ S r S' g
  have rest : ∀ {L' F' H'} {v : V} {r2 : Rs} {S2 : Sto}, Bs S.length L F H L' F' H' → SOk K F' H' L' S2 → RsOk K L F' H H' v r2 → RsLe r2 r → S2.take S.length = S' → Q v H' := fun {L' F' H' v r2 S2} b s2 rr rl es => by
    have so' : SOk K F' H' L S' := by
      obtain ⟨R, rfl⟩ := b.pre
      refine ⟨s2.sub, by rw [so.len, hS], (List.nodup_append.mp s2.nd).1, fun n a hn => ?_⟩
      have hnl := (List.getElem?_eq_some_iff.mp hn).1
      obtain ⟨g0, ws, xs, e1, e2, e3⟩ := s2.st n a (by rw [List.getElem?_append_left hnl]; exact hn)
      refine ⟨g0, ws, xs, ?_, e2, e3⟩
      rw [← es, List.getElem?_take, if_pos (by rw [← so.len]; exact hnl)]
      exact e1
    rcases rl with rfl | ⟨ds, rfl, rfl⟩
    · exact q v F' H' b.stp so' rr
    · obtain ⟨a, vs, rfl, h0, hf, hh, hd⟩ := rr
      obtain ⟨x1, x2, x3⟩ := freeze b.stp so so' h0 hf hh hd
      exact q _ _ _ x1 x2 x3
  refine ha ρ S r S' hρ g L F H (L2.start N vs) F H L ⟨so.len, .refl _ _ _, ⟨[], by simp⟩, fun a h => .inl h⟩ ?_ so _ ⟨fun σ F' H' L' ρ' S2 b e s h => rest (r2 := .v .none) b s (show Dp K F' .non .none from .non) h.1 h.2, fun _ _ _ _ _ _ _ _ _ h => h.elim, fun _ _ _ _ _ _ _ _ _ h => h.elim, fun v F' H' L' r2 S2 m b s rr h => rest (r2 := r2) b s rr h.1 h.2⟩
  intro i en hi
  unfold ρ0 at hi
  unfold L2.start
  have hlen : (vs.map some).length = n := by simp [hl]
  rw [List.getElem?_append] at hi ⊢
  rw [hlen]
  rw [hρ] at hi
  split at hi
  · rename_i hlt
    rw [if_pos hlt]
    exact e i en hi
  · rename_i hlt
    rw [if_neg hlt]
    rw [hl, hm, Nat.add_sub_cancel_left]
    rw [List.getElem?_replicate] at hi ⊢
    split at hi
    · rename_i h2
      rw [if_pos h2]
      cases hi
      exact ⟨none, rfl, trivial⟩
    · cases hi
end DL
end

section
set_option Elab.async false
set_option linter.all false
set_option maxRecDepth 100000
set_option maxHeartbeats 4000000
namespace DL
open PySem PySem.Spec PyProof.Rows L2

theorem fn_never {P : Program} {w : World} {K : PySem.W.Frag} {mg : Str → Option Value} {base : Heap} {f : Addr} {fd : FuncData} {ps : List Str} {k n : Nat} {G : Rho → Sto → Rs → Sto → Prop} (h : ∀ ρ S r S', G ρ S r S' → False) : FnOk P w K mg base CX0 k f fd ps (spA K n G) :=
  ⟨fun vs H Q E q => by
    obtain ⟨_, _, _, _, _, _, _, _, _, _, g, _⟩ := q
    exact (h _ _ _ _ g).elim, fun A outer s H args us vs Q E hr he hb hv q => by
    obtain ⟨_, _, _, _, _, _, _, _, _, _, g, _⟩ := q
    exact (h _ _ _ _ g).elim⟩
theorem dpa_ints {K : PySem.W.Frag} {H : Hp} : ∀ ns : List Int, DpAll K H (ns.map V.int) (ns.map PyData.int)
  | [] => .nil
  | n :: ns => .cons (.int n) (dpa_ints ns)
theorem law_script {K : PySem.W.Frag} {G : Rho → Sto → Rs → Sto → Prop} {H : Hp} {a : Addr} {ns : List Int} {E : XK} (hS : SqL K H a (ns.map V.int)) (g : G [.dt (.list (ns.map PyData.int))] [] (.v (.bool true)) []) : spA K 1 G [.ref a] H (fun v _ => v = .bl true) E :=
  ⟨rfl, H, [], _, [], .v (.bool true), [], fun i e h => by
    cases i with
    | zero =>
      cases h
      exact ⟨_, rfl, _, rfl, .lst hS (dpa_ints ns)⟩
    | succ i => simp at h, rfl, ⟨Same.refl _, rfl, .nil, fun n a e => by simp at e⟩, g, fun v F' H' st s' r => by
    have r' : Dp K F' v (.bool true) := r
    cases r'
    rfl⟩
/-! sorted of a list of pairs of ints, wherever the pairs stand -/
def rSortedPS (K : PySem.W.Frag) : List V → Hp → VK → Prop := fun vs H Q => ∃ (a : Addr) (xs : List V) (ps : List (Int × Int)) (R : V → Int × Int → Prop), vs = [V.ref a] ∧ SqL K H a xs ∧ Paired R xs ps ∧ (∀ x p, R x p → ∃ t, x = V.ref t ∧ SqT K H t [.int p.1, .int p.2]) ∧
  ∀ ys qs p, Paired R ys qs → qs.Perm ps → qs.Pairwise (fun x y => x.1 < y.1 ∨ (x.1 = y.1 ∧ x.2 ≤ y.2)) → H p = none → Q (.ref p) (upd H p (.lst ys))
theorem paired_map {α β : Type} {R : α → β → Prop} {k : α → β} : ∀ {xs : List α}, (∀ x ∈ xs, R x (k x)) → Paired R xs (xs.map k)
  | [], _ => .nil
  | x :: xs, h => .cons (h x List.mem_cons_self) (paired_map fun y hy => h y (List.mem_cons_of_mem _ hy))
section
variable {X : Cx}
theorem cr_sortedPS : CallR X (.builtin "sorted") (rSortedPS X.K) := by
  intro pins s σ H vs us Q I r h
  obtain ⟨a, xs, ps, R, rfl, hs, hR, hRt, q⟩ := h
  have hx : Paired (fun x (p : Int × Int) => ∃ t, x = V.ref t ∧ SqT X.K H t [.int p.1, .int p.2]) xs ps := L2.Paired.mapP hR hRt
  obtain ⟨its, rv, hl, hz⟩ := I.list hs
  obtain ⟨u, rfl, ru⟩ := vals1 r
  obtain rfl : u = Value.ref a := ru
  have ex : ∀ x ∈ xs, ∃ t p, x = V.ref t ∧ SqT X.K H t [.int p.1, .int (p : Int × Int).2] := by
    intro x m
    clear rv hl hz hs q hR
    induction hx with
    | nil => cases m
    | cons h1 h2 ih =>
      rcases List.mem_cons.mp m with e | m
      · subst e
        obtain ⟨t, h3, h4⟩ := h1
        exact ⟨t, _, h3, h4⟩
      · exact ih m
  obtain ⟨e1, e2⟩ := refs_back rv fun x m => by
    obtain ⟨t, _, e, _⟩ := ex x m
    exact ⟨t, e⟩
  -- the pair of a value
  let kk : V → Int × Int := fun x => open Classical in if h : ∃ t p, x = V.ref t ∧ SqT X.K H t [.int p.1, .int (p : Int × Int).2] then h.choose_spec.choose else (0, 0)
  have kspec : ∀ x ∈ xs, ∃ t, x = V.ref t ∧ SqT X.K H t [.int (kk x).1, .int (kk x).2] := fun x m => by
    have h := ex x m
    have e : kk x = h.choose_spec.choose := by
      show (open Classical in if h : ∃ t p, x = V.ref t ∧ SqT X.K H t [.int p.1, .int (p : Int × Int).2] then h.choose_spec.choose else (0, 0)) = _
      rw [dif_pos h]
    rw [e]
    exact ⟨h.choose, h.choose_spec.choose_spec⟩
  have kps : ps = xs.map kk := by
    clear rv hl hz hs q e1 e2 hR
    induction hx with
    | nil => rfl
    | @cons x p xs ps h1 h2 ih =>
      rw [List.map_cons, ih (fun y hy => ex y (List.mem_cons_of_mem _ hy)) (fun y hy => kspec y (List.mem_cons_of_mem _ hy))]
      congr 1
      obtain ⟨t, e, h3⟩ := h1
      obtain ⟨t', e', h4⟩ := kspec x List.mem_cons_self
      rw [e] at e'
      cases e'
      have := I.tuple_inj h3 h4
      injection this with a b
      injection b with b c
      injection a with a
      injection b with b
      exact Prod.ext a b
  have kR : ∀ x ∈ xs, R x (kk x) := by
    rw [kps] at hR
    clear rv hl hz hs q e1 e2 hx kps ex kspec
    intro x m
    revert hR
    induction xs with
    | nil => cases m
    | cons y ys ih =>
      intro hR
      cases hR with
      | cons h1 h2 =>
        rcases List.mem_cons.mp m with e | m
        · rw [e]; exact h1
        · exact ih m h2
  refine SrtO.sorted_pairsO (k := fun u => kk (backV u)) hl.isList (by rw [← rv.length]; exact hz) (fun v hv => ?_) fun h' d out h1 h2 kp hd hn => ?_
  · obtain ⟨t, rfl⟩ := e2 v hv
    have hm : V.ref t ∈ xs := by rw [e1]; exact List.mem_map.mpr ⟨_, hv, rfl⟩
    obtain ⟨t', e, ht⟩ := kspec _ hm
    cases e
    obtain ⟨its2, r2, ⟨o, ho, hc, n, hd⟩, _⟩ := I.tuple ht
    obtain ⟨u1, u2, rfl, ri, rj⟩ := vals2 r2
    obtain ⟨t1, rfl⟩ := ri
    obtain ⟨t2, rfl⟩ := rj
    exact ⟨t, o, t1, t2, n, rfl, ho, hc, hd⟩
  · have h3 : ∀ u ∈ out, ∃ a, u = Value.ref a := fun u hu => e2 u (h2.perm.mem_iff.mp hu)
    obtain ⟨n, hn⟩ := hn
    have hperm : (out.map backV).Perm xs := by
      rw [e1]
      exact h2.perm.map backV
    refine ⟨.ref d, upd H d (.lst (out.map backV)), I.laid (t' := s.toks) kp hd ⟨?_, out, n, vals_back h3, hn⟩, rfl, ?_⟩
    · rw [hperm.length_eq]
      exact hz
    · refine q (out.map backV) ((out.map backV).map kk) d (paired_map fun x hx => kR x (hperm.mem_iff.mp hx)) ?_ ?_ (I.hok.fresh hd)
      · rw [kps]
        exact hperm.map kk
      · rw [List.map_map]
        refine List.pairwise_map.mpr (h1.imp fun {v u} hvu => ?_)
        have := SrtO.lexB_no.mp hvu
        show (kk (backV v)).1 < (kk (backV u)).1 ∨ _
        simp only [Function.comp]
        omega
end
def encP (p : Int × Int) : D := .tuple [.int p.1, .int p.2]
def lexP (x y : Int × Int) : Prop := x.1 < y.1 ∨ (x.1 = y.1 ∧ x.2 ≤ y.2)
section
variable {K : PySem.W.Frag} {ρ : Rho} {S S1 S2 S3 : Sto} {ta tb tc te : TE} {t u : TT} {tr : TA} {d e f : D} {r r1 r2 : Rs} {ds es as bs : List D}
theorem dpa_pairs {F : Hp} : ∀ {xs : List V} {ps : List (Int × Int)}, DpAll K F xs (ps.map encP) → Paired (fun x (p : Int × Int) => ∃ t, x = V.ref t ∧ SqT K F t [.int p.1, .int p.2]) xs ps
  | _, [], .nil => .nil
  | _, p :: ps, .cons h1 h2 => .cons (by
      have h1' : Dp K F _ (.tuple [.int p.1, .int p.2]) := h1
      cases h1' with
      | tup k1 k2 =>
        obtain ⟨v, w, rfl, a, b⟩ := dpa2 k2
        cases a; cases b
        exact ⟨_, rfl, k1⟩) (dpa_pairs h2)
theorem pairs_dpa {F : Hp} : ∀ {xs : List V} {ps : List (Int × Int)}, Paired (fun x (p : Int × Int) => ∃ t, x = V.ref t ∧ SqT K F t [.int p.1, .int p.2]) xs ps → DpAll K F xs (ps.map encP)
  | _, _, .nil => .nil
  | _, _, .cons h1 h2 => .cons (by
      obtain ⟨t, rfl, h⟩ := h1
      exact .tup h (.cons (.int _) (.cons (.int _) .nil))) (pairs_dpa h2)
/-- sorted(ps), ps a list of pairs that is data -/
theorem ev_sortedP {ps qs : List (Int × Int)} (h : Ev K ρ S te (.v (.list (ps.map encP))) S1) (hp : qs.Perm ps) (hq : qs.Pairwise lexP) : Ev K ρ S (tCB (rSortedPS K) (tCons te tNil)) (.nl (qs.map encP)) S1 := fun σ F H L E s Q q =>
  h σ F H L E s _ fun v F1 H1 st1 s1 r1 => by
    have r1' : Dp K F1 v (.list (ps.map encP)) := r1
    cases r1' with
    | lst h1 h2 =>
      rename_i a xs
      refine ⟨a, xs, ps, fun x p => ∃ t, x = V.ref t ∧ SqT K F1 t [.int p.1, .int p.2], rfl, s1.sub.seq h1, dpa_pairs h2, fun x p ⟨t, e, k⟩ => ⟨t, e, sqt_mono s1.sub k⟩, fun ys qs' p hy pm pw hn => ?_⟩
      have e : qs' = qs := List.Perm.eq_of_pairwise (le := lexP) (fun x y _ _ a b => by
        unfold lexP at a b
        exact Prod.ext (by omega) (by omega)) pw hq (pm.trans hp.symm)
      subst e
      obtain ⟨x1, x2, x3⟩ := new_lst (L := L) s1 (pairs_dpa hy) hn
      exact q _ _ _ (st1.trans x1) x2 (x3.back st1)
/-! lists put together -/
def LsAt (S : Sto) (r : Rs) (ds : List D) : Prop := r = .nl ds ∨ ∃ n, r = .mu n ∧ S[n]? = some ds
theorem ls_at {L : List Addr} {F0 H0 F1 H1 F2 H2 : Hp} {v : V} (s0 : SOk K F0 H0 L S) (st1 : Stp L F0 H0 F1 H1) (st2 : Stp L F1 H1 F2 H2) (s2 : SOk K F2 H2 L S2) (h : RsOk K L F1 H0 H1 v r) (q : LsAt S2 r ds) : ∃ a vs, v = .ref a ∧ H2 a = some (.lst vs) ∧ DpAll K F2 vs ds := by
  rcases q with rfl | ⟨n, rfl, e⟩
  · obtain ⟨a, vs, rfl, h0, h1, h2, h3⟩ := h
    refine ⟨a, vs, rfl, st2.keep _ _ h2 fun m => ?_, dpa_mono st2.fx _ _ h3⟩
    obtain ⟨n, hn⟩ := List.getElem?_of_mem m
    obtain ⟨_, _, _, _, e2, _⟩ := s0.st n a hn
    rw [h0] at e2
    cases e2
  · obtain ⟨a, rfl, ha⟩ := h
    obtain ⟨_, vs, xs, e1, e2, e3⟩ := s2.st n a ha
    rw [e] at e1
    cases e1
    exact ⟨a, vs, rfl, e2, e3⟩
theorem ev_cat (ha : Ev K ρ S ta r1 S1) (hb : Ev K ρ S1 tb r2 S2) (h1 : LsAt S2 r1 as) (h2 : LsAt S2 r2 bs) (hl : as.length + bs.length ≤ 100000) : Ev K ρ S (tOp rCat ta tb) (.nl (as ++ bs)) S2 := fun σ F H L E s Q q =>
  ha σ F H L E s _ fun x F1 H1 st1 s1 q1 => hb σ F1 H1 L (E.mono0 st1.fx) s1 _ fun y F2 H2 st2 s2 q2 => by
    obtain ⟨a, vs, rfl, e1, e2⟩ := ls_at s st1 st2 s2 q1 h1
    obtain ⟨b, ws, rfl, e3, e4⟩ := ls_at s1 st2 (.refl _ _ _) s2 q2 h2
    refine ⟨a, b, vs, ws, rfl, rfl, e1, e3, by rw [dpa_len e2, dpa_len e4]; exact small5 hl, fun p hp => ?_⟩
    obtain ⟨x1, x2, x3⟩ := new_lst (L := L) s2 (dpa_app e2 e4) hp
    exact q _ _ _ ((st1.trans st2).trans x1) x2 (x3.back (st1.trans st2))
theorem ed_star (h : Ev K ρ S te r S1) (hn : notNl r = true) (hq : RdSq S2 r ds) (hr : EvD K ρ S1 tr es S2) (hm : notMu r = true) : EvD K ρ S (StX.tStar K te tr) (ds ++ es) S2 := fun σ F H L E s Q q =>
  h σ F H L E s _ fun v F1 H1 st1 s1 r1 => by
    have hq1 : RdSq S1 r ds := by
      rcases hq with e | e | ⟨n, e, _⟩
      · exact .inl e
      · exact .inr (.inl e)
      · subst e; cases hm
    obtain ⟨a, vs, rfl, hs, hd⟩ := rd_sq (H0 := H) s1 (r1.pers (Same.refl _) hn) hq1
    exact ⟨a, vs, rfl, hs.symm, hr σ F1 H1 L (E.mono0 st1.fx) s1 _ fun ws F2 H2 st2 s2 r2 => q _ F2 H2 (st1.trans st2) s2 (dpa_app (dpa_mono st2.fx _ _ hd) r2)⟩
theorem o_eqI {i j : Int} : Op2 K rEq (.int i) (.int j) (.bool (decide (i = j))) := fun F H x y _ hx hy Q q => by
  cases hx; cases hy
  refine ⟨rfl, ?_⟩
  have : decide (V.int i = V.int j) = decide (i = j) := by simp
  rw [this]
  exact q _ (.bl _)
theorem o_neI {i j : Int} : Op2 K rNe (.int i) (.int j) (.bool (!decide (i = j))) := fun F H x y _ hx hy Q q => by
  cases hx; cases hy
  refine ⟨rfl, ?_⟩
  have : decide (V.int i = V.int j) = decide (i = j) := by simp
  rw [this]
  exact q _ (.bl _)
theorem o_eqB {i j : Bool} : Op2 K rEq (.bool i) (.bool j) (.bool (decide (i = j))) := fun F H x y _ hx hy Q q => by
  cases hx; cases hy
  refine ⟨rfl, ?_⟩
  have : decide (V.bl i = V.bl j) = decide (i = j) := by simp
  rw [this]
  exact q _ (.bl _)
theorem o_neB {i j : Bool} : Op2 K rNe (.bool i) (.bool j) (.bool (!decide (i = j))) := fun F H x y _ hx hy Q q => by
  cases hx; cases hy
  refine ⟨rfl, ?_⟩
  have : decide (V.bl i = V.bl j) = decide (i = j) := by simp
  rw [this]
  exact q _ (.bl _)
theorem o_eqS {i j : Str} : Op2 K rEq (.str i) (.str j) (.bool (decide (i = j))) := fun F H x y _ hx hy Q q => by
  cases hx; cases hy
  refine ⟨rfl, ?_⟩
  have : decide (V.str i = V.str j) = decide (i = j) := by simp
  rw [this]
  exact q _ (.bl _)
theorem o_neS {i j : Str} : Op2 K rNe (.str i) (.str j) (.bool (!decide (i = j))) := fun F H x y _ hx hy Q q => by
  cases hx; cases hy
  refine ⟨rfl, ?_⟩
  have : decide (V.str i = V.str j) = decide (i = j) := by simp
  rw [this]
  exact q _ (.bl _)
/-- None beside an int or a text -/
theorem o_eqN {j : Int} : Op2 K rEq .none (.int j) (.bool false) := fun F H x y _ hx hy Q q => by
  cases hx; cases hy
  refine ⟨rfl, ?_⟩
  have : decide (V.non = V.int j) = false := by simp
  rw [this]
  exact q _ (.bl _)
end
section
variable {K : PySem.W.Frag} {n0 : Nat} {A B : AE} {ρ : Rho} {S S1 S2 S3 : Sto} {ta tb tc te : TE} {t u : TT} {tr : TA} {d e f : D} {r : Rs} {ds es : List D} {ts tu tw : TS} {g : TG} {wi : TI} {chk : Sto → Prop}
/-- a statement with one end, then the rest -/
theorem as_seqJ {ρ1 : Rho} (h : As K n0 ts { A with nx := fun ρ S => ρ = ρ1 ∧ S = S1 } ρ S) (k : As K n0 tu A ρ1 S1) : As K n0 (tSeq ts tu) A ρ S :=
  as_seq (h.mono (fun _ _ ⟨a, b⟩ => by subst a; subst b; exact k) (fun _ _ h => h) (fun _ _ h => h) (fun _ _ h => h))
/-- a statement whose end is told by a word -/
theorem as_seqW {W : Rho → Sto → Prop} (h : As K n0 ts { A with nx := W } ρ S) (k : ∀ ρ1 S1, W ρ1 S1 → As K n0 tu A ρ1 S1) : As K n0 (tSeq ts tu) A ρ S :=
  as_seq (h.mono (fun _ _ a => k _ _ a) (fun _ _ h => h) (fun _ _ h => h) (fun _ _ h => h))
theorem as_ifT {b : Bool} (h : EvT K ρ S t b S1) (e : b = true) (h1 : As K n0 tu A ρ S1) : As K n0 (tIfS t tu tw) A ρ S := as_if h (fun _ => h1) (fun z => by rw [e] at z; cases z)
theorem as_ifF {b : Bool} (h : EvT K ρ S t b S1) (e : b = false) (h1 : As K n0 tw A ρ S1) : As K n0 (tIfS t tu tw) A ρ S := as_if h (fun z => by rw [e] at z; cases z) (fun _ => h1)
end
section
variable {K : PySem.W.Frag} {ρ : Rho} {S S1 : Sto} {te : TE} {d : D}
def isD_bool : D → Bool
  | .bool _ => true
  | _ => false
theorem ev_isi_bool (h : Ev K ρ S te (.v d) S1) : Ev K ρ S (tCB (rIsi K) (tCons te (tCons (tC (.ty "bool")) tNil))) (.v (.bool (isD_bool d))) S1 := ev_isi h (by
  cases d with
  | none => exact (show kitB "NoneType" "bool" = some false by decide +kernel)
  | bool _ => exact (show kitB "bool" "bool" = some true by decide +kernel)
  | int _ => exact (show kitB "int" "bool" = some false by decide +kernel)
  | str _ => exact (show kitB "str" "bool" = some false by decide +kernel)
  | list _ => exact (show kitB "list" "bool" = some false by decide +kernel)
  | tuple _ => exact (show kitB "tuple" "bool" = some false by decide +kernel)
  | dict _ => exact (show kitB "dict" "bool" = some false by decide +kernel))
def isD_int : D → Bool
  | .int _ => true
  | .bool _ => true
  | _ => false
theorem ev_isi_int (h : Ev K ρ S te (.v d) S1) : Ev K ρ S (tCB (rIsi K) (tCons te (tCons (tC (.ty "int")) tNil))) (.v (.bool (isD_int d))) S1 := ev_isi h (by
  cases d with
  | none => exact (show kitB "NoneType" "int" = some false by decide +kernel)
  | bool _ => exact (show kitB "bool" "int" = some true by decide +kernel)
  | int _ => exact (show kitB "int" "int" = some true by decide +kernel)
  | str _ => exact (show kitB "str" "int" = some false by decide +kernel)
  | list _ => exact (show kitB "list" "int" = some false by decide +kernel)
  | tuple _ => exact (show kitB "tuple" "int" = some false by decide +kernel)
  | dict _ => exact (show kitB "dict" "int" = some false by decide +kernel))
def isD_str : D → Bool
  | .str _ => true
  | _ => false
theorem ev_isi_str (h : Ev K ρ S te (.v d) S1) : Ev K ρ S (tCB (rIsi K) (tCons te (tCons (tC (.ty "str")) tNil))) (.v (.bool (isD_str d))) S1 := ev_isi h (by
  cases d with
  | none => exact (show kitB "NoneType" "str" = some false by decide +kernel)
  | bool _ => exact (show kitB "bool" "str" = some false by decide +kernel)
  | int _ => exact (show kitB "int" "str" = some false by decide +kernel)
  | str _ => exact (show kitB "str" "str" = some true by decide +kernel)
  | list _ => exact (show kitB "list" "str" = some false by decide +kernel)
  | tuple _ => exact (show kitB "tuple" "str" = some false by decide +kernel)
  | dict _ => exact (show kitB "dict" "str" = some false by decide +kernel))
def isD_tuple : D → Bool
  | .tuple _ => true
  | _ => false
theorem ev_isi_tuple (h : Ev K ρ S te (.v d) S1) : Ev K ρ S (tCB (rIsi K) (tCons te (tCons (tC (.ty "tuple")) tNil))) (.v (.bool (isD_tuple d))) S1 := ev_isi h (by
  cases d with
  | none => exact (show kitB "NoneType" "tuple" = some false by decide +kernel)
  | bool _ => exact (show kitB "bool" "tuple" = some false by decide +kernel)
  | int _ => exact (show kitB "int" "tuple" = some false by decide +kernel)
  | str _ => exact (show kitB "str" "tuple" = some false by decide +kernel)
  | list _ => exact (show kitB "list" "tuple" = some false by decide +kernel)
  | tuple _ => exact (show kitB "tuple" "tuple" = some true by decide +kernel)
  | dict _ => exact (show kitB "dict" "tuple" = some false by decide +kernel))
def isD_list : D → Bool
  | .list _ => true
  | _ => false
theorem ev_isi_list (h : Ev K ρ S te (.v d) S1) : Ev K ρ S (tCB (rIsi K) (tCons te (tCons (tC (.ty "list")) tNil))) (.v (.bool (isD_list d))) S1 := ev_isi h (by
  cases d with
  | none => exact (show kitB "NoneType" "list" = some false by decide +kernel)
  | bool _ => exact (show kitB "bool" "list" = some false by decide +kernel)
  | int _ => exact (show kitB "int" "list" = some false by decide +kernel)
  | str _ => exact (show kitB "str" "list" = some false by decide +kernel)
  | list _ => exact (show kitB "list" "list" = some true by decide +kernel)
  | tuple _ => exact (show kitB "tuple" "list" = some false by decide +kernel)
  | dict _ => exact (show kitB "dict" "list" = some false by decide +kernel))
end
section
variable {X : Cx} {K : PySem.W.Frag}
theorem ix_seqK (h : X.K = K) : IxR X (rIx K) := by subst h; exact ix_seq
theorem pt_truthK {a : Expr} {ta : TE} (h : X.K = K) (ha : PE X a ta) (he : ∀ whole, isTrue a X.env whole = (do let v ← whole; standAt a.pos; holding [v] (truthy v))) : PT X a (fun σ H Q => ta σ H fun x H' => ∃ k, TruV K x H' k ∧ Q k H') := by subst h; exact pt_truth ha he
theorem call_lenK (h : X.K = K) : CallR X (.builtin "len") (fun xs H Q => ∃ x n, xs = [x] ∧ LenV K x H n ∧ Q (.int n) H) := by subst h; exact call_len
theorem call_isiK (h : X.K = K) : CallR X (.builtin "isinstance") (rIsi K) := by subst h; exact call_isi
theorem call_list_ofK (h : X.K = K) : CallR X (.type "list") (fun xs H Q => ∃ p ys, xs = [.ref p] ∧ (SqL K H p ys ∨ SqT K H p ys) ∧ ∀ l, H l = none → Q (.ref l) (upd H l (.lst ys))) := by subst h; exact call_list_of
theorem call_tuple_ofK (h : X.K = K) : CallR X (.type "tuple") (fun xs H Q => ∃ p ys, xs = [.ref p] ∧ ((SqL K H p ys ∧ ∀ l, H l = none → Q (.ref l) (upd H l (.tup ys))) ∨ (SqT K H p ys ∧ Q (.ref p) H))) := by subst h; exact call_tuple_of
theorem op_in_seqK (h : X.K = K) : OpR X (compareOp .In) (rIn K false) := by subst h; exact op_in_seq
theorem op_notIn_seqK (h : X.K = K) : OpR X (compareOp .NotIn) (rIn K true) := by subst h; exact op_notIn_seq
theorem cr_sortedPSK (h : X.K = K) : CallR X (.builtin "sorted") (rSortedPS K) := by subst h; exact cr_sortedPS
theorem pi_seqK {tg l : Expr} {tl : TE} (h : X.K = K) (hl : PE X l tl) : PI X tg l (iSeq K tl) := by subst h; exact pi_seq hl
theorem pe_globD {x : Str} {pos : Pos} {v : V} {Pr : Prop} (hg : Gl X x) (h : ∃ u, X.mg x = some u ∧ RelV v u ∧ Pr) (hd : (x == ("__debug__" : Str)) = false := by decide) : PE X (.Name x pos) (tC v) := by
  obtain ⟨u, a, b, _⟩ := h
  exact pe_glob hg a b (hd := hd)
end
end DL
end

section
set_option Elab.async false
set_option linter.all false
set_option maxRecDepth 100000
set_option maxHeartbeats 4000000
namespace DL
open PySem PySem.Spec PyProof.Rows L2

/-! ### methods of lists -/
theorem put_l {K : PySem.W.Frag} {L : List Addr} {F H : Hp} {S : Sto} {ds : List D} {n : Nat} {a : Addr} {vs : List V} (s : SOk K F H L S) (ha : L[n]? = some a) (hd : DpAll K F vs ds) : Stp L F H F (upd H a (.lst vs)) ∧ SOk K F (upd H a (.lst vs)) L (S.set n ds) := by
  obtain ⟨f0, ws, xs, e1, e2, e3⟩ := s.st n a ha
  have hl : n < S.length := (List.getElem?_eq_some_iff.mp e1).1
  refine ⟨⟨Same.refl _, fun x o e nx => by
    rw [upd_ne (fun (z : x = a) => nx (by rw [z]; exact List.mem_of_getElem? ha))]
    exact e, fun x hx => by
      by_cases q : x = a
      · rw [q, upd_same]; exact nofun
      · rw [upd_ne q]; exact hx, fun x hx h => h⟩, ⟨fun x o e => ?_, by simp [s.len], s.nd, fun m x e => ?_⟩⟩
  · rw [upd_ne (ne_of_none e f0)]
    exact s.sub _ _ e
  · by_cases hnm : n = m
    · subst hnm
      rw [ha] at e
      cases e
      exact ⟨f0, vs, ds, List.getElem?_set_self hl, upd_same, hd⟩
    · obtain ⟨g0, ws', xs', k1, k2, k3⟩ := s.st m x e
      have hxa : x ≠ a := fun z => by
        subst z
        have h1 := List.getElem?_eq_some_iff.mp e
        have h2 := List.getElem?_eq_some_iff.mp ha
        exact hnm ((List.getElem_inj s.nd).mp (h2.2.trans h1.2.symm))
      exact ⟨g0, ws', xs', by rw [List.getElem?_set_ne hnm]; exact k1, by rw [upd_ne hxa]; exact k2, k3⟩
theorem ext_tup {l b : Addr} {xs ys : Array Value} {n m : Nat} {dct : Option Addr} {sl : Array (Option Value)} (h0 : ¬(!xs.isEmpty && Builtin.List.listTooLong (xs.size + ys.size)) = true) (h1 : xs.size ≤ sizeLine) (h2 : xs.size + ys.size ≤ sizeLine + 1) :
    Meets (Builtin.«list.extend» ⟨[.ref l, .ref b], []⟩) (fun _ R s =>
      s.heap.get? l = some { cls := .type "list", dict := none, data := .seq xs n, slots := #[] } ∧
      s.heap.get? b = some { cls := .type "tuple", dict := dct, data := .seq ys m, slots := sl } ∧
      R (.ok (.ret Value.none)) { s with heap := s.heap.update l (Obj.mapSeq fun x => x ++ ys), toks := s.toks }) :=
  .of_wp fun prog w A R s h => by
    obtain ⟨hp, g, d, tk, os⟩ := s
    obtain ⟨hl, hb, h⟩ := h
    have f1 := AutoSeq1.idx_int
    have f2 := AutoSeq1.sub_tuple_tuple
    have f3 := AutoSeq1.sub_list_list
    have f4 := AutoSeq1.sub_tuple_list
    have f5 := AutoSeq1.sub_list_tuple
    have hz : (xs ++ ys).size ≤ sizeLine + 1 := by
      rw [Array.size_append]
      exact h2
    wp_walk using (wpAny_updateSeq hl rfl (hz := h1) (_hz' := hz)), AutoSeq1.wpAny_loadPart' hl, AutoSeq1.wpAny_loadPart' hb
    exact ⟨_, rfl, h⟩
def rExtendT (K : PySem.W.Frag) : V → List V → Hp → VK → Prop := fun x vs H Q => ∃ l b xs zs, x = .ref l ∧ vs = [.ref b] ∧ H l = some (.lst xs) ∧ SqT K H b zs ∧ xs.length + zs.length ≤ sizeLine ∧ Q .non (upd H l (.lst (xs ++ zs)))
theorem mt_extendT {X : Cx} {K : PySem.W.Frag} (hX : X.K = K) : MtM X "list.extend" (rExtendT K) := by
  subst hX
  intro pins s σ H x vs v us Q I rx rv h
  obtain ⟨l, b, xs, zs, rfl, rfl, hH, hB, hz, q⟩ := h
  cases rx
  obtain ⟨u, rfl, ru⟩ := rv.one
  cases ru
  obtain ⟨z, its, n, r, hl, e⟩ := I.lstM hH
  obtain ⟨its2, r2, ⟨o2, ho2, hc2, n2, hd2⟩, hz2⟩ := I.tuple hB
  have hl2 := r2.length
  obtain ⟨oc, od, da, sl⟩ := o2
  cases hc2
  cases hd2
  have hsz : its.toArray.size + its2.toArray.size ≤ sizeLine := by rw [List.size_toArray, List.size_toArray]; omega
  have hlong : ¬ (!its.toArray.isEmpty && Builtin.List.listTooLong (its.toArray.size + its2.toArray.size)) = true := by
    rw [notLongL hsz, Bool.and_false]
    exact Bool.false_ne_true
  refine call_meets F.slot_list_extend ⟨_, e, rfl⟩ F.entry_list_extend (F.args_list_extend_2 _ _) (ext_tup (n := n) (m := n2) (dct := od) (sl := sl) hlong (by rw [List.size_toArray]; omega) (by omega)) ⟨e, ho2, ?_⟩
  refine ⟨.non, _, I.lset (its' := its ++ its2) hH e (by simp) (r.append r2) ?_, rfl, q⟩
  rw [List.length_append]
  omega
theorem dpa_rev {K : PySem.W.Frag} {F : Hp} : ∀ {vs : List V} {ds : List D}, DpAll K F vs ds → DpAll K F vs.reverse ds.reverse
  | _, _, .nil => .nil
  | _, _, .cons h1 h2 => by
    rw [List.reverse_cons, List.reverse_cons]
    exact dpa_app (dpa_rev h2) (.cons h1 .nil)
section
variable {K : PySem.W.Frag} {ρ : Rho} {S S1 S2 S3 : Sto} {ta tb tc te : TE} {d e f : D} {r : Rs} {ds es : List D}
theorem ev_pop {n : Nat} (ha : Ev K ρ S ta (.mu n) S1) (hd : S1[n]? = some (ds ++ [d])) : Ev K ρ S (tBM0 K "list" rPop ta) (.v d) (S1.set n ds) := fun σ F H L E s Q q =>
  ha σ F H L E s _ fun v F1 H1 st1 s1 r1 => by
    obtain ⟨a, rfl, ha⟩ := r1
    obtain ⟨f0, ws, xs, e1, e2, e3⟩ := s1.st n a ha
    rw [hd] at e1
    cases e1
    have hl := dpa_len e3
    rw [List.length_append, List.length_singleton] at hl
    obtain ⟨v, hv, hdp⟩ := dpa_get (i := ds.length) (d := d) e3 (by simp)
    have ht : DpAll K F1 ws.dropLast ds := by
      rw [List.dropLast_eq_take, hl]
      have := dpa_take ds.length e3
      rw [List.take_left' rfl] at this
      exact this
    obtain ⟨p1, p2⟩ := put_l s1 ha ht
    exact ⟨.inl ⟨rfl, ws, .inl (.inl e2)⟩, a, ws, v, rfl, rfl, e2, by rw [hl]; exact hv, q v F1 _ (st1.trans p1) p2 hdp⟩
theorem ev_rev {n : Nat} (ha : Ev K ρ S ta (.mu n) S1) (hd : S1[n]? = some ds) : Ev K ρ S (tBM0 K "list" rReverse ta) (.v .none) (S1.set n ds.reverse) := fun σ F H L E s Q q =>
  ha σ F H L E s _ fun v F1 H1 st1 s1 r1 => by
    obtain ⟨a, rfl, ha⟩ := r1
    obtain ⟨f0, ws, xs, e1, e2, e3⟩ := s1.st n a ha
    rw [hd] at e1
    cases e1
    have ht := dpa_rev e3
    obtain ⟨p1, p2⟩ := put_l s1 ha ht
    exact ⟨.inl ⟨rfl, ws, .inl (.inl e2)⟩, a, ws, rfl, rfl, e2, q .non F1 _ (st1.trans p1) p2 .non⟩
theorem ev_extT {n : Nat} (ha : Ev K ρ S ta (.mu n) S1) (hb : Ev K ρ S1 tb (.v (.tuple es)) S2) (hd : S2[n]? = some ds) (hl : ds.length + es.length ≤ 100000) : Ev K ρ S (tBM K "list" (rExtendT K) ta (tCons tb tNil)) (.v .none) (S2.set n (ds ++ es)) := fun σ F H L E s Q q =>
  ha σ F H L E s _ fun v F1 H1 st1 s1 r1 => by
    obtain ⟨a, rfl, ha⟩ := r1
    obtain ⟨_, ws1, xs1, _, e12, _⟩ := s1.st n a ha
    refine ⟨.inl ⟨rfl, ws1, .inl (.inl e12)⟩, hb σ F1 H1 L (E.mono0 st1.fx) s1 _ fun w F2 H2 st2 s2 r2 => ?_⟩
    obtain ⟨f0, ws, xs, e1, e2, e3⟩ := s2.st n a ha
    rw [hd] at e1
    cases e1
    have r2' : Dp K F2 w (.tuple es) := r2
    cases r2' with
    | tup h1 h2 =>
      obtain ⟨p1, p2⟩ := put_l s2 ha (dpa_app e3 h2)
      exact ⟨a, _, ws, _, rfl, rfl, e2, sqt_mono s2.sub h1, by rw [dpa_len e3, dpa_len h2]; exact small5 hl, q .non F2 _ ((st1.trans st2).trans p1) p2 .non⟩
theorem dpa_strs {F : Hp} : ∀ {vs : List V} {xs : List Str}, DpAll K F vs (xs.map PyData.str) → vs = xs.map V.str
  | _, [], .nil => rfl
  | _, x :: xs, .cons h1 h2 => by
    have h1' : Dp K F _ (.str x) := h1
    cases h1'
    rw [dpa_strs h2]
    rfl
theorem dpa_intsB {F : Hp} : ∀ {vs : List V} {xs : List Int}, DpAll K F vs (xs.map PyData.int) → vs = xs.map V.int
  | _, [], .nil => rfl
  | _, x :: xs, .cons h1 h2 => by
    have h1' : Dp K F _ (.int x) := h1
    cases h1'
    rw [dpa_intsB h2]
    rfl
theorem inV_str {x : Str} {xs : List Str} : inV (.str x) (xs.map V.str) = xs.any fun y => y == x := by
  unfold inV
  rw [List.any_map]
  rfl
theorem flat_strs {xs : List Str} : (xs.map V.str).all flatV = true := by simp [flatV]
theorem flat_ints {xs : List Int} : (xs.map V.int).all flatV = true := by simp [flatV]
theorem ev_inS {x : Str} {xs : List Str} (ha : Ev K ρ S ta (.v (.str x)) S1) (hb : Ev K ρ S1 tb (.v (.tuple (xs.map PyData.str))) S2) : Ev K ρ S (tOp (rIn K false) ta tb) (.v (.bool (xs.any fun y => y == x))) S2 :=
  ev_op ha hb fun F H u v sm hu hv Q q => by
    cases hu
    cases hv with
    | tup h1 h2 =>
      rename_i p vs
      have e := dpa_strs h2
      refine ⟨p, vs, rfl, .inr (sqt_mono sm h1), rfl, by rw [e]; exact flat_strs, ?_⟩
      rw [e, inV_str]
      exact q _ (.bl _)
theorem ev_notInS {x : Str} {xs : List Str} (ha : Ev K ρ S ta (.v (.str x)) S1) (hb : Ev K ρ S1 tb (.v (.tuple (xs.map PyData.str))) S2) : Ev K ρ S (tOp (rIn K true) ta tb) (.v (.bool (!xs.any fun y => y == x))) S2 :=
  ev_op ha hb fun F H u v sm hu hv Q q => by
    cases hu
    cases hv with
    | tup h1 h2 =>
      rename_i p vs
      have e := dpa_strs h2
      refine ⟨p, vs, rfl, .inr (sqt_mono sm h1), rfl, by rw [e]; exact flat_strs, ?_⟩
      rw [e, inV_str]
      exact q _ (.bl _)
theorem ev_sortedI {ns ms : List Int} (h : Ev K ρ S te (.v (.list (ns.map PyData.int))) S1) (hp : ms.Perm ns) (hs : ms.Pairwise (· ≤ ·)) : Ev K ρ S (tCB (rSortedI K) (tCons te tNil)) (.nl (ms.map PyData.int)) S1 := fun σ F H L E s Q q =>
  h σ F H L E s _ fun v F1 H1 st1 s1 r1 => by
    have r1' : Dp K F1 v (.list (ns.map PyData.int)) := r1
    cases r1' with
    | lst h1 h2 =>
      rename_i a xs
      have e := dpa_intsB h2
      subst e
      refine ⟨a, ns, rfl, s1.sub.seq h1, fun ns' p pm pw hn => ?_⟩
      have e2 : ns' = ms := List.Perm.eq_of_pairwise (le := (· ≤ ·)) (fun x y _ _ a b => by omega) pw hs (pm.trans hp.symm)
      subst e2
      obtain ⟨x1, x2, x3⟩ := new_lst (L := L) s1 (dpa_ints ns') hn
      exact q _ _ _ (st1.trans x1) x2 (x3.back st1)
theorem ev_listRg1 {n : Int} (h : Ev K ρ S te (.v (.int n)) S1) (hn : 0 ≤ n ∧ n ≤ 100000) : Ev K ρ S (tLstRg (tRg1 te)) (.nl (rngD 0 n.toNat)) S1 := fun σ F H L E s Q q =>
  h σ F H L E s _ fun v F1 H1 st1 s1 r1 => by
    cases r1
    refine ⟨n, rfl, RgOk.of_le (by decide) (by omega) (by decide) hn.1, fun p hp => ?_⟩
    have hd : DpAll K F1 (rgV 0 n) (rngD 0 n.toNat) := by
      have e1 : rgV 0 n = ((List.range n.toNat).map fun (i : Nat) => (0 : Int) + (i : Int)).map V.int := by
        unfold rgV
        rw [List.map_map, Int.sub_zero]
        rfl
      have e2 : rngD 0 n.toNat = ((List.range n.toNat).map fun (i : Nat) => (0 : Int) + (i : Int)).map PyData.int := by
        unfold rngD
        rw [List.map_map]
        rfl
      rw [e1, e2]
      exact dpa_ints _
    obtain ⟨x1, x2, x3⟩ := new_lst (L := L) s1 hd hp
    exact q _ _ _ (st1.trans x1) x2 (x3.back st1)
end
section
variable {X : Cx} {K : PySem.W.Frag} {o e : Expr} {es : List Expr} {to : TE} {t : TA} {name : Str} {apos cpos : Pos} {T id : String} {r : V → List V → Hp → VK → Prop}
theorem pe_bm0E (hX : X.K = K) (pa : PlainAttrs T) (slot : Slot T name id) (hty : typeOf (.builtin id) = pure (.type "method_descriptor")) (hm : MtR X id r) (ho : PE X o to)
    (h1 : attributeBase o name X.env (eval o X.env) = eval o X.env := by rfl) (h2 : (apos.endLine == cpos.line) = true := by rfl) : PE X (.Call (.Attribute o name apos) [] [] cpos) (tBM0 K T r to) := by
  subst hX
  exact pe_bm0 pa slot hty hm ho h1 h2
theorem pe_bmE (hX : X.K = K) (pa : PlainAttrs T) (slot : Slot T name id) (hty : typeOf (.builtin id) = pure (.type "method_descriptor")) (hm : MtR X id r) (ho : PE X o to) (ha : PA X (e :: es) t)
    (h1 : attributeBase o name X.env (eval o X.env) = eval o X.env := by rfl)
    (h2 : ((backTo cpos (starEach (e :: es) X.env)).all (fun x => !x.1) && (backToKw cpos (keywordEach [] X.env)).all (fun x => x.1.isSome)
      && decide ((e :: es).length + ([] : List Keyword).length + (if ([] : List Keyword).isEmpty then 0 else 1) < 30)) = true := by rfl)
    (h3 : (apos.endLine == cpos.line) = true := by rfl) (h4 : starEach (e :: es) X.env = (false, eval e X.env) :: starEach es X.env := by rfl) (h5 : (backTo cpos (starEach es X.env)).any (·.1) = false := by rfl) :
    PE X (.Call (.Attribute o name apos) (e :: es) [] cpos) (tBM K T r to t) := by
  subst hX
  exact pe_bm pa slot hty hm ho ha h1 h2 h3 h4 h5
theorem cr_sortedIK (h : X.K = K) : CallR X (.builtin "sorted") (rSortedI K) := by subst h; exact cr_sortedI
end
section
variable {a b c d e : D} {xs : List D}
theorem atI_0 : atI (a :: xs) 0 = some a := show atI _ ((0 : Nat) : Int) = _ from atI_nat rfl
theorem atI_1 : atI (a :: b :: xs) 1 = some b := show atI _ ((1 : Nat) : Int) = _ from atI_nat rfl
theorem atI_2 : atI (a :: b :: c :: xs) 2 = some c := show atI _ ((2 : Nat) : Int) = _ from atI_nat rfl
theorem atI_3 : atI (a :: b :: c :: d :: xs) 3 = some d := show atI _ ((3 : Nat) : Int) = _ from atI_nat rfl
end
end DL
end

section
set_option linter.all false
namespace Lw
/-! ### sets of codes: lists of pairs -/
abbrev PL := List (Int × Int)
def inP (ps : PL) (c : Int) : Bool := ps.any fun p => decide (p.1 ≤ c) && decide (c < p.2)
structure Can (ps : PL) : Prop where
  pw : ps.Pairwise fun p q => p.2 < q.1
  bd : ∀ p ∈ ps, 0 ≤ p.1 ∧ p.1 < p.2 ∧ p.2 ≤ 128
theorem inP_iff {ps : PL} {c : Int} : inP ps c = true ↔ ∃ p ∈ ps, p.1 ≤ c ∧ c < p.2 := by
  simp [inP]
theorem inP_false {ps : PL} {c : Int} : inP ps c = false ↔ ∀ p ∈ ps, ¬ (p.1 ≤ c ∧ c < p.2) := by
  rw [← Bool.not_eq_true, inP_iff]
  constructor
  · intro h p hp hc; exact h ⟨p, hp, hc⟩
  · rintro h ⟨p, hp, hc⟩; exact h p hp hc
theorem inP_nil {c : Int} : inP [] c = false := rfl
theorem inP_cons {p : Int × Int} {ps : PL} {c : Int} : inP (p :: ps) c = (decide (p.1 ≤ c) && decide (c < p.2) || inP ps c) := rfl
theorem inP_app {ps qs : PL} {c : Int} : inP (ps ++ qs) c = (inP ps c || inP qs c) := by simp [inP]
theorem Can.tail {p : Int × Int} {ps : PL} (h : Can (p :: ps)) : Can ps := ⟨(List.pairwise_cons.mp h.pw).2, fun q hq => h.bd q (List.mem_cons_of_mem _ hq)⟩
theorem Can.first {p : Int × Int} {ps : PL} (h : Can (p :: ps)) : ∀ q ∈ ps, p.2 < q.1 := (List.pairwise_cons.mp h.pw).1
theorem can_eq : ∀ {ps qs : PL}, Can ps → Can qs → (∀ c, inP ps c = inP qs c) → ps = qs
  | [], [], _, _, _ => rfl
  | [], q :: qs, _, hq, h => by
    have hb := hq.bd q List.mem_cons_self
    have := h q.1
    rw [inP_nil] at this
    have h2 := (inP_false.mp this.symm) q List.mem_cons_self
    omega
  | p :: ps, [], hp, _, h => by
    have hb := hp.bd p List.mem_cons_self
    have := h p.1
    rw [inP_nil] at this
    have h2 := (inP_false.mp this) p List.mem_cons_self
    omega
  | p :: ps, q :: qs, hp, hq, h => by
    have bp := hp.bd p List.mem_cons_self
    have bq := hq.bd q List.mem_cons_self
    have fp := hp.first
    have fq := hq.first
    have mp : ∀ c, inP (p :: ps) c = true → p.1 ≤ c := fun c hc => by
      obtain ⟨r, hr, h1, h2⟩ := inP_iff.mp hc
      rcases List.mem_cons.mp hr with e | m
      · rw [← e]; exact h1
      · have := fp r m; omega
    have mq : ∀ c, inP (q :: qs) c = true → q.1 ≤ c := fun c hc => by
      obtain ⟨r, hr, h1, h2⟩ := inP_iff.mp hc
      rcases List.mem_cons.mp hr with e | m
      · rw [← e]; exact h1
      · have := fq r m; omega
    have e1 : p.1 = q.1 := by
      have a := mq p.1 (by rw [← h]; exact inP_iff.mpr ⟨p, List.mem_cons_self, by omega, by omega⟩)
      have b := mp q.1 (by rw [h]; exact inP_iff.mpr ⟨q, List.mem_cons_self, by omega, by omega⟩)
      omega
    have np : inP (p :: ps) p.2 = false := inP_false.mpr fun r hr => by
      rcases List.mem_cons.mp hr with e | m
      · rw [e]; omega
      · have := fp r m; omega
    have nq : inP (q :: qs) q.2 = false := inP_false.mpr fun r hr => by
      rcases List.mem_cons.mp hr with e | m
      · rw [e]; omega
      · have := fq r m; omega
    have e2 : p.2 = q.2 := by
      have a := inP_false.mp (h p.2 ▸ np) q List.mem_cons_self
      have b := inP_false.mp ((h q.2).symm ▸ nq) p List.mem_cons_self
      omega
    have epq : p = q := Prod.ext e1 e2
    subst epq
    rw [can_eq hp.tail hq.tail fun c => by
      have hc := h c
      rw [inP_cons, inP_cons] at hc
      by_cases hcp : c < p.2
      · have a : inP ps c = false := inP_false.mpr fun r hr => by have := fp r hr; omega
        have b : inP qs c = false := inP_false.mpr fun r hr => by have := fq r hr; omega
        rw [a, b]
      · have : decide (c < p.2) = false := by simpa using hcp
        rw [this, Bool.and_false, Bool.false_or, Bool.false_or] at hc
        exact hc]
/-! ranges of bits -/
def bit (bs : List Bool) (c : Int) : Bool := decide (0 ≤ c) && decide (c < 128) && bs.getD c.toNat false
def rgStep (bs : List Bool) (s : PL × Int) (c : Int) : PL × Int :=
  let i := decide (c < 128) && bs.getD c.toNat false
  let st := if i && decide (s.2 < 0) then c else s.2
  if !i && decide (0 ≤ st) then (s.1 ++ [(st, c)], -1) else (s.1, st)
def rgTo (bs : List Bool) : Nat → PL × Int
  | 0 => ([], -1)
  | n + 1 => rgStep bs (rgTo bs n) (n : Int)
def rgOf (bs : List Bool) : PL := (rgTo bs 129).1
structure RgI (bs : List Bool) (n : Nat) (s : PL × Int) : Prop where
  can : Can s.1
  st : (s.2 = -1 ∧ ∀ p ∈ s.1, p.2 < (n : Int)) ∨ (0 ≤ s.2 ∧ s.2 < (n : Int) ∧ (n : Int) ≤ 128 ∧ (∀ p ∈ s.1, p.2 < s.2) ∧ ∀ c, s.2 ≤ c → c < (n : Int) → bit bs c = true)
  mem : ∀ c, inP s.1 c = (decide (c < (n : Int)) && (decide (s.2 < 0) || decide (c < s.2)) && bit bs c)
theorem rgI (bs : List Bool) : ∀ n : Nat, n ≤ 129 → RgI bs n (rgTo bs n)
  | 0, _ => ⟨⟨List.Pairwise.nil, fun p h => by cases h⟩, .inl ⟨rfl, fun p h => by cases h⟩, fun c => by
      show inP [] c = _
      rw [inP_nil]
      by_cases h : c < 0
      · have : bit bs c = false := by simp [bit]; omega
        rw [this]; simp
      · have : decide (c < ((0 : Nat) : Int)) = false := by simpa using h
        rw [this]; simp⟩
  | n + 1, hn => by
    have ih := rgI bs n (by omega)
    show RgI bs (n + 1) (rgStep bs (rgTo bs n) (n : Int))
    generalize rgTo bs n = s at ih
    obtain ⟨ps, st⟩ := s
    have hi : (decide ((n : Int) < 128) && bs.getD (n : Int).toNat false) = bit bs (n : Int) := by
      simp [bit]
    unfold rgStep
    dsimp only
    rw [hi]
    have can := ih.can
    have mem := ih.mem
    dsimp only at can mem
    cases hb : bit bs (n : Int) with
    | true =>
      have hn128 : (n : Int) < 128 := by
        unfold bit at hb
        simp only [Bool.and_eq_true, decide_eq_true_eq] at hb
        omega
      rcases ih.st with ⟨h1, h2⟩ | ⟨h1, h2, h3, h4, h5⟩
      · dsimp only at h1 h2
        subst h1
        simp only [Bool.true_and, Bool.not_true, Bool.false_and]
        refine ⟨can, .inr ⟨?_, ?_, ?_, ?_, ?_⟩, ?_⟩
        · simp
        · simp; omega
        · simp; omega
        · simp only [show decide ((-1 : Int) < 0) = true from rfl, if_true]; exact h2
        · intro c c1 c2
          simp at c1 c2
          have : c = n := by omega
          rw [this]; exact hb
        · intro c
          rw [if_neg (by simp)]
          show inP ps c = _
          rw [mem]
          dsimp only
          simp only [show decide ((-1 : Int) < 0) = true from rfl, if_true, Bool.true_or]
          by_cases hc : c < n
          · have a : decide (c < (n : Int)) = true := by simpa using hc
            have b : decide (c < ((n + 1 : Nat) : Int)) = true := by simp; omega
            rw [a, b]
            simp
          · have a : decide (c < (n : Int)) = false := by simpa using hc
            have d : decide ((n : Int) < 0) = false := by simp
            rw [a, d]
            simp
      · dsimp only at h1 h2 h3 h4 h5
        have hd : decide (st < 0) = false := by simp; omega
        simp only [Bool.true_and, Bool.not_true, Bool.false_and, hd, Bool.false_eq_true, if_false]
        refine ⟨can, .inr ⟨h1, by simp; omega, by simp; omega, h4, fun c c1 c2 => ?_⟩, fun c => ?_⟩
        · by_cases hc : c < n
          · exact h5 c c1 hc
          · simp at c2
            have : c = n := by omega
            rw [this]; exact hb
        · dsimp only
          rw [mem]
          rw [hd]
          by_cases hc : c < st
          · have a : decide (c < (n : Int)) = true := by simp; omega
            have b : decide (c < ((n + 1 : Nat) : Int)) = true := by simp; omega
            rw [a, b]
          · have : decide (c < st) = false := by simpa using hc
            rw [this]
            simp
    | false =>
      rcases ih.st with ⟨h1, h2⟩ | ⟨h1, h2, h3, h4, h5⟩
      · dsimp only at h1 h2
        subst h1
        simp only [Bool.false_and, Bool.false_eq_true, if_false, Bool.not_false, Bool.true_and]
        rw [if_neg (by simp)]
        refine ⟨can, .inl ⟨rfl, fun p hp => by have := h2 p hp; simp; omega⟩, fun c => ?_⟩
        dsimp only
        rw [mem]
        by_cases hc : c < n
        · have a : decide (c < (n : Int)) = true := by simpa using hc
          have b : decide (c < ((n + 1 : Nat) : Int)) = true := by simp; omega
          rw [a, b]
        · by_cases hcn : c = n
          · rw [hcn, hb]; simp
          · have a : decide (c < (n : Int)) = false := by simpa using hc
            have b : decide (c < ((n + 1 : Nat) : Int)) = false := by simp; omega
            rw [a, b]
      · dsimp only at h1 h2 h3 h4 h5
        have hd : decide (0 ≤ st) = true := by simpa using h1
        simp only [Bool.false_and, Bool.false_eq_true, if_false, Bool.not_false, Bool.true_and, hd, if_true]
        refine ⟨⟨?_, ?_⟩, .inl ⟨rfl, ?_⟩, fun c => ?_⟩
        · rw [List.pairwise_append]
          refine ⟨can.pw, by simp, fun p hp q hq => ?_⟩
          have : q = (st, (n : Int)) := by simpa using hq
          subst this
          exact h4 p hp
        · intro p hp
          rcases List.mem_append.mp hp with hp | hp
          · exact can.bd p hp
          · have : p = (st, (n : Int)) := by simpa using hp
            subst this
            exact ⟨h1, h2, h3⟩
        · intro p hp
          rcases List.mem_append.mp hp with hp | hp
          · have := h4 p hp; simp; omega
          · have : p = (st, (n : Int)) := by simpa using hp
            subst this
            simp; omega
        · dsimp only
          rw [inP_app, mem]
          have e : inP [(st, (n : Int))] c = (decide (st ≤ c) && decide (c < (n : Int))) := by simp [inP]
          have hds : decide (st < 0) = false := by simp; omega
          rw [e, hds]
          by_cases c1 : c < st
          · have a : decide (c < (n : Int)) = true := by simp; omega
            have b : decide (c < ((n + 1 : Nat) : Int)) = true := by simp; omega
            have f : decide (st ≤ c) = false := by simp; omega
            have g : decide (c < st) = true := by simpa using c1
            rw [a, b, f, g]; simp
          · by_cases c2 : c < n
            · have a : decide (c < (n : Int)) = true := by simpa using c2
              have b : decide (c < ((n + 1 : Nat) : Int)) = true := by simp; omega
              have f : decide (st ≤ c) = true := by simp; omega
              have g : decide (c < st) = false := by simpa using c1
              rw [a, b, f, g, h5 c (by omega) c2]; simp
            · have a : decide (c < (n : Int)) = false := by simpa using c2
              by_cases hcn : c = n
              · rw [hcn, hb]; simp
              · have b : decide (c < ((n + 1 : Nat) : Int)) = false := by simp; omega
                rw [a, b]; simp
theorem rg_spec (bs : List Bool) : Can (rgOf bs) ∧ ∀ c, inP (rgOf bs) c = bit bs c := by
  have h := rgI bs 129 (Nat.le_refl _)
  refine ⟨h.can, fun c => ?_⟩
  unfold rgOf
  rw [h.mem]
  rcases h.st with ⟨h1, h2⟩ | ⟨h1, h2, h3, h4, h5⟩
  · rw [h1]
    cases hb : bit bs c with
    | false => simp
    | true =>
      unfold bit at hb
      simp only [Bool.and_eq_true, decide_eq_true_eq] at hb
      simp
      omega
  · exfalso
    simp at h3
def codeBits (f : Int → Bool) : List Bool := (List.range 128).map fun (i : Nat) => f (i : Int)
theorem bit_codes (f : Int → Bool) (c : Int) : bit (codeBits f) c = (decide (0 ≤ c) && decide (c < 128) && f c) := by
  unfold bit codeBits
  by_cases h : 0 ≤ c ∧ c < 128
  · obtain ⟨n, rfl⟩ : ∃ n : Nat, c = (n : Int) := ⟨c.toNat, by omega⟩
    have hn : n < 128 := by omega
    simp [List.getD, hn]
  · by_cases h0 : 0 ≤ c
    · have : decide (c < 128) = false := by simp; omega
      rw [this]; simp
    · have : decide (0 ≤ c) = false := by simpa using h0
      rw [this]; simp
/-- the one form of the codes that f has -/
def setOf (f : Int → Bool) : PL := rgOf (codeBits f)
theorem set_can (f : Int → Bool) : Can (setOf f) := (rg_spec _).1
theorem set_mem (f : Int → Bool) (c : Int) : inP (setOf f) c = (decide (0 ≤ c) && decide (c < 128) && f c) := ((rg_spec _).2 c).trans (bit_codes f c)
theorem can_out {ps : PL} (h : Can ps) {c : Int} (hc : c < 0 ∨ 128 ≤ c) : inP ps c = false := inP_false.mpr fun p hp => by have := h.bd p hp; omega
theorem set_eq {ps : PL} {f : Int → Bool} (h : Can ps) (hm : ∀ c, 0 ≤ c → c < 128 → inP ps c = f c) : ps = setOf f := can_eq h (set_can f) fun c => by
  rw [set_mem]
  by_cases hc : 0 ≤ c ∧ c < 128
  · rw [hm c hc.1 hc.2]
    have a : decide (0 ≤ c) = true := by simpa using hc.1
    have b : decide (c < 128) = true := by simpa using hc.2
    rw [a, b]; simp
  · rw [can_out h (by omega)]
    by_cases h0 : 0 ≤ c
    · have b : decide (c < 128) = false := by simp; omega
      rw [b]; simp
    · have a : decide (0 ≤ c) = false := by simpa using h0
      rw [a]; simp
theorem set_congr {f g : Int → Bool} (h : ∀ c, 0 ≤ c → c < 128 → f c = g c) : setOf f = setOf g := by
  unfold setOf codeBits
  congr 1
  apply List.map_congr_left
  intro i hi
  have := List.mem_range.mp hi
  exact h _ (by omega) (by omega)
/-! make_set -/
def mkStep (acc : PL) (p : Int × Int) : PL :=
  if p.2 ≤ p.1 then acc else
  match acc.getLast? with
  | none => acc ++ [p]
  | some l => if p.1 ≤ l.2 then acc.dropLast ++ [(l.1, max l.2 p.2)] else acc ++ [p]
def lexL (x y : Int × Int) : Prop := x.1 < y.1 ∨ (x.1 = y.1 ∧ x.2 ≤ y.2)
theorem mk_spec : ∀ (qs acc : PL), qs.Pairwise lexL → (∀ p ∈ qs, p.1 < p.2 → 0 ≤ p.1 ∧ p.2 ≤ 128) → Can acc → (∀ a ∈ acc, ∀ q ∈ qs, a.1 ≤ q.1) → Can (qs.foldl mkStep acc) ∧ ∀ c, inP (qs.foldl mkStep acc) c = (inP acc c || inP qs c)
  | [], acc, _, _, hc, _ => ⟨hc, fun c => by simp [inP_nil]⟩
  | q :: qs, acc, hp, hb, hc, ha => by
    obtain ⟨hq, hp'⟩ := List.pairwise_cons.mp hp
    have hb' : ∀ p ∈ qs, p.1 < p.2 → 0 ≤ p.1 ∧ p.2 ≤ 128 := fun p h => hb p (List.mem_cons_of_mem _ h)
    have key : Can (mkStep acc q) ∧ (∀ a ∈ mkStep acc q, ∀ r ∈ qs, a.1 ≤ r.1) ∧ ∀ c, inP (mkStep acc q) c = (inP acc c || (decide (q.1 ≤ c) && decide (c < q.2))) := by
      unfold mkStep
      by_cases he : q.2 ≤ q.1
      · rw [if_pos he]
        refine ⟨hc, fun a h r hr => ha a h r (List.mem_cons_of_mem _ hr), fun c => ?_⟩
        by_cases h1 : q.1 ≤ c
        · have : decide (c < q.2) = false := by simp; omega
          rw [this]; simp
        · have : decide (q.1 ≤ c) = false := by simpa using h1
          rw [this]; simp
      · rw [if_neg he]
        have bq := hb q List.mem_cons_self (by omega)
        have hqr : ∀ r ∈ qs, q.1 ≤ r.1 := fun r hr => by
          rcases hq r hr with h | h <;> omega
        have snoc : (∀ a ∈ acc, a.2 < q.1) → Can (acc ++ [q]) ∧ (∀ a ∈ acc ++ [q], ∀ r ∈ qs, a.1 ≤ r.1) ∧ ∀ c, inP (acc ++ [q]) c = (inP acc c || (decide (q.1 ≤ c) && decide (c < q.2))) := fun hl => by
          refine ⟨⟨?_, ?_⟩, ?_, fun c => ?_⟩
          · rw [List.pairwise_append]
            refine ⟨hc.pw, by simp, fun a h b hb => ?_⟩
            have : b = q := by simpa using hb
            subst this
            exact hl a h
          · intro p hp
            rcases List.mem_append.mp hp with hp | hp
            · exact hc.bd p hp
            · have : p = q := by simpa using hp
              subst this
              exact ⟨bq.1, by omega, bq.2⟩
          · intro a h r hr
            rcases List.mem_append.mp h with h | h
            · exact ha a h r (List.mem_cons_of_mem _ hr)
            · have : a = q := by simpa using h
              subst this
              exact hqr r hr
          · rw [inP_app]; simp [inP]
        cases hl : acc.getLast? with
        | none =>
          have : acc = [] := by simpa using hl
          subst this
          exact snoc fun a h => by cases h
        | some l =>
          obtain ⟨ys, rfl⟩ := List.getLast?_eq_some_iff.mp hl
          dsimp only
          have pw := List.pairwise_append.mp hc.pw
          by_cases hm : q.1 ≤ l.2
          · rw [if_pos hm]
            simp only [List.dropLast_concat]
            have bl := hc.bd l (by simp)
            have hlq : l.1 ≤ q.1 := ha l (by simp) q List.mem_cons_self
            refine ⟨⟨?_, ?_⟩, ?_, fun c => ?_⟩
            · rw [List.pairwise_append]
              refine ⟨pw.1, by simp, fun a h b hb => ?_⟩
              have : b = (l.1, max l.2 q.2) := by simpa using hb
              subst this
              exact pw.2.2 a h l (by simp)
            · intro p hp
              rcases List.mem_append.mp hp with hp | hp
              · exact hc.bd p (List.mem_append_left _ hp)
              · have : p = (l.1, max l.2 q.2) := by simpa using hp
                subst this
                dsimp only
                omega
            · intro a h r hr
              rcases List.mem_append.mp h with h | h
              · exact ha a (List.mem_append_left _ h) r (List.mem_cons_of_mem _ hr)
              · have : a = (l.1, max l.2 q.2) := by simpa using h
                subst this
                exact ha l (by simp) r (List.mem_cons_of_mem _ hr)
            · rw [inP_app, inP_app, Bool.or_assoc]
              congr 1
              simp only [inP, List.any_cons, List.any_nil, Bool.or_false]
              rw [Bool.eq_iff_iff]
              simp only [Bool.or_eq_true, Bool.and_eq_true, decide_eq_true_eq]
              omega
          · rw [if_neg hm]
            refine snoc fun a h => ?_
            rcases List.mem_append.mp h with h | h
            · have h1 := pw.2.2 a h l (by simp)
              have h2 := hc.bd l (by simp)
              omega
            · have : a = l := by simpa using h
              subst this
              omega
    obtain ⟨k1, k2, k3⟩ := key
    obtain ⟨r1, r2⟩ := mk_spec qs (mkStep acc q) hp' hb' k1 k2
    refine ⟨r1, fun c => ?_⟩
    show inP (qs.foldl mkStep (mkStep acc q)) c = _
    rw [r2, k3, inP_cons, Bool.or_assoc]
theorem mk_set {ps qs : PL} (hp : qs.Perm ps) (hs : qs.Pairwise lexL) (hb : ∀ p ∈ ps, p.1 < p.2 → 0 ≤ p.1 ∧ p.2 ≤ 128) : qs.foldl mkStep [] = setOf (inP ps) := by
  obtain ⟨h1, h2⟩ := mk_spec qs [] hs (fun p h => hb p (hp.mem_iff.mp h)) ⟨List.Pairwise.nil, fun p h => by cases h⟩ (fun a h => by cases h)
  refine set_eq h1 fun c _ _ => ?_
  rw [h2, inP_nil, Bool.false_or]
  rw [Bool.eq_iff_iff, inP_iff, inP_iff]
  constructor
  · rintro ⟨p, h, r⟩; exact ⟨p, hp.mem_iff.mp h, r⟩
  · rintro ⟨p, h, r⟩; exact ⟨p, hp.mem_iff.mpr h, r⟩
/-! sorted -/
def lexB (x y : Int × Int) : Bool := decide (x.1 < y.1) || (decide (x.1 = y.1) && decide (x.2 ≤ y.2))
def sortP (ps : PL) : PL := ps.mergeSort lexB
theorem sort_perm (ps : PL) : (sortP ps).Perm ps := List.mergeSort_perm _ _
theorem sort_lex (ps : PL) : (sortP ps).Pairwise lexL := by
  have := List.pairwise_mergeSort (le := lexB) (fun a b c => by
    unfold lexB
    simp only [Bool.or_eq_true, Bool.and_eq_true, decide_eq_true_eq]
    omega) (fun a b => by
    unfold lexB
    simp only [Bool.or_eq_true, Bool.and_eq_true, decide_eq_true_eq]
    omega) ps
  exact this.imp fun h => by
    unfold lexB at h
    simp only [Bool.or_eq_true, Bool.and_eq_true, decide_eq_true_eq] at h
    exact h
theorem can_len {ps : PL} (h : Can ps) : ps.length ≤ 128 := by
  have : ∀ (ps : PL) (lo : Int), Can ps → 0 ≤ lo → lo ≤ 128 → (∀ p ∈ ps, lo ≤ p.1) → (ps.length : Int) ≤ 128 - lo := by
    intro ps
    induction ps with
    | nil => intro lo _ _ _ _; simp; omega
    | cons p ps ih =>
      intro lo h h0 h1 h2
      have b := h.bd p List.mem_cons_self
      have := h2 p List.mem_cons_self
      have := ih p.2 h.tail (by omega) (by omega) fun q hq => by have := h.first q hq; omega
      simp only [List.length_cons]
      omega
  have := this ps 0 h (by omega) (by omega) fun p hp => (h.bd p hp).1
  omega
end Lw
end

section
set_option Elab.async false
set_option linter.all false
set_option maxRecDepth 100000
set_option maxHeartbeats 4000000
namespace L2
open PySem PySem.Spec PyProof.Rows
theorem tuple_mul1 (l : Addr) (items : Array Value) (n : Nat) (dd : Option Addr) (sl : Array (Option Value)) (u : Tok) :
    Meets (Builtin.«tuple.__mul__» ⟨[.ref l, .int 1 u], []⟩) (fun _ R s => s.heap.get? l = some { cls := .type "tuple", dict := dd, data := .seq items n, slots := sl } ∧
      R (.ok (.ret (Value.ref l))) s) :=
  .of_wp fun prog w A R s h => by
    obtain ⟨hp, g, d, tk, os⟩ := s
    obtain ⟨hl, h⟩ := h
    have f1 := AutoSeq1.idx_int
    have c0 : (decide ((1 : Int) < -(2 ^ 63)) || decide ((1 : Int) ≥ 2 ^ 63)) = false := by decide
    have c1 : (items.isEmpty || (1 : Int) == 1) = true := by simp
    wp_walk using wpAny_loadPart' hl
    repeat (first
      | (refine wpAny_ite_false (decide_eq_false (by rw [c0]; exact Bool.false_ne_true)) ?_; wp_walk using wpAny_loadPart' hl)
      | (refine wpAny_ite_true (decide_eq_true (by rw [c1])) ?_; wp_walk using wpAny_loadPart' hl))
    exact ⟨_, rfl, h⟩
theorem tuple_mul0 (l : Addr) (items : Array Value) (n : Nat) (dd : Option Addr) (sl : Array (Option Value)) (u : Tok) (c : items.isEmpty = false) :
    Meets (Builtin.«tuple.__mul__» ⟨[.ref l, .int 0 u], []⟩) (fun _ R s => s.heap.get? l = some { cls := .type "tuple", dict := dd, data := .seq items n, slots := sl } ∧
      R (.ok (.ret (Value.ref s.heap.objs.size))) { s with heap := s.heap.push { cls := Value.type "tuple", data := Data.seq #[] }, toks := s.toks }) :=
  .of_wp fun prog w A R s h => by
    obtain ⟨hp, g, d, tk, os⟩ := s
    obtain ⟨hl, h⟩ := h
    have f1 := AutoSeq1.idx_int
    have c0 : (decide ((0 : Int) < -(2 ^ 63)) || decide ((0 : Int) ≥ 2 ^ 63)) = false := by decide
    have c1 : (items.isEmpty || (0 : Int) == 1) = false := by simp [c]
    have c2 : (decide ((0 : Int) ≤ 0) || items.isEmpty) = true := by simp
    wp_walk using wpAny_loadPart' hl
    repeat (first
      | (refine wpAny_ite_false (decide_eq_false (by rw [c0]; exact Bool.false_ne_true)) ?_; wp_walk using wpAny_loadPart' hl)
      | (refine wpAny_ite_false (decide_eq_false (by rw [c1]; exact Bool.false_ne_true)) ?_; wp_walk using wpAny_loadPart' hl)
      | (refine wpAny_ite_true (decide_eq_true (by rw [c2])) ?_; wp_walk using wpAny_loadPart' hl))
    exact ⟨_, rfl, h⟩
def rRep1 (K : PySem.W.Frag) : R2 := fun x y H Q => ∃ l xs, x = .ref l ∧ y = .int 1 ∧ SqT K H l xs ∧ Q (.ref l) H
def rRep0 (K : PySem.W.Frag) : R2 := fun x y H Q => ∃ l xs, x = .ref l ∧ y = .int 0 ∧ SqT K H l xs ∧ xs ≠ [] ∧ ∀ p, H p = none → Q (.ref p) (upd H p (.tup []))
section
variable {X : Cx}
theorem op_rep1 : OpR X (binaryOp .Mult) (rRep1 X.K) := by
  intro pins s σ H x y v u Q I rx ry h
  obtain ⟨l, xs, rfl, rfl, hT, q⟩ := h
  cases rx
  obtain ⟨t, rfl⟩ := ry
  obtain ⟨its, r, ⟨⟨cls, dd, data, sl⟩, ho, hc, n, hd⟩, hs⟩ := I.tuple hT
  simp only at hc hd
  subst hc hd
  refine wpAny_binaryOp_repeat_ref (T := "tuple") (U := "int") (by decide) ⟨_, ho, rfl⟩ (fun s' => typeIs_int s' 1 t) noFill_tuple_mul F.fills_int_mul F.slot_int_rmul repeat_tuple F.slot_int_index.lookup
    (call_meets F.slot_int_rmul (typeIs_int s 1 t) F.entry_int_rmul (F.args_int_rmul_2 _ _) (int_rmul_tuple 1 t l its.toArray n dd sl)
      ⟨ho, rfl, ⟨_, ho, rfl⟩, call_meets F.slot_tuple_mul ⟨_, ho, rfl⟩ F.entry_tuple_mul (F.args_tuple_mul_2 _ _) (tuple_mul1 l its.toArray n dd sl t) ⟨ho, ?_⟩⟩)
  exact ⟨.ref l, _, I, rfl, q⟩
theorem op_rep0 : OpR X (binaryOp .Mult) (rRep0 X.K) := by
  intro pins s σ H x y v u Q I rx ry h
  obtain ⟨l, xs, rfl, rfl, hT, hne, q⟩ := h
  cases rx
  obtain ⟨t, rfl⟩ := ry
  obtain ⟨its, r, ⟨⟨cls, dd, data, sl⟩, ho, hc, n, hd⟩, hs⟩ := I.tuple hT
  simp only at hc hd
  subst hc hd
  have hle : its.length = xs.length := r.length.symm
  have hn : its ≠ [] := fun e => hne (by
    rw [e] at hle
    exact List.eq_nil_of_length_eq_zero hle.symm)
  have hi : its.toArray.isEmpty = false := by
    cases its with
    | nil => exact absurd rfl hn
    | cons a b => rfl
  refine wpAny_binaryOp_repeat_ref (T := "tuple") (U := "int") (by decide) ⟨_, ho, rfl⟩ (fun s' => typeIs_int s' 0 t) noFill_tuple_mul F.fills_int_mul F.slot_int_rmul repeat_tuple F.slot_int_index.lookup
    (call_meets F.slot_int_rmul (typeIs_int s 0 t) F.entry_int_rmul (F.args_int_rmul_2 _ _) (int_rmul_tuple 0 t l its.toArray n dd sl)
      ⟨ho, rfl, ⟨_, ho, rfl⟩, call_meets F.slot_tuple_mul ⟨_, ho, rfl⟩ F.entry_tuple_mul (F.args_tuple_mul_2 _ _) (tuple_mul0 l its.toArray n dd sl t hi) ⟨ho, ?_⟩⟩)
  refine ⟨.ref s.heap.objs.size, _, I.laid (t' := s.toks) (o := .tup []) (fun b ob q => Heap.get?_push_of_some _ q) (Nat.le_refl _) ?_, rfl, q _ (I.hok.fresh (Nat.le_refl _))⟩
  exact ⟨by simp, [], .nil, IsTup.new _ _⟩
end
/-- a tuple times a number up to 1000 -/
def rMulT (K : PySem.W.Frag) : R2 := fun x y H Q => rRep1 K x y H Q ∨ rRep0 K x y H Q ∨ rRepT K x y H Q
theorem op_mulT {X : Cx} : OpR X (binaryOp .Mult) (rMulT X.K) := OpR.or op_rep1 (OpR.or op_rep0 op_repT)
/-- a text times a number up to 1000 -/
def rMulS : R2 := fun x y H Q => ∃ a k, x = .str a ∧ y = .int k ∧ 0 ≤ k ∧ k ≤ 1000 ∧ a.length ≤ 1000 ∧ Q (.str (Txt.mul a k)) H
theorem mulOk_of {a : Str} {k : Int} (h0 : 0 ≤ k) (h1 : k ≤ 1000) (ha : a.length ≤ 1000) : MulOk a k := by
  refine ⟨?_, fun hk _ => ?_, fun hk _ => ?_⟩
  · rw [decide_eq_false (by omega), decide_eq_false (by omega)]
    rfl
  · have : (1000 : Int) ≤ (2 ^ 63 - 1) / k := by
      rw [Int.le_ediv_iff_mul_le (by omega)]
      omega
    omega
  · have : a.length * k.toNat ≤ 1000 * 1000 := Nat.mul_le_mul ha (by omega)
    unfold Builtin.Str.tooLong
    rw [sizeLine_eq]
    simp
    omega
theorem op_mulS {X : Cx} : OpR X (binaryOp .Mult) rMulS := by
  intro pins s σ H x y v u Q I rx ry h
  obtain ⟨a, k, rfl, rfl, h0, h1, ha, q⟩ := h
  obtain ⟨t, rfl⟩ := rx
  obtain ⟨t2, rfl⟩ := ry
  exact PySem.SB.mul (mulOk_of h0 h1 ha) fun t' k' => ⟨.str _, H, I.tok _, ⟨_, rfl⟩, q⟩
end L2
end

section
set_option Elab.async false
set_option linter.all false
set_option maxRecDepth 100000
set_option maxHeartbeats 4000000
namespace L2
open PySem PySem.Spec PyProof.Rows
section
variable {X : Cx} {e : Expr} {st : Expr} {te : TE} {ts : TO} {p2 pos : Pos}
def tRsl (K : PySem.W.Frag) (te : TE) (ts : TO) : TE := fun σ H Q => te σ H fun x H1 => ts σ H1 fun u H2 => u = some (-1) ∧ ∃ a xs, x = .ref a ∧ SqL K H2 a xs ∧ ∀ p, H2 p = none → Q (.ref p) (upd H2 p (.lst xs.reverse))
/-- a[::-1], a list -/
theorem pe_rsl {K : PySem.W.Frag} (hX : X.K = K) (he : PE X e te) (hs : PO X (some st) ts) : PE X (.Subscript e (.Slice none none (some st) p2) pos) (tRsl K te ts) := by
  subst hX
  refine ⟨fun pins s σ H Q I h => ?_⟩
  refine Subscript_ (thn (he.run pins s σ H _ I h) fun v s1 ⟨x, H1, I1, r1, q1⟩ => ?_)
  refine wpAny_Slice ?_
  rw [evalPart_none]
  refine wpAny_pure ?_
  refine wpAny_pure ?_
  refine thn (hs.run pins s1 σ H1 _ I1 q1) fun vs s3 ⟨u, H3, I3, pu, q3⟩ => ?_
  obtain ⟨rfl, a, xs, rfl, hx, q⟩ := q3
  have I4 : Inv X pins σ H3 { s3 with heap := s3.heap.push { cls := .type "slice", data := .fields #[.none, .none, vs] } } := I3.kept (t' := s3.toks) fun b ob q => Heap.get?_push_of_some _ q
  have hsl : Heap.IsSliceOf (s3.heap.push { cls := .type "slice", data := .fields #[.none, .none, vs] }) s3.heap.objs.size .none .none vs := Heap.IsSliceOf.new ..
  cases r1
  obtain ⟨its, r, ht, hz⟩ := I4.list hx
  have hlen := r.length
  show wpAny (model X.prog X.w) X.A (subscriptTail e (.Slice none none (some st) p2) (.ref a) (.ref s3.heap.objs.size)) (EP X pins σ Q) X.xe { s3 with heap := s3.heap.push { cls := .type "slice", data := .fields #[.none, .none, vs] } }
  refine tail_any (ops := [.ref a, .ref s3.heap.objs.size]) (T := "list") ht.isList.typeIs slot_list_getitem.lookup ?_ (by with_unfolding_all rfl)
  refine wpAny_getItem_list_slice ht.isList hsl .none .none pu (by simp) ?_ (by rw [List.size_toArray]; omega)
  rw [PySem.W.krv_pick]
  refine ⟨.ref _, _, I4.laid (t' := s3.toks) (o := .lst xs.reverse) (fun b ob q => Heap.get?_push_of_some _ q) (Nat.le_refl _) ?_, rfl, q _ (I4.hok.fresh (Nat.le_refl _))⟩
  exact ⟨by rw [List.length_reverse]; exact hz, _, 0, r.reverse, Heap.get?_push_size _ rfl⟩
end
end L2
end

section
set_option Elab.async false
set_option linter.all false
set_option maxRecDepth 100000
set_option maxHeartbeats 4000000
/-! sum(f(a, b) for a, b in t), t a tuple of pairs of numbers; the def's table of code objects may grow, and what is told of it stays the same -/
namespace GSum
open PySem PySem.Spec PyProof.Rows L2
/-- a table of code objects, whatever it holds -/
def TbO (P : Addr) : HO := .ext fun h => ∃ ps : Array Value, h.get? P = some ({ cls := .none, data := .fields ps } : Obj) ∧ TriplesOk ps.toList
section
variable {P : Addr} {h h' : Heap}
theorem tbo_ok {pr : Program} {w : World} {H : Hp} {ps : Array Value} (e : h.get? P = some ({ cls := .none, data := .fields ps } : Obj)) (t : TriplesOk ps.toList) : ObjOk pr w H h P (TbO P) :=
  ⟨⟨ps, e, t⟩, ⟨_, e⟩, fun h1 h2 ⟨qs, e1, t1⟩ k => ⟨qs, k _ e1, t1⟩⟩
theorem tbo_at {pr : Program} {w : World} {H : Hp} (x : HOk pr w H h) (e : H P = some (TbO P)) : ∃ ps : Array Value, h.get? P = some ({ cls := .none, data := .fields ps } : Obj) ∧ TriplesOk ps.toList := (x P _ e).1
end
section
variable {X : Cx} {pins : List (Addr × Obj)} {σ : L2.St} {H : Hp} {s : Shared}
theorem inv_grow {P : Addr} {ps : Array Value} {h' : Heap} {g' : Array GenState} {d' : Drawn} {t' : Nat} (I : Inv X pins σ H s) (hP : H P = some (TbO P)) (k : ∀ b o, b ≠ P → s.heap.get? b = some o → h'.get? b = some o)
    (hm : h'.get? P = some ({ cls := .none, data := .fields ps } : Obj)) (ht : TriplesOk ps.toList) (hg : AllBare g') : Inv X pins σ H { s with heap := h', gens := g', drawn := d', toks := t' } := by
  have free : ∀ {b : Addr}, H b = none → b ≠ P := fun {b} e z => by
    subst z
    rw [hP] at e
    cases e
  have own : ∀ {b x : Addr}, H b = some (.own x) → b ≠ P := fun {b x} e z => by
    subst z
    rw [hP] at e
    cases e
  refine I.step (g' := g') (d' := d') (ch := []) (fun _ z => absurd z (by simp)) (fun b o _ _ _ e n => k b o (free n) e) (fun b o _ _ _ e n => ⟨o.slots, k b o (free n) e⟩) (fun _ _ _ _ n => n)
    (fun b o _ e => ?_) (fun _ _ e => e) (fun _ _ _ e => e) (fun b qs e => ⟨#[], by rw [e]; simp⟩) (fun m ⟨o, es, ep, ho, r⟩ => ⟨o, es, ep, k _ o (free I.free) ho, r⟩) (fun b u e => ?_) hg
  · by_cases hb : b = P
    · subst hb
      exact ⟨_, hm⟩
    · exact ⟨o, k b o hb e⟩
  · by_cases hb : b = P
    · subst hb
      rw [hP] at e
      cases e
      exact tbo_ok hm ht
    · refine (I.hok b u e).stay (fun c v hc q => k c v ?_ q) (fun _ q => q) fun _ _ q => q
      rcases hc with z | z
      · rw [z]
        exact hb
      · exact own z
end
/-! ### walking a tuple of pairs -/
theorem go_tupleiter {prog : Program} {w : World} {A : Around} {E : Value → Shared → Prop} {s : Shared} {elts : List Expr} {x1} {pos : Pos} {I l T : Addr} {i : Nat} {Q : Unit → Shared → Prop} (hit : s.heap.IsTupleIter I l i) (hQ : Q () s) :
    wpAny (model prog w) A (letOwnedTupleGo (.Tuple elts x1 pos) (.ref I) (.ref T)) Q E s := by
  obtain ⟨o, ho, hc, hd⟩ := hit
  unfold letOwnedTupleGo
  refine wpAny_bind (wpAny_load ho ?_)
  rw [hc, hd]
  have e : (["enumerate", "zip", "dict_itemiterator", "dict_reverseitemiterator", "odict_iterator", "itertools.zip_longest", "itertools.pairwise"].contains "tuple_iterator") = false := by decide
  show wpAny _ A (if (_ && _) = true then _ else _) Q E s
  rw [e, Bool.false_and, if_neg (by decide)]
  exact wpAny_pure hQ
theorem walks_tt {prog : Program} {w : World} {A : Around} (hh : A.handled = none) (I ax : Addr) (hne : ax ≠ I) (items : Array Value) (Ts : Nat → Addr) (vals : Nat → Array Value)
    (hit : ∀ j, j < items.size → items[j]? = some (.ref (Ts j))) (hTI : ∀ j, j < items.size → Ts j ≠ I) :
    WalksU prog w A I (I :: ax :: (List.range items.size).map Ts) [I] items.size (fun j v => j < items.size ∧ v = vals j)
      (fun j h => h.IsTupleIter I ax j ∧ h.IsTuple ax items ∧ ∀ k, k < items.size → h.IsTuple (Ts k) (vals k))
      (fun j T h => (j < items.size ∧ T = Ts j) ∧ h.IsTupleIter I ax (j + 1) ∧ h.IsTuple ax items ∧ ∀ k, k < items.size → h.IsTuple (Ts k) (vals k)) where
  sub := fun b hb => List.mem_cons.mpr ((List.mem_cons.mp hb).imp id fun z => absurd z (by simp))
  frame := fun j h h' ⟨a, b, c⟩ hk => by
    obtain ⟨oa, ea, ra⟩ := a
    obtain ⟨ob, eb, rb⟩ := b
    refine ⟨⟨oa, hk I (by simp) _ ea, ra⟩, ⟨ob, hk ax (by simp) _ eb, rb⟩, fun k hk' => ?_⟩
    obtain ⟨oc, ec, rc⟩ := c k hk'
    exact ⟨oc, hk (Ts k) (List.mem_cons_of_mem _ (List.mem_cons_of_mem _ (List.mem_map.mpr ⟨k, List.mem_range.mpr hk', rfl⟩))) _ ec, rc⟩
  item := fun i s Q E hi st hQ => wpAny_pyNext_tuple_item st.1 st.2.1 (hit i hi) fun h' hit' hs' => by
    have tup : ∀ k, k < items.size → h'.IsTuple (Ts k) (vals k) := fun k hk' => (st.2.2 k hk').extBut hs'.extBut (hTI k hk')
    exact hQ (Ts i) (vals i) h' s.toks ⟨hi, rfl⟩ (tup i hi) ⟨⟨hi, rfl⟩, hit', st.2.1.extBut hs'.extBut hne, tup⟩ fun b o hb e => hs'.extBut b o (fun z => hb (by simp [z])) e
  go := fun _ _ _ _ _ s _ _ hm hQ => go_tupleiter hm.2.1 (hQ s.heap hm.2 fun _ _ _ e => e)
  apart := fun j T _ hm hmem => by
    have e : T = I := by simpa using hmem
    exact hTI j hm.1.1 (hm.1.2.symm.trans e)
  done := fun s _ _ st hQ => wpAny_pyNext_tuple_end hh st.1 st.2.1 (by simp) fun h' he' => hQ h' s.toks fun b o hb e => he' b o (fun z => hb (by simp [z])) e
  self := fun _ _ _ _ st hQ => wpAny_pyIter_tupleiter st.1 hQ
/-! ### pairs of numbers in the heap -/
def prD (p : Int × Int) : PyData := .tuple [.int p.1, .int p.2]
theorem readsAll_get {h : Heap} : ∀ {l : List Value} {ds : List PyData} {as : List Addr}, ReadsAll h l ds as → l.length = ds.length ∧ ∀ (k : Nat) (d : PyData), ds[k]? = some d → ∃ v bs, l[k]? = some v ∧ Reads h v d bs
  | _, _, _, .nil => ⟨rfl, fun k d e => by simp at e⟩
  | _, _, _, .cons r t => by
    obtain ⟨a, b⟩ := readsAll_get t
    refine ⟨by simp [a], fun k d e => ?_⟩
    cases k with
    | zero =>
      have e' := Option.some.inj e
      subst e'
      exact ⟨_, _, rfl, r⟩
    | succ k => exact b k d e
theorem reads_pair {h : Heap} {v : Value} {p : Int × Int} {as : List Addr} (r : Reads h v (prD p) as) : ∃ T t u, v = .ref T ∧ h.IsTuple T #[.int p.1 t, .int p.2 u] := by
  cases r with
  | tuple h1 h2 h3 h4 =>
    rename_i a o vs n
    obtain ⟨l⟩ := vs
    cases h4 with
    | cons r1 r2 =>
      cases r2 with
      | cons r3 r4 =>
        cases r4
        cases r1
        cases r3
        exact ⟨_, _, _, rfl, o, h1, h2, n, h3⟩
/-- the items of a tuple of pairs, by place -/
structure Prs (h : Heap) (a : Addr) (items : Array Value) (Ts : Nat → Addr) (vals : Nat → Array Value) (ps : List (Int × Int)) : Prop where
  tup : h.IsTuple a items
  len : items.size = ps.length
  it : ∀ j, j < items.size → items[j]? = some (.ref (Ts j))
  pr : ∀ j, j < items.size → h.IsTuple (Ts j) (vals j)
  vl : ∀ j p, ps[j]? = some p → ∃ t u, vals j = #[.int p.1 t, .int p.2 u]
theorem prs_ex {h : Heap} {v : Value} {ps : List (Int × Int)} {as : List Addr} (r : Reads h v (.tuple (ps.map prD)) as) : ∃ a items Ts vals, v = .ref a ∧ Prs h a items Ts vals ps := by
  cases r with
  | tuple h1 h2 h3 h4 =>
    rename_i a o vs n
    obtain ⟨hl, hg⟩ := readsAll_get h4
    have each : ∀ k : Nat, ∃ (T : Addr) (w : Array Value), ∀ p, ps[k]? = some p → vs[k]? = some (.ref T) ∧ h.IsTuple T w ∧ ∃ t u, w = #[.int p.1 t, .int p.2 u] := fun k => by
      cases e : ps[k]? with
      | none => exact ⟨0, #[], fun p z => by cases z⟩
      | some p =>
        obtain ⟨x, bs, hx, rx⟩ := hg k (prD p) (by rw [List.getElem?_map, e]; rfl)
        obtain ⟨T, t, u, rfl, ht⟩ := reads_pair rx
        exact ⟨T, _, fun q z => by
          cases z
          exact ⟨by rw [← Array.getElem?_toList]; exact hx, ht, t, u, rfl⟩⟩
    have len : vs.size = ps.length := by simpa using hl
    have at' : ∀ j, j < vs.size → ∃ p, ps[j]? = some p := fun j hj => ⟨ps[j]'(by omega), List.getElem?_eq_getElem _⟩
    refine ⟨a, vs, fun k => Classical.choose (each k), fun k => Classical.choose (Classical.choose_spec (each k)), rfl, ⟨o, h1, h2, n, h3⟩, len, fun j hj => ?_, fun j hj => ?_, fun j p hp => ?_⟩
    · obtain ⟨p, hp⟩ := at' j hj
      exact (Classical.choose_spec (Classical.choose_spec (each j)) p hp).1
    · obtain ⟨p, hp⟩ := at' j hj
      exact (Classical.choose_spec (Classical.choose_spec (each j)) p hp).2.1
    · exact (Classical.choose_spec (Classical.choose_spec (each j)) p hp).2.2
/-! ### the sum -/
/-- the element: a number of two -/
def EltI (prog : Program) (w : World) (scope : Scope) (xa xb : Str) (elt : Expr) (g : Int → Int → Int) : Prop :=
  ∀ (cenv : Env) (A' : Around) (E' : Value → Shared → Prop) (a b : Int) (ta tb : Tok) (s₂ : Shared) (m₂ : Str → Option Value), cenv.scope = scope → s₂.heap.Ns cenv.locals m₂ → m₂ xa = some (.int a ta) → m₂ xb = some (.int b tb) →
    wpAny (model prog w) A' (eval elt cenv) (fun y s₃ => (∃ t', y = .int (g a b) t') ∧ Keeps s₂ s₃) E' s₂
section
variable {X : Cx} {pins : List (Addr × Obj)} {σ : L2.St} {H : Hp} {s : Shared}
/-- the generator at q, ready to be walked, in the state s5 -/
def ReadyI (X : Cx) (pins : List (Addr × Obj)) (σ : L2.St) (H1 : Hp) (l : List Int) (q : Addr) (s5 : Shared) : Prop :=
  ∃ (fp wr : List Addr) (G : Array GenState → Array GenState → Prop) (F : Nat → Value → Prop) (St : Nat → Shared → Prop),
    WalksS X.prog X.w X.A.in1 q fp wr G l.length F St ∧ St 0 s5 ∧ (∀ b ∈ fp, b < s5.heap.objs.size) ∧ (∀ j v, F j v → ∃ t, v = .int (l.getD j 0) t) ∧ ∀ s', Moved wr G s5 s' → Inv X pins σ H1 s'
theorem gen_prs {c P : Addr} {T : List Addr} (hPT : P ∈ T) {elt iter : Expr} {xa xb : Str} {pa pb pt gpos : Pos} {kt : Nat} {scope : Scope} {g : Int → Int → Int} {te : TE} {k : Nat} {Q' : Value → Shared → Prop} {R : List (Int × Int) → Hp → Prop}
    (hr : Room k X.A) (TB : GxR.TabB X.base X.mg c P) (hcode : X.env.code = .ref c) (S : GxR.GenS X.env scope xa) (hxb : scope.names.lookup xb = some .local) (hab : xa ≠ xb) (hi : PE X iter te) (hel : EltI X.prog X.w scope xa xb elt g)
    (hs : ∀ v, genFold iter X.env v = pure v) (I : Inv X pins σ H s) (h : te σ H fun v H1 => ∃ ps : List (Int × Int), Dp X.K H1 v (.tuple (ps.map prD)) ∧ (∀ P ∈ T, H1 P = some (TbO P)) ∧ R ps H1)
    (hQ : ∀ ps H1 q s5, R ps H1 → ReadyI X pins σ H1 (ps.map fun p => g p.1 p.2) q s5 → Q' (.ref q) s5) :
    wpAny (model X.prog X.w) X.A (eval (.GeneratorExp elt [⟨.Tuple [.Name xa pa, .Name xb pb] kt pt, iter, [], 0⟩] scope gpos) X.env) Q' X.xe s := by
  refine wpAny_GeneratorExp_walksQT hr.hd S.co (closure_ok S.free) S.cell S.dot S.loc hxb hab S.kind (by have := hr.dp; omega) ?_ hs
  refine thn (hi.run pins s σ H _ I h) fun xv s1 ⟨v, H1, I1, r1, ps, hdp, hTs, q1⟩ => ?_
  have hP := hTs P hPT
  obtain ⟨as, hrd⟩ := Dp.reads I1 _ _ _ hdp r1
  obtain ⟨a, items, Ts, vals, rfl, pr⟩ := prs_ex hrd
  obtain ⟨tb, hPs, ht⟩ := tbo_at I1.hok hP
  refine wpAny_pyIter_tuple pr.tup ?_
  generalize ho : ({ cls := .type "tuple_iterator", data := .fields #[.ref a, .int 0 0] } : Obj) = o
  have lt : ∀ {b : Addr} {its : Array Value}, s1.heap.IsTuple b its → b < s1.heap.objs.size ∧ b ≠ P := fun {b its} ⟨ob, e, _, n, d⟩ => ⟨Heap.lt_size e, fun z => by
    subst z
    rw [hPs] at e
    cases e
    cases d⟩
  have hPlt : P < s1.heap.objs.size := Heap.lt_size hPs
  have old : ∀ {b : Addr} {ob : Obj}, s1.heap.get? b = some ob → (s1.heap.push o).get? b = some ob := fun {b ob} e => Heap.get?_push_of_some _ e
  have cd : PySem.W.CodeHd (s1.heap.push o) c P := TB.code.keeps fun b u e => old (I1.bk b u e)
  have lim2 : (s1.heap.push o).NoLimit := I1.nolimit.push o
  have hitr : (s1.heap.push o).IsTupleIter s1.heap.objs.size a 0 := by
    subst ho
    exact ⟨_, Heap.get?_push_size _ rfl, rfl, rfl⟩
  have hcl : cStatics < s1.heap.objs.size := let ⟨_, hns, _⟩ := I1.nolimit; hns.lt
  have hcP : cStatics ≠ P := fun e => by
    obtain ⟨_, ⟨o', es, ep, h1, h2, _⟩, _⟩ := I1.nolimit
    rw [e, hPs] at h1
    cases h1
    cases h2
  have cont : ∀ (code : Value) (h3 : Heap) (tk : Nat) (ps' : Array Value), Heap.ExtBut P (s1.heap.push o) h3 → (s1.heap.push o).objs.size ≤ h3.objs.size → h3.get? P = some ({ cls := .none, data := .fields ps' } : Obj) → TriplesOk ps'.toList →
      wpAny (model X.prog X.w) X.A (builtinsFor X.env.globals X.env.builtins) (fun bi s₄ =>
        ∃ Ia fp wr n₀ Pt St₀ Mid pz F, Value.ref s1.heap.objs.size = .ref Ia ∧ (∀ A' : Around, A'.handled = none → WalksU X.prog X.w A' Ia fp wr n₀ Pt St₀ Mid) ∧ (∀ i vals, Pt i vals → ∃ va vb, vals = #[va, vb]) ∧ St₀ 0 s₄.heap ∧ (∀ b ∈ fp, b < s₄.heap.objs.size) ∧ s₄.heap.NoLimit ∧ cStatics ∉ wr ∧
          (∀ href : Heap, (∀ b o, s₄.heap.get? b = some o → href.get? b = some o) →
            QuietGenT X.prog X.w (genEnv scope (cloFrom X.env.cells scope.names []) s₄.heap.objs.size code bi X.env) xa xb [] elt (List.range s₄.heap.objs.size) wr Pt pz F href) ∧
          (∀ a h₅ tk gs, gs.bare = true → s₄.heap.objs.size < a → h₅.objs.size = a + 1 → (∀ b o, s₄.heap.get? b = some o → h₅.get? b = some o) →
            WalksS X.prog X.w X.A.in4 a (a :: s₄.heap.objs.size :: List.range s₄.heap.objs.size) (s₄.heap.objs.size :: wr) (GenOnlyQ s₄.gens.size) (passing pz n₀ 0).length
              (fun j y => ∃ i, (passing pz n₀ 0)[j]? = some i ∧ F i y) (GenAt X.prog X.w X.A.in4 a s₄.gens.size s₄.heap.objs.size (List.range s₄.heap.objs.size) wr pz n₀ F) →
            GenAt X.prog X.w X.A.in4 a s₄.gens.size s₄.heap.objs.size (List.range s₄.heap.objs.size) wr pz n₀ F 0 { s₄ with gens := s₄.gens.push gs, toks := tk, heap := h₅ } →
            Q' (.ref a) { s₄ with gens := s₄.gens.push gs, toks := tk, heap := h₅ })) X.xe { s1 with heap := h3, toks := tk } := by
    intro code h3 tk ps' hx hsz hP3 ht3
    obtain ⟨bm, ob, e1, e2, e3, e4, e5, e6, e7, e8⟩ := TB.bm
    have sz2 : (s1.heap.push o).objs.size = s1.heap.objs.size + 1 := Heap.size_push ..
    have hszI : s1.heap.objs.size < h3.objs.size := by
      have := hsz
      rw [sz2] at this
      exact this
    have keep3 : ∀ b u, b ≠ P → s1.heap.get? b = some u → h3.get? b = some u := fun b u hb e => hx b u hb (old e)
    refine wpAny_builtinsFor (m := X.mg) (by rw [I1.ok.glob]; exact ((I1.mod.glob.keeps I1.bk).push o).extBut hx TB.gP) e1 e2 (keep3 _ _ e4 (I1.bk _ _ e5)) e6 e7 e8 ?_
    have tup3 : ∀ {b : Addr} {its : Array Value}, s1.heap.IsTuple b its → h3.IsTuple b its := fun {b its} q => by
      obtain ⟨ob, e, r⟩ := _root_.id q
      exact ⟨ob, keep3 _ _ (lt q).2 e, r⟩
    have it3 : h3.IsTupleIter s1.heap.objs.size a 0 := hitr.extBut hx (Nat.ne_of_gt hPlt)
    have neI : ∀ {b : Addr}, b < s1.heap.objs.size → b ≠ s1.heap.objs.size := fun z => Nat.ne_of_lt z
    refine ⟨s1.heap.objs.size, s1.heap.objs.size :: a :: (List.range items.size).map Ts, [s1.heap.objs.size], items.size, _, _, _, fun _ => true, fun i y => ∃ p t, ps[i]? = some p ∧ y = .int (g p.1 p.2) t, rfl,
      fun A' hA => walks_tt hA _ a (neI (lt pr.tup).1) items Ts vals pr.it fun j hj => neI (lt (pr.pr j hj)).1, fun i vs hv => ?_, ⟨it3, tup3 pr.tup, fun j hj => tup3 (pr.pr j hj)⟩, fun b hb => ?_, lim2.extBut hx hcP, fun z => ?_, fun href hhref => ⟨?_, ?_⟩, ?_⟩
    · obtain ⟨hi, rfl⟩ := hv
      obtain ⟨t, u, e⟩ := pr.vl i (ps[i]'(by rw [← pr.len]; exact hi)) (List.getElem?_eq_getElem _)
      exact ⟨_, _, e⟩
    · show b < h3.objs.size
      rcases List.mem_cons.mp hb with z | hb
      · rw [z]
        exact hszI
      · rcases List.mem_cons.mp hb with z | hb
        · rw [z]
          exact Nat.lt_trans (lt pr.tup).1 hszI
        · obtain ⟨j, hj, rfl⟩ := List.mem_map.mp hb
          exact Nat.lt_trans (lt (pr.pr j (List.mem_range.mp hj))).1 hszI
    · exact Nat.ne_of_lt hcl (by simpa using z)
    · intro A' E' i va vb s₂ m₂ hA hPv hn hma hmb hk
      simp only [List.forIn_nil]
      exact wpAny_pure ⟨rfl, GxR.keeps_refl _⟩
    · intro A' E' i va vb s₂ m₂ hA hPv hp hn hma hmb hk
      obtain ⟨hi, hv⟩ := hPv
      have hp := List.getElem?_eq_getElem (l := ps) (i := i) (by rw [← pr.len]; exact hi)
      obtain ⟨t, u, e⟩ := pr.vl i _ hp
      rw [e] at hv
      have hv' : va = .int (ps[i]'(by rw [← pr.len]; exact hi)).1 t ∧ vb = .int (ps[i]'(by rw [← pr.len]; exact hi)).2 u := by simpa using hv
      obtain ⟨rfl, rfl⟩ := hv'
      exact wpAny_mono (hel _ A' E' _ _ t u s₂ m₂ rfl hn hma hmb) (fun y s3 r => ⟨r.1.elim fun t' z => ⟨_, t', hp, z⟩, r.2⟩) fun _ _ e => e
    · intro q h5 tk5 gs hgb hag hsz5 hk5 W5 hgat
      simp only [GxR.passing_true, List.length_range] at W5
      have hn5 : items.size = (ps.map fun p => g p.1 p.2).length := by rw [List.length_map]; exact pr.len
      rw [hn5] at W5 hgat
      refine hQ ps H1 q _ q1 ⟨_, _, _, _, _, W5.in4_1, hgat, fun b hb => ?_, fun j v hv => ?_, fun s' hm => ?_⟩
      · show b < h5.objs.size
        rw [hsz5]
        rcases List.mem_cons.mp hb with z | hb
        · rw [z]
          exact Nat.lt_succ_self _
        · rcases List.mem_cons.mp hb with z | hb
          · rw [z]
            exact Nat.lt_succ_of_lt hag
          · exact Nat.lt_succ_of_lt (Nat.lt_trans (List.mem_range.mp hb) hag)
      · obtain ⟨i, hij, p, t, hp, e⟩ := hv
        obtain ⟨hj, ej⟩ := List.getElem?_eq_some_iff.mp hij
        rw [List.getElem_range] at ej
        subst ej
        refine ⟨t, e.trans ?_⟩
        rw [List.getD_eq_getElem?_getD, List.getElem?_map, hp]
        rfl
      · have nwr : ∀ b u, s1.heap.get? b = some u → b ∉ h3.objs.size :: [s1.heap.objs.size] := fun b u e hb => by
          have hl : (b : Nat) < s1.heap.objs.size := Heap.lt_size e
          rcases List.mem_cons.mp hb with z | z
          · rw [z] at hl
            exact Nat.lt_irrefl _ (Nat.lt_trans hl hszI)
          · have z' : b = s1.heap.objs.size := by simpa using z
            rw [z'] at hl
            exact Nat.lt_irrefl _ hl
        have J := inv_grow (h' := s'.heap) (g' := s'.gens) (d' := s'.drawn) (t' := s'.toks) I1 hP (fun b u hb e => hm.heap b u (nwr b u e) (hk5 b u (keep3 b u hb e)))
          (hm.heap P _ (nwr P _ hPs) (hk5 P _ hP3)) ht3 (AllBare.movedS (I1.bare.push hgb) hm)
        rw [GxR.sh_eta s1 s' hm.os] at J
        exact J
  refine ⟨lim2, ?_⟩
  cases hf : codeAmong gpos tb.toList with
  | none =>
    refine wpAny_genexprCodeX hcode (cd.code (old hPs) ht) (cd.tab (old hPs)) hf fun c' h' tk hx hge hlt hco' _ htab' _ => ?_
    obtain ⟨o1, vs, f1, tf, fl, tg, inF, tx, tt, op, _, _, _, _, _, _, _, _, _, htr, _⟩ := hco'
    exact cont _ h' tk _ hx (Nat.le_trans hge (Nat.le_of_lt hlt)) htab'.2 htr
  | some cv =>
    refine wpAny_genexprCode_hit hcode (cd.code (old hPs) ht) hf ?_
    exact cont cv (s1.heap.push o) s1.toks tb (Heap.ExtBut.refl _ _) (Nat.le_refl _) (old hPs) ht
/-- sum(f(a, b) for a, b in t) -/
def tSumG (K : PySem.W.Frag) (T : List Addr) (g : Int → Int → Int) (te : TE) : TE := fun σ H Q => te σ H fun v H1 => ∃ ps : List (Int × Int), Dp K H1 v (.tuple (ps.map prD)) ∧ (∀ P ∈ T, H1 P = some (TbO P)) ∧ Q (.int ((ps.map fun p => g p.1 p.2).sum)) H1
theorem pe_sumG {c P : Addr} {T : List Addr} (hPT : P ∈ T) {elt iter : Expr} {xa xb : Str} {pa pb pt gpos p pos : Pos} {kt : Nat} {scope : Scope} {g : Int → Int → Int} {te : TE} {k : Nat}
    (hr : Room k X.A) (hgl : Gl X "sum") (hm : X.mg "sum" = none) (hbt : bootBuiltins "sum" = some (.builtin "sum")) (TB : GxR.TabB X.base X.mg c P) (hcode : X.env.code = .ref c) (S : GxR.GenS X.env scope xa) (hxb : scope.names.lookup xb = some .local) (hab : xa ≠ xb) (hi : PE X iter te)
    (hel : EltI X.prog X.w scope xa xb elt g) (hs : ∀ v, genFold iter X.env v = pure v)
    (he : starEach [.GeneratorExp elt [⟨.Tuple [.Name xa pa, .Name xb pb] kt pt, iter, [], 0⟩] scope gpos] X.env = (false, eval (.GeneratorExp elt [⟨.Tuple [.Name xa pa, .Name xb pb] kt pt, iter, [], 0⟩] scope gpos) X.env) :: starEach [] X.env := by rfl) :
    PE X (.Call (.Name "sum" p) [.GeneratorExp elt [⟨.Tuple [.Name xa pa, .Name xb pb] kt pt, iter, [], 0⟩] scope gpos] [] pos) (tSumG X.K T g te) := by
  refine ⟨fun pins s σ H Q I h => ?_⟩
  refine wpAny_Call_Name_kw (ld_blt I hgl hm hbt ?_)
  refine PyProof.Rows.callWith_builtin1 ?_ he (by rfl)
  rw [he]
  show wpAny _ _ (spliced ((false, eval (.GeneratorExp elt [⟨.Tuple [.Name xa pa, .Name xb pb] kt pt, iter, [], 0⟩] scope gpos) X.env) :: backTo pos (starEach [] X.env))) _ _ s
  refine Calls.spliced_cons (gen_prs (R := fun (ps : List (Int × Int)) H1 => Q (.int ((ps.map fun p : Int × Int => g p.1 p.2).sum)) H1) hPT hr TB hcode S hxb hab hi hel hs I h fun ps H1 q s5 hR hG => ?_)
  obtain ⟨fp, wr, G, F, St, W, hst, hfp, hval, hI⟩ := hG
  refine Calls.spliced_nil ?_
  refine call_sum_walkAnyS (W.self 0 _ _ _ hst ⟨q, fp, wr, G, _, F, St, fun j => (ps.map fun p => g p.1 p.2).getD j 0, rfl, W, hst, hfp, hval, fun s' t' hmv => ?_⟩)
  refine ⟨.int _, H1, hI s' hmv, ⟨t', rfl⟩, ?_⟩
  rw [preSum_getD, List.take_length]
  exact hR
end
/-! ### elements -/
/-- b - a -/
theorem elt_sub {prog : Program} {w : World} {scope : Scope} {xa xb : Str} {p1 p2 p3 : Pos} (hk : scope.kind = .function) (ha : scope.names.lookup xa = some .local) (hb : scope.names.lookup xb = some .local)
    (da : (xa == ("__debug__" : Str)) = false := by decide) (db : (xb == ("__debug__" : Str)) = false := by decide) : EltI prog w scope xa xb (.BinOp (.Name xb p1) .Sub (.Name xa p2) p3) (fun a b => b - a) := by
  intro cenv A' E' a b ta tb s₂ m₂ hs hn hma hmb
  refine wpAny_BinOp ?_
  refine wpAny_Name (wpAny_loadName_local (by rw [hs]; exact hk) (show cenv.scope.names.lookup xb = some .local by rw [hs]; exact hb) hn hmb ?_) db
  refine wpAny_Name (wpAny_loadName_local (by rw [hs]; exact hk) (show cenv.scope.names.lookup xa = some .local by rw [hs]; exact ha) hn hma ?_) da
  exact sub_int ⟨⟨_, rfl⟩, GxR.keeps_tok _ _⟩
end GSum
end

section
set_option Elab.async false
set_option linter.all false
set_option maxRecDepth 100000
set_option maxHeartbeats 4000000
/-! enumerate of a tuple -/
namespace PySem
open Sem (wp)
set_option maxHeartbeats 4000000 in
theorem meets_enumerate_newT1 {v : Value} {o : Obj} {H : Heap → Prop} (B : Begins v o H) :
    Meets (Builtin.«enumerate.__new__» ⟨[.type "enumerate", v], []⟩) (fun _ R s => H s.heap ∧
      R (.ok (.ret (.ref (s.heap.push o).objs.size))) { s with heap := (s.heap.push o).push { cls := .type "enumerate", data := .fields #[.none, .bool false, .ref s.heap.objs.size, rawInt 0, .none, .none] } }) :=
  .of_wp fun prog w A R s h => by
    obtain ⟨hp, g, d, tk, os⟩ := s; obtain ⟨h1, h⟩ := h
    have hsub := sub_enumerate
    have q1 : ∀ {A' : Around} {E : Value → Shared → Prop} {Q : Value → Shared → Prop}, Q (.ref hp.objs.size) ⟨hp.push o, g, d, tk, os⟩ → wpAny (model prog w) A' (pyIter v) Q E ⟨hp, g, d, tk, os⟩ :=
      fun q => B.iter prog w _ _ ⟨hp, g, d, tk, os⟩ _ h1 q
    wp_walk using q1
    refine wpAny_stack_any fun st => wpAny_pure ?_
    split
    · rename_i c _ _ _ _ _
      cases (c == Value.type "enumerate")
      · wp_walk using q1
        exact ⟨_, rfl, h⟩
      · wp_walk using q1
        exact ⟨_, rfl, h⟩
    · wp_walk using q1
      exact ⟨_, rfl, h⟩
theorem call_enumerate_tup {prog : Program} {w : World} {A : Around} {E : Value → Shared → Prop} {s : Shared} {l : Addr} {items : Array Value} {Q : Value → Shared → Prop} (hL : s.heap.IsTuple l items)
    (h : ∀ h', IsEnum h' (s.heap.objs.size + 1) s.heap.objs.size 0 .none → h'.IsTupleIter s.heap.objs.size l 0 → h'.objs.size = s.heap.objs.size + 2 →
      (∀ b o, s.heap.get? b = some o → h'.get? b = some o) → Q (.ref (s.heap.objs.size + 1)) { s with heap := h' }) :
    wpAny (model prog w) A (call (.type "enumerate") [.ref l]) Q E s := by
  refine callType_new F.called_enumerate (by decide) (F.typeCall_enumerate_1 _) (F.newCall_enumerate_1 _) (fun obj => F.args_object_init_2 obj _) F.entry_enumerate_new
    (meets_enumerate_newT1 (begins_tuple l items)) ⟨hL, ?_⟩
  have hz : (s.heap.push { cls := .type "tuple_iterator", data := .fields #[.ref l, .int 0 0] }).objs.size = s.heap.objs.size + 1 := Heap.size_push ..
  show _ ∧ _
  rw [hz]
  have he : IsEnum ((s.heap.push { cls := .type "tuple_iterator", data := .fields #[.ref l, .int 0 0] }).push
      { cls := .type "enumerate", data := .fields #[.none, .bool false, .ref s.heap.objs.size, rawInt 0, .none, .none] }) (s.heap.objs.size + 1) s.heap.objs.size 0 .none := by
    have := Heap.get?_push_size (s.heap.push { cls := .type "tuple_iterator", data := .fields #[.ref l, .int 0 0] })
      (o := { cls := .type "enumerate", data := .fields #[.none, .bool false, .ref s.heap.objs.size, rawInt 0, .none, .none] }) rfl
    rw [hz] at this; exact this
  refine ⟨⟨_, he, rfl⟩, h _ he ⟨_, Heap.get?_push_of_some _ (Heap.get?_push_size _ rfl), rfl, rfl⟩ (by rw [Heap.size_push, hz]) fun b o x => Heap.get?_push_of_some _ (Heap.get?_push_of_some _ x)⟩
theorem wpAny_pyNext_enum_endT {prog : Program} {w : World} {A : Around} {E : Value → Shared → Prop} {s : Shared} {e it l : Addr} {i : Nat} {items : Array Value} {old : Value} {Q : Option Value → Shared → Prop} (hh : A.handled = none)
    (he : IsEnum s.heap e it i old) (hit : s.heap.IsTupleIter it l i) (hl : s.heap.IsTuple l items) (hx : items[i]? = none)
    (hQ : ∀ h', Heap.ExtBut it s.heap h' → Q none { s with heap := h' }) : wpAny (model prog w) A (pyNext (.ref e)) Q E s := by
  have hT : s.TypeIs (.ref e) "enumerate" := ⟨_, he, rfl⟩
  unfold pyNext
  refine wpAny_bind (wpAny_attempt (wpAny_callSpecial?_slot (name := Str.ofString "__next__") hT F.slot_enumerate_next
    (wpAny_call_entry F.slot_enumerate_next hT F.entry_enumerate_next ?_ (F.args_enumerate_next_1 _))))
  show wpAny _ _ (field (.ref e) 2 >>= _) _ _ _
  refine wpAny_bind (wpAny_field he rfl (x := .ref it) rfl ?_)
  refine wpAny_bind (wpAny_nextOf_tuple_end (A := A.in1) hh hit hl hx fun h' x he' hx' => ?_)
  obtain ⟨o, ho, hc⟩ := hx'
  refine wpAny_bind (wpAny_isInstance (T := "StopIteration") (b := true) ⟨o, ho, hc⟩ isSubtype_stop ?_)
  exact wpAny_pure (hQ _ he')
end PySem
namespace L2
open PySem PySem.Spec PyProof.Rows
/-- the tuple at a, each item in a new pair -/
def Iet (K : PySem.W.Frag) (a : Addr) : It :=
  ⟨fun i H => ∃ (xs : List V) (x : V), SqT K H a xs ∧ xs[i]? = some x, fun i H v H' => ∃ T x, v = .ref T ∧ H T = none ∧ H' = upd H T (.tup [.int (i : Nat), x]) ∧ ∀ xs, SqT K H a xs → xs[i]? = some x, fun i H => ∃ xs : List V, SqT K H a xs ∧ xs.length ≤ i⟩
theorem tupIt_ne {h : Heap} {t it : Addr} {items : Array Value} {i : Nat} (ht : h.IsTuple t items) (hit : h.IsTupleIter it t i) : t ≠ it := by
  rintro rfl
  obtain ⟨o, e, c, _⟩ := ht
  obtain ⟨o', e', c', _⟩ := hit
  rw [e] at e'
  cases e'
  rw [c] at c'
  simp at c'
theorem tupEn_ne {h : Heap} {t e it : Addr} {items : Array Value} {i : Int} {old : Value} (ht : h.IsTuple t items) (he : IsEnum h e it i old) : e ≠ t := by
  rintro rfl
  obtain ⟨o, e', c, _⟩ := ht
  unfold IsEnum at he
  rw [e'] at he
  cases he
  simp at c
theorem turn_enumT {P : Program} {w : World} {K : PySem.W.Frag} {elts : List Expr} {kk : Nat} {tpos : Pos} (a e it : Addr) :
    Turn P w K (.Tuple elts kk tpos) (Iet K a) [e, it] e (fun i h => (∃ old, IsEnum h e it ((i : Nat) : Int) old) ∧ h.IsTupleIter it a i ∧ e ≠ it) where
  mem := by simp
  obj := fun i h st b hb => by
    obtain ⟨⟨old, he⟩, ⟨o, ho, hc, hd⟩, _⟩ := st
    have e' : b = e ∨ b = it := by simpa using hb
    rcases e' with z | z
    · rw [z]; exact ⟨_, he, fun v q => nomatch q⟩
    · rw [z]; exact ⟨o, ho, fun v q => by rw [hd] at q; cases q⟩
  keep := fun i h h' st k => let ⟨⟨old, he⟩, hi, hne⟩ := st; ⟨⟨old, k e (by simp) _ he⟩, hi.at fun o q => k it (by simp) o q, hne⟩
  item := by
    intro X hP hw hK hc i pins s σ H E I hf st hg
    subst hP hw hK
    obtain ⟨⟨old, he⟩, hit, hne⟩ := st
    obtain ⟨xs, x, hq, hx⟩ := hg
    obtain ⟨its, rv, p, hz⟩ := I.tuple hq
    have ht : s.heap.IsTuple a its.toArray := p
    obtain ⟨u, hu, ru⟩ := rv.get hx
    have hel : e < s.heap.objs.size := Heap.lt_size he
    have hil : it < s.heap.objs.size := by obtain ⟨_, q, _⟩ := hit; exact Heap.lt_size q
    have hai := tupIt_ne ht hit
    have hea := tupEn_ne ht he
    have hlt : i < its.toArray.size := by
      have : i < its.length := by
        obtain ⟨h1, _⟩ := List.getElem?_eq_some_iff.mp hu
        exact h1
      simpa using this
    refine wpAny_pyNext_enum_itemC (Draws.tuple (A := X.A.in1) (show X.A.in1.handled = none from I.ok.hd hc) it a hai its.toArray) he ⟨hit, ht⟩ hlt hne (by simp [hne, hea]) fun v h' tk hv ho hst hT hsz hk => ?_
    have hvu : v = u := by
      have e1 : its.toArray[i]? = some u := by simpa using hu
      rw [e1] at hv
      exact (Option.some.inj hv).symm
    subst hvu
    refine ⟨_, rfl, wpAny_letOwnedTupleGo_enum (s := { s with heap := h', toks := tk + 1 }) ho fun h'' he' sb => ?_⟩
    have hT2 : h''.get? s.heap.objs.size = some { cls := .type "tuple", data := .seq #[.int i tk, v] } := (sb.2 _ (Nat.ne_of_gt hel)).trans hT
    have new : ObjOk X.prog X.w (upd H s.heap.objs.size (.tup [.int (i : Nat), x])) h'' s.heap.objs.size (.tup [.int (i : Nat), x]) :=
      ⟨by show 2 ≤ sizeLine; decide, [.int i tk, v], .cons ⟨_, rfl⟩ (.cons ru .nil), ⟨_, hT2, rfl, _, rfl⟩⟩
    have I1 : Inv X pins σ (upd H s.heap.objs.size (.tup [.int (i : Nat), x])) { s with heap := h'', toks := tk + 1 } :=
      I.turnedNew (ch := [e, it]) (fun b ob hb q => (sb.2 b (fun z => hb (by simp [z]))).trans (hk b ob (fun z => hb (by simp [z])) (fun z => hb (by simp [z])) q)) hf (Nat.le_refl _) new
    refine ⟨.ref s.heap.objs.size, _, I1, rfl, ⟨_, x, rfl, I.hok.fresh (Nat.le_refl _), rfl, fun ys hy => by rw [I.tuple_inj hy hq]; exact hx⟩, ⟨⟨v, ?_⟩, hst.1.at fun o q => (sb.2 it (Ne.symm hne)).trans q, hne⟩, fun b hb => ?_⟩
    · have e1 : ((i + 1 : Nat) : Int) = (i : Int) + 1 := by omega
      rw [e1]; exact he'
    · have hb' : b < s.heap.objs.size := by
        have e' : b = e ∨ b = it := by simpa using hb
        rcases e' with z | z
        · rw [z]; exact hel
        · rw [z]; exact hil
      rw [upd_ne (Nat.ne_of_lt hb')]
      exact (hf b hb).1
  done := by
    intro X hP hw hK hc i pins s σ H E I hf st hg
    subst hP hw hK
    obtain ⟨⟨old, he⟩, hit, hne⟩ := st
    obtain ⟨xs, hq, hx⟩ := hg
    obtain ⟨its, rv, p, hz⟩ := I.tuple hq
    have ht : s.heap.IsTuple a its.toArray := p
    obtain ⟨f0, f1, f2, f3, f4, f5⟩ := hf it (by simp)
    have hl := rv.length
    exact wpAny_pyNext_enum_endT (I.ok.hd hc) he hit ht (by simp; omega) fun h' eb => ⟨rfl, I.turned (t' := s.toks) (fun b o hb q => eb b o hb q) f0 f1 f3 f4 f5⟩
  self := fun A i s Q E st h => let ⟨⟨_, he⟩, _⟩ := st; wpAny_pyIter_enum he h
/-- enumerate of a list or of a tuple -/
def iEnB (K : PySem.W.Frag) (ta : TA) : TI := fun σ H R => ta σ H fun vs H1 => ∃ a, vs = [.ref a] ∧ ((∃ xs, SqL K H1 a xs) ∧ R (Ite K a) H1 ∨ (∃ xs, SqT K H1 a xs) ∧ R (Iet K a) H1)
theorem pi_enB {X : Cx} {e : Expr} {ta : TA} {p pos tpos : Pos} {elts : List Expr} {kk : Nat} (hg : Gl X "enumerate") (hm : X.mg "enumerate" = none) (ha : PA X [e] ta) (hs : starEach [e] X.env = [(false, eval e X.env)] := by rfl) :
    PI X (.Tuple elts kk tpos) (.Call (.Name "enumerate" p) [e] [] pos) (iEnB X.K ta) := by
  refine ⟨fun pins s σ H R I h => ?_⟩
  refine Call_ (ld_blt I hg hm boot_enumerate (PyProof.Rows.callWith_type1 (thn (ha.run pos pins s σ H _ I h) fun us s1 ⟨vs, H1, I1, r1, q1⟩ => ?_) hs rfl))
  obtain ⟨a, ex, q⟩ := q1
  subst ex
  cases r1 with
  | cons r rr =>
    cases rr
    cases r
    have fresh : ∀ b, b ∈ [s1.heap.objs.size + 1, s1.heap.objs.size] → s1.heap.objs.size ≤ b := fun b hb => by
      have e' : b = s1.heap.objs.size + 1 ∨ b = s1.heap.objs.size := by simpa using hb
      rcases e' with z | z
      · rw [z]; exact Nat.le_add_right _ _
      · rw [z]; exact Nat.le_refl _
    rcases q with ⟨⟨xs, hq⟩, q⟩ | ⟨⟨xs, hq⟩, q⟩
    · obtain ⟨its, rv, p', hz⟩ := I1.list hq
      refine call_enumerate_list p'.isList fun h' he hit hsz hk => wpAny_pyIter_enum he ?_
      have I2 : Inv X pins σ H1 { s1 with heap := h' } := I1.kept (t' := s1.toks) hk
      exact ⟨s1.heap.objs.size + 1, [s1.heap.objs.size + 1, s1.heap.objs.size], _, _, H1, rfl, I2, turn_enum a (s1.heap.objs.size + 1) s1.heap.objs.size, ⟨⟨.none, he⟩, hit, Nat.succ_ne_self _⟩, fun b hb => I1.fpOk (fresh b hb) (I1.hok.fresh (fresh b hb)), q⟩
    · obtain ⟨its, rv, p', hz⟩ := I1.tuple hq
      refine call_enumerate_tup (show s1.heap.IsTuple a its.toArray from p') fun h' he hit hsz hk => wpAny_pyIter_enum he ?_
      have I2 : Inv X pins σ H1 { s1 with heap := h' } := I1.kept (t' := s1.toks) hk
      exact ⟨s1.heap.objs.size + 1, [s1.heap.objs.size + 1, s1.heap.objs.size], _, _, H1, rfl, I2, turn_enumT a (s1.heap.objs.size + 1) s1.heap.objs.size, ⟨⟨.none, he⟩, hit, Nat.succ_ne_self _⟩, fun b hb => I1.fpOk (fresh b hb) (I1.hok.fresh (fresh b hb)), q⟩
end L2
end

section
set_option Elab.async false
set_option linter.all false
set_option maxRecDepth 100000
set_option maxHeartbeats 4000000
/-! dicts whose keys are tuples of any depth, of numbers, bools, texts and None -/
namespace GDict
open PySem PySem.Spec PyProof.Rows L2
/-! ### data as keys -/
mutual
def nkD : PyData → Option NestedKey
  | .none => some .none
  | .bool b => some (.num (if b = true then 1 else 0))
  | .int i => some (.num i)
  | .str x => some (.text x)
  | .tuple ds => (nkDs ds).map .tup
  | .list _ => none
  | .dict _ => none
def nkDs : List PyData → Option (List NestedKey)
  | [] => some []
  | d :: ds => match nkD d, nkDs ds with
    | some k, some ks => some (k :: ks)
    | _, _ => none
end
mutual
theorem nk_reads {h : Heap} : ∀ (d : PyData) (v : Value) (as : List Addr) (k : NestedKey), Reads h v d as → nkD d = some k → NestedIs h k v
  | .none, _, _, _, r, e => by
    cases r
    cases e
    exact .none
  | .bool b, _, _, _, r, e => by
    cases r
    cases e
    exact .bool rfl
  | .int i, _, _, _, r, e => by
    cases r
    cases e
    exact .int _ _
  | .str x, _, _, _, r, e => by
    cases r
    cases e
    exact .text _ _
  | .tuple ds, _, _, _, r, e => by
    cases r with
    | tuple h1 h2 h3 h4 =>
      simp only [nkD] at e
      obtain ⟨ks, hk, rfl⟩ := Option.map_eq_some_iff.mp e
      exact .tup h1 h2 h3 (nk_readsAll ds _ _ _ h4 hk)
  | .list ds, _, _, _, r, e => by simp [nkD] at e
  | .dict kvs, _, _, _, r, e => by simp [nkD] at e
theorem nk_readsAll {h : Heap} : ∀ (ds : List PyData) (vs : List Value) (as : List Addr) (ks : List NestedKey), ReadsAll h vs ds as → nkDs ds = some ks → NestedAll h ks vs
  | [], _, _, _, r, e => by
    cases r
    simp only [nkDs] at e
    cases e
    exact .nil
  | d :: ds, _, _, _, r, e => by
    cases r with
    | cons r1 r2 =>
      simp only [nkDs] at e
      split at e
      · rename_i k ks hk hks
        cases e
        exact .cons (nk_reads d _ _ _ r1 hk) (nk_readsAll ds _ _ _ r2 hks)
      · cases e
end
/-- the value v is the key k -/
def NkV (K : PySem.W.Frag) (H : Hp) (v : V) (k : NestedKey) : Prop := ∃ ds : List PyData, Dp K H v (.tuple ds) ∧ nkD (.tuple ds) = some k ∧ k.depth ≤ 8
section
variable {X : Cx} {pins : List (Addr × Obj)} {σ : L2.St} {H : Hp} {s : Shared}
theorem NkV.is (I : Inv X pins σ H s) {a : Addr} {k : NestedKey} (h : NkV X.K H (.ref a) k) : (nestedKind X.prog X.w).is s.heap k a := by
  obtain ⟨ds, hd, hk, hz⟩ := h
  obtain ⟨as, r⟩ := Dp.reads I _ _ (.ref a) hd rfl
  exact ⟨nk_reads _ _ _ _ r hk, hz⟩
end
/-! ### the dict as an object of its own -/
abbrev Ent := NestedKey × Addr × V
def EntR (a : Ent) (b : NestedKey × Addr × Value) : Prop := a.1 = b.1 ∧ a.2.1 = b.2.1 ∧ RelV a.2.2 b.2.2
def RawD (P : Program) (w : World) (h : Heap) (d : Addr) (xs : List (NestedKey × Addr × Value)) : Prop :=
  ∃ o es ep, h.get? d = some o ∧ o.ExactDict ∧ o.data = .dict es ep ∧ es.toList = xs.map (entryOfKey (nestedKind P w)) ∧ (xs.map (·.1)).Nodup
/-- at d: a dict with the entries ks -/
def DnO (P : Program) (w : World) (d : Addr) (ks : List Ent) : HO := .ext fun h => (d == sysModules) = false ∧ ks.length ≤ sizeLine ∧ ∃ xs, Paired EntR ks xs ∧ RawD P w h d xs
section
variable {P : Program} {w : World} {H : Hp} {h : Heap} {d : Addr} {ks : List Ent}
theorem dn_ok {xs : List (NestedKey × Addr × Value)} (hs : (d == sysModules) = false) (hl : ks.length ≤ sizeLine) (hp : Paired EntR ks xs) (hm : h.DictOfH (nestedKind P w) d xs) : ObjOk P w H h d (DnO P w d ks) := by
  obtain ⟨o, es, ep, e1, e2, e3, e4, _, e6⟩ := hm
  refine ⟨⟨hs, hl, xs, hp, o, es, ep, e1, e2, e3, e4, e6⟩, ⟨o, e1⟩, fun h1 h2 q k => ?_⟩
  obtain ⟨a, b, ys, c, o', es', ep', f1, f⟩ := q
  exact ⟨a, b, ys, c, o', es', ep', k _ f1, f⟩
theorem paired_is {xs : List (NestedKey × Addr × Value)} {Q : NestedKey → Addr → Prop} : ∀ {ks : List Ent} {xs : List (NestedKey × Addr × Value)}, Paired EntR ks xs → (∀ e ∈ ks, Q e.1 e.2.1) → ∀ x ∈ xs, Q x.1 x.2.1
  | _, _, .nil, _, x, hx => absurd hx (by simp)
  | _, _, .cons r t, h, x, hx => by
    rcases List.mem_cons.mp hx with rfl | hx
    · have := h _ List.mem_cons_self
      rw [r.1, r.2.1] at this
      exact this
    · exact paired_is (xs := []) t (fun e he => h e (List.mem_cons_of_mem _ he)) x hx
theorem dn_at (x : HOk P w H h) (e : H d = some (DnO P w d ks)) (hk : ∀ e ∈ ks, (nestedKind P w).is h e.1 e.2.1) : (d == sysModules) = false ∧ ks.length ≤ sizeLine ∧ ∃ xs, Paired EntR ks xs ∧ h.DictOfH (nestedKind P w) d xs := by
  obtain ⟨a, b, xs, hp, o, es, ep, e1, e2, e3, e4, e5⟩ := (x d _ e).1
  exact ⟨a, b, xs, hp, o, es, ep, e1, e2, e3, e4, paired_is (xs := []) hp hk, e5⟩
end
/-- the object itself says where it stands -/
theorem dn_addr {P : Program} {w : World} {H : Hp} {h : Heap} {a d : Addr} {ks : List Ent} (x : ObjOk P w H h a (DnO P w d ks)) : d = a := by
  obtain ⟨φ, ⟨o, ho⟩, st⟩ := x
  by_cases hd : d = a
  · exact hd
  · have φ2 := st h (h.update d fun _ => { cls := .none, data := .plain }) φ fun o e => (Heap.get?_update_other h _ hd).trans e
    obtain ⟨_, _, _, _, o1, _, _, e1, _⟩ := φ
    obtain ⟨_, _, _, _, o2, es, ep, e2, _, e3, _⟩ := φ2
    rw [Heap.get?_update_self (fun _ => { cls := .none, data := .plain }) e1 rfl] at e2
    cases e2
    cases e3
/-! ### what is in it -/
def atK (ks : List Ent) (k : NestedKey) : Option V := (ks.find? fun e => decide (e.1 = k)).map (·.2.2)
def stK (ks : List Ent) (k : NestedKey) (a : Addr) (v : V) : List Ent := if (atK ks k).isSome then ks.map (fun e => if e.1 = k then (e.1, e.2.1, v) else e) else ks ++ [(k, a, v)]
theorem at_paired {k : NestedKey} : ∀ {ks : List Ent} {xs : List (NestedKey × Addr × Value)}, Paired EntR ks xs → (atK ks k = none ∧ atKey xs k = none) ∨ ∃ v p, atK ks k = some v ∧ atKey xs k = some p ∧ RelV v p.2
  | _, _, .nil => .inl ⟨rfl, rfl⟩
  | e :: ks, x :: xs, .cons r t => by
    have ih := at_paired (k := k) t
    by_cases h : e.1 = k
    · have h' : x.1 = k := r.1.symm.trans h
      exact .inr ⟨e.2.2, x.2, by simp [atK, h], by simp [atKey, h'], r.2.2⟩
    · have h' : ¬ x.1 = k := fun z => h (r.1.trans z)
      have e1 : atK (e :: ks) k = atK ks k := by simp [atK, h]
      have e2 : atKey (x :: xs) k = atKey xs k := by simp [atKey, h']
      rw [e1, e2]
      exact ih
theorem paired_map {f : Ent → Ent} {g : NestedKey × Addr × Value → NestedKey × Addr × Value} (h : ∀ a b, EntR a b → EntR (f a) (g b)) : ∀ {ks : List Ent} {xs : List (NestedKey × Addr × Value)}, Paired EntR ks xs → Paired EntR (ks.map f) (xs.map g)
  | _, _, .nil => .nil
  | _, _, .cons r t => .cons (h _ _ r) (paired_map h t)
theorem paired_snoc {a : Ent} {b : NestedKey × Addr × Value} (h : EntR a b) : ∀ {ks : List Ent} {xs : List (NestedKey × Addr × Value)}, Paired EntR ks xs → Paired EntR (ks ++ [a]) (xs ++ [b])
  | _, _, .nil => .cons h .nil
  | _, _, .cons r t => .cons r (paired_snoc h t)
theorem paired_len : ∀ {ks : List Ent} {xs : List (NestedKey × Addr × Value)}, Paired EntR ks xs → ks.length = xs.length
  | _, _, .nil => rfl
  | _, _, .cons _ t => by rw [List.length_cons, List.length_cons, paired_len t]
theorem st_paired {k : NestedKey} {a : Addr} {v : V} {u : Value} {ks : List Ent} {xs : List (NestedKey × Addr × Value)} (h : Paired EntR ks xs) (r : RelV v u) : Paired EntR (stK ks k a v) (storedH xs k a u) := by
  rcases at_paired (k := k) h with ⟨h1, h2⟩ | ⟨w, p, h1, h2, _⟩
  · rw [storedH_new h2]
    unfold stK
    rw [h1]
    exact paired_snoc ⟨rfl, rfl, r⟩ h
  · rw [storedH_old h2]
    unfold stK
    rw [h1]
    refine paired_map (fun e x q => ?_) h
    unfold putAt
    by_cases hk : e.1 = k
    · have hk' : x.1 = k := q.1.symm.trans hk
      rw [if_pos hk, if_pos hk']
      exact ⟨q.1, q.2.1, r⟩
    · have hk' : ¬ x.1 = k := fun z => hk (q.1.trans z)
      rw [if_neg hk, if_neg hk']
      exact q
theorem stK_len (ks : List Ent) (k : NestedKey) (a : Addr) (v : V) : (stK ks k a v).length ≤ ks.length + 1 := by
  unfold stK
  split <;> simp
/-! ### the rules -/
section
variable {X : Cx} {pins : List (Addr × Obj)} {σ : L2.St} {H : Hp} {s : Shared}
/-- the dict at d, with the entries ks -/
structure DnAt (X : Cx) (H : Hp) (d : Addr) (ks : List Ent) : Prop where
  at' : H d = some (DnO X.prog X.w d ks)
  key : ∀ e ∈ ks, NkV X.K H (.ref e.2.1) e.1
theorem DnAt.dict (I : Inv X pins σ H s) {d : Addr} {ks : List Ent} (h : DnAt X H d ks) : (d == sysModules) = false ∧ ks.length ≤ sizeLine ∧ ∃ xs, Paired EntR ks xs ∧ s.heap.DictOfH (nestedKind X.prog X.w) d xs :=
  dn_at I.hok h.at' fun e he => (h.key e he).is I
/-- the dict's object has changed, and nothing else -/
theorem inv_dn {d : Addr} {φ : Heap → Prop} {ks' : List Ent} {h' : Heap} {t' : Nat} (I : Inv X pins σ H s) (e : H d = some (.ext φ)) (sb : Heap.SameBut d s.heap h') (hok : ObjOk X.prog X.w (upd H d (DnO X.prog X.w d ks')) h' d (DnO X.prog X.w d ks')) :
    Inv X pins σ (upd H d (DnO X.prog X.w d ks')) { s with heap := h', toks := t' } := by
  have ne : ∀ {b : Addr} {o : Option HO}, H b = o → o ≠ some (.ext φ) → b ≠ d := fun {b o} q n z => by
    subst z
    rw [e] at q
    exact n q.symm
  have k : ∀ b o, b ≠ d → s.heap.get? b = some o → h'.get? b = some o := fun b o hb q => sb.extBut b o hb q
  refine I.step (g' := s.gens) (d' := s.drawn) (ch := []) (fun _ z => absurd z (by simp)) (fun b o _ _ _ q n => k b o (ne n nofun) q) (fun b o _ _ _ q n => ⟨o.slots, k b o (ne n nofun) q⟩) (fun b o _ q n => by rw [upd_ne (ne n nofun)]; exact n)
    (fun b o _ q => ?_) (fun b xs q => by rw [upd_ne (ne q nofun)]; exact q) (fun b o u q => by rw [upd_ne (ne q nofun)]; exact q) (fun b qs q => ⟨#[], by rw [upd_ne (ne q nofun), q]; simp⟩) (fun m ⟨o, es, ep, ho, r⟩ => ⟨o, es, ep, k _ o (ne I.free nofun) ho, r⟩) (fun b u q => ?_) I.bare
  · by_cases hb : b = d
    · subst hb
      obtain ⟨_, ⟨o', h1⟩, _⟩ := hok
      exact ⟨o', h1⟩
    · exact ⟨o, k b o hb q⟩
  · by_cases hb : b = d
    · subst hb
      rw [upd_same] at q
      cases q
      exact hok
    · rw [upd_ne hb] at q
      refine (I.hok b u q).stay (fun c v hc z => k c v ?_ z) (fun c z => by rw [upd_ne (ne z nofun)]; exact z) fun c xs z => by rw [upd_ne (ne z nofun)]; exact z
      rcases hc with z | z
      · rw [z]
        exact hb
      · exact ne z nofun
theorem op_inN (hu : X.A.units + 16 < cLine) : OpR X (compareOp .In) (fun x y H Q => ∃ (a d : Addr) (ks : List Ent) (k : NestedKey), x = .ref a ∧ y = .ref d ∧ NkV X.K H (.ref a) k ∧ DnAt X H d ks ∧ Q (.bl (atK ks k).isSome) H) := by
  intro pins s σ H x y v u Q I r1 r2 ⟨a, d, ks, k, e1, e2, hk, hd, q⟩
  subst e1 e2
  obtain rfl : v = Value.ref a := r1
  obtain rfl : u = Value.ref d := r2
  obtain ⟨h1, h2, xs, hp, hm⟩ := hd.dict I
  refine wpAny_in_heap (knd := nestedKind X.prog X.w) (by show X.A.units + 1 + 8 < cLine; omega) (hk.is I) h1 hm ?_
  refine ⟨.bl _, H, I.tok _, ?_, q⟩
  rcases at_paired (k := k) hp with ⟨f1, f2⟩ | ⟨_, _, f1, f2, _⟩ <;> rw [f1, f2] <;> rfl
theorem op_getN (hu : X.A.units + 16 < cLine) : OpR X getItem (fun x y H Q => ∃ (a d : Addr) (ks : List Ent) (k : NestedKey) (z : V), x = .ref d ∧ y = .ref a ∧ NkV X.K H (.ref a) k ∧ DnAt X H d ks ∧ atK ks k = some z ∧ Q z H) := by
  intro pins s σ H x y v u Q I r1 r2 ⟨a, d, ks, k, z, e1, e2, hk, hd, hz, q⟩
  subst e1 e2
  obtain rfl : v = Value.ref d := r1
  obtain rfl : u = Value.ref a := r2
  obtain ⟨h1, h2, xs, hp, hm⟩ := hd.dict I
  rcases at_paired (k := k) hp with ⟨f1, _⟩ | ⟨w, p, f1, f2, rw'⟩
  · rw [f1] at hz
    cases hz
  · rw [f1] at hz
    cases hz
    exact wpAny_getItem_heap (knd := nestedKind X.prog X.w) (by show X.A.units + 1 + 8 < cLine; omega) (hk.is I) hm f2 ⟨_, H, I.tok _, rw', q⟩
/-- d[k] = v -/
theorem set_n {A : Around} {E : Value → Shared → Prop} {a d : Addr} {ks : List Ent} {k : NestedKey} {v : V} {u : Value} {Q : Unit → Shared → Prop} (hu : A.units + 16 < cLine) (I : Inv X pins σ H s) (hk : NkV X.K H (.ref a) k) (hd : DnAt X H d ks) (hl : ks.length + 1 ≤ sizeLine) (r : RelV v u)
    (h : ∀ s', Inv X pins σ (upd H d (DnO X.prog X.w d (stK ks k a v))) s' → Q () s') : wpAny (model X.prog X.w) A (setItem (.ref d) (.ref a) u) Q E s := by
  obtain ⟨h1, h2, xs, hp, hm⟩ := hd.dict I
  refine wpAny_setItem_heap (knd := nestedKind X.prog X.w) (by show A.units + 1 + 8 < cLine; omega) (hk.is I) hm (fun h' hm' sb => ?_) (by rw [← paired_len hp]; exact h2)
  exact h _ (inv_dn I hd.at' sb (dn_ok h1 (Nat.le_trans (stK_len ks k a v) hl) (st_paired hp r) hm'))
theorem op_notinN (hu : X.A.units + 16 < cLine) : OpR X (compareOp .NotIn) (fun x y H Q => ∃ (a d : Addr) (ks : List Ent) (k : NestedKey), x = .ref a ∧ y = .ref d ∧ NkV X.K H (.ref a) k ∧ DnAt X H d ks ∧ Q (.bl (!(atK ks k).isSome)) H) := by
  intro pins s σ H x y v u Q I r1 r2 ⟨a, d, ks, k, e1, e2, hk, hd, q⟩
  subst e1 e2
  obtain rfl : v = Value.ref a := r1
  obtain rfl : u = Value.ref d := r2
  obtain ⟨h1, h2, xs, hp, hm⟩ := hd.dict I
  refine notIn_keyed (knd := nestedKind X.prog X.w) (by show X.A.units + 1 + 8 < cLine; omega) (hk.is I) h1 ⟨xs, hm, rfl⟩ ?_
  refine ⟨.bl _, H, I.tok _, ?_, q⟩
  rw [valueAt_pairsH, Option.isSome_map]
  rcases at_paired (k := k) hp with ⟨f1, f2⟩ | ⟨_, _, f1, f2, _⟩ <;> rw [f1, f2] <;> rfl
/-- d.get(k), d.get(k, z) -/
theorem mt_getN (hu : X.A.units + 16 < cLine) : MtR X "dict.get" (fun x ys H Q => ∃ (a d : Addr) (ks : List Ent) (k : NestedKey), x = .ref d ∧ NkV X.K H (.ref a) k ∧ DnAt X H d ks ∧ ((ys = [.ref a] ∧ Q ((atK ks k).getD .non) H) ∨ ∃ z, ys = [.ref a, z] ∧ Q ((atK ks k).getD z) H)) := by
  intro pins s σ H x ys v us Q I r1 r2 ⟨a, d, ks, k, e1, hk, hd, q⟩
  subst e1
  obtain rfl : v = Value.ref d := r1
  obtain ⟨h1, h2, xs, hp, hm⟩ := hd.dict I
  have hu' : (nestedKind X.prog X.w).room X.A.in1 := by show X.A.units + 1 + 8 < cLine; omega
  rcases q with ⟨rfl, q⟩ | ⟨z, rfl, q⟩
  · cases r2 with
    | cons ra rn =>
      cases rn
      rename_i u
      obtain rfl : u = Value.ref a := ra
      refine get_keyed (knd := nestedKind X.prog X.w) hu' (hk.is I) h1 ⟨xs, hm, rfl⟩ ?_
      rw [valueAt_pairsH]
      refine ⟨_, H, I.tok _, ?_, q⟩
      rcases at_paired (k := k) hp with ⟨f1, f2⟩ | ⟨_, _, f1, f2, r⟩ <;> rw [f1, f2]
      · exact rfl
      · exact r
  · obtain ⟨u, uz, rfl, ra, rz⟩ := vals2 r2
    obtain rfl : u = Value.ref a := ra
    refine getOr_keyed (knd := nestedKind X.prog X.w) hu' (hk.is I) h1 ⟨xs, hm, rfl⟩ ?_
    rw [valueAt_pairsH]
    refine ⟨_, H, I.tok _, ?_, q⟩
    rcases at_paired (k := k) hp with ⟨f1, f2⟩ | ⟨_, _, f1, f2, r⟩ <;> rw [f1, f2]
    · exact rz
    · exact r
def woK (ks : List Ent) (k : NestedKey) : List Ent := ks.filter fun e => decide (e.1 ≠ k)
theorem wo_paired {k : NestedKey} : ∀ {ks : List Ent} {xs : List (NestedKey × Addr × Value)}, Paired EntR ks xs → Paired EntR (woK ks k) (withoutH xs k)
  | _, _, .nil => .nil
  | e :: ks, x :: xs, .cons r t => by
    have ih := wo_paired (k := k) t
    by_cases h : e.1 = k
    · have h' : x.1 = k := r.1.symm.trans h
      have e1 : woK (e :: ks) k = woK ks k := by simp [woK, h]
      have e2 : withoutH (x :: xs) k = withoutH xs k := by simp [withoutH, h']
      rw [e1, e2]
      exact ih
    · have h' : ¬ x.1 = k := fun z => h (r.1.trans z)
      have e1 : woK (e :: ks) k = e :: woK ks k := by simp [woK, h]
      have e2 : withoutH (x :: xs) k = x :: withoutH xs k := by simp [withoutH, h']
      rw [e1, e2]
      exact .cons r ih
/-- del d[k] -/
theorem del_n {A : Around} {E : Value → Shared → Prop} {a d : Addr} {ks : List Ent} {k : NestedKey} {z : V} {Q : Unit → Shared → Prop} (hu : A.units + 16 < cLine) (I : Inv X pins σ H s) (hk : NkV X.K H (.ref a) k) (hd : DnAt X H d ks) (hz : atK ks k = some z)
    (h : ∀ s', Inv X pins σ (upd H d (DnO X.prog X.w d (woK ks k))) s' → Q () s') : wpAny (model X.prog X.w) A (delItem (.ref d) (.ref a)) Q E s := by
  obtain ⟨h1, h2, xs, hp, hm⟩ := hd.dict I
  rcases at_paired (k := k) hp with ⟨f1, _⟩ | ⟨w, p, f1, f2, _⟩
  · rw [f1] at hz
    cases hz
  · refine wpAny_delItem_heap (knd := nestedKind X.prog X.w) (by show A.units + 1 + 8 < cLine; omega) (hk.is I) h1 hm f2 (fun h' hm' sb => ?_) (by rw [← paired_len hp]; exact h2)
    exact h _ (inv_dn I hd.at' sb (dn_ok h1 (Nat.le_trans (by unfold woK; exact List.length_filter_le _ _) h2) (wo_paired hp) hm'))
/-- an empty dict of the hand layer is one of these -/
theorem inv_new {d : Addr} (I : Inv X pins σ H s) (e : H d = some (.dK [])) : Inv X pins σ (upd H d (DnO X.prog X.w d [])) s := by
  have ne : ∀ {b : Addr} {o : Option HO}, H b = o → o ≠ some (.dK []) → b ≠ d := fun {b o} q n z => by
    subst z
    rw [e] at q
    exact n q.symm
  have hok : ObjOk X.prog X.w (upd H d (DnO X.prog X.w d [])) s.heap d (DnO X.prog X.w d []) := by
    obtain ⟨_, h2, vs, kv, o, es, ep, e1, e2, e3, _, e5, _⟩ := I.hok d _ e
    cases kv
    have hes : es.toList = [] := by
      cases hl : es.toList with
      | nil => rfl
      | cons a l =>
        rw [hl] at e5
        cases e5
    exact dn_ok (xs := []) h2 (by simp) .nil ⟨o, es, ep, e1, e2, e3, hes, fun _ z => absurd z (by simp), List.nodup_nil⟩
  have J := I.step (g' := s.gens) (d' := s.drawn) (t' := s.toks) (h' := s.heap) (H' := upd H d (DnO X.prog X.w d [])) (ch := []) (fun _ z => absurd z (by simp)) (fun b o _ _ _ q _ => q) (fun b o _ _ _ q _ => ⟨o.slots, q⟩) (fun b o _ q n => by rw [upd_ne (ne n nofun)]; exact n)
    (fun b o _ q => ⟨o, q⟩) (fun b xs q => by rw [upd_ne (ne q nofun)]; exact q) (fun b o u q => by rw [upd_ne (ne q nofun)]; exact q) (fun b qs q => ⟨#[], by rw [upd_ne (ne q nofun), q]; simp⟩) (fun m hm => hm) (fun b u q => by
      by_cases hb : b = d
      · subst hb
        rw [upd_same] at q
        cases q
        exact hok
      · rw [upd_ne hb] at q
        exact (I.hok b u q).stay (fun c v _ z => z) (fun c z => by rw [upd_ne (ne z nofun)]; exact z) fun c xs z => by rw [upd_ne (ne z nofun)]; exact z) I.bare
  exact J
end
end GDict
end

section
set_option Elab.async false
set_option linter.all false
set_option maxRecDepth 100000
set_option maxHeartbeats 4000000
/-! dicts whose keys are carried by value (None, bools, numbers, texts), beside those of GDict; the rules for both -/
namespace GDict
open PySem PySem.Spec PyProof.Rows L2
def LfV : V → Leaf → Prop
  | .non, .none => True
  | .int i, .num j => i = j
  | .bl b, .num j => (if b = true then 1 else 0) = j
  | .str s, .text t => s = t
  | _, _ => False
theorem lfV_is {v : V} {u : Value} {k : Leaf} (h : LfV v k) (r : RelV v u) : Leaf.isOf k u = true := by
  cases v <;> cases k <;> first
    | exact absurd h id
    | skip
  · obtain rfl : u = Value.none := r
    rfl
  · obtain rfl : u = Value.bool _ := r
    exact decide_eq_true h
  · obtain ⟨t, rfl⟩ := r
    exact decide_eq_true h
  · obtain ⟨t, rfl⟩ := r
    have h : _ = _ := h
    subst h
    unfold Leaf.isOf
    simp [Value.isStrOf, Value.isStr]
def DvO (P : Program) (w : World) (d : Addr) (ks : List (Leaf × V)) : HO := .ext fun h => (d == sysModules) = false ∧ ks.length ≤ sizeLine ∧ ∃ vs, KV ks vs ∧ h.DictOf (leafKind P w) d vs
theorem dv_ok {P : Program} {w : World} {H : Hp} {h : Heap} {d : Addr} {ks : List (Leaf × V)} {vs : List (Leaf × Value)} (hs : (d == sysModules) = false) (hl : ks.length ≤ sizeLine) (r : KV ks vs) (hd : h.DictOf (leafKind P w) d vs) : ObjOk P w H h d (DvO P w d ks) := by
  refine ⟨⟨hs, hl, vs, r, hd⟩, ?_, fun h1 h2 q k => ?_⟩
  · obtain ⟨o, ho, _⟩ := Heap.dictOf_iff.mp hd
    exact ⟨o, ho⟩
  · obtain ⟨a, b, vs', r', hd'⟩ := q
    obtain ⟨o, ho, z⟩ := Heap.dictOf_iff.mp hd'
    exact ⟨a, b, vs', r', Heap.dictOf_iff.mpr ⟨o, k _ ho, z⟩⟩
theorem dv_addr {P : Program} {w : World} {H : Hp} {h : Heap} {a d : Addr} {ks : List (Leaf × V)} (x : ObjOk P w H h a (DvO P w d ks)) : d = a := by
  obtain ⟨φ, ⟨o, ho⟩, st⟩ := x
  by_cases hd : d = a
  · exact hd
  · have φ2 := st h (h.update d fun _ => { cls := .none, data := .plain }) φ fun o e => (Heap.get?_update_other h _ hd).trans e
    obtain ⟨_, _, vs1, _, z1⟩ := φ
    obtain ⟨_, _, vs2, _, z2⟩ := φ2
    obtain ⟨o1, e1, _⟩ := Heap.dictOf_iff.mp z1
    obtain ⟨es, ep, ⟨o2, e2, _, e3⟩, _⟩ := z2.raw
    rw [Heap.get?_update_self (fun _ => { cls := .none, data := .plain }) e1 rfl] at e2
    cases e2
    cases e3
section
variable {P : Program} {w : World} {K : PySem.W.Frag}
/-- x is one of these dicts -/
def GIs (P : Program) (w : World) (K : PySem.W.Frag) (H : Hp) (x : V) : Prop :=
  (∃ a d ks, x = .ref a ∧ H a = some (DnO P w d ks) ∧ ∀ e ∈ ks, NkV K H (.ref e.2.1) e.1) ∨ ∃ a d ks, x = .ref a ∧ H a = some (DvO P w d ks)
/-- what the dict x has at y -/
def GGet (P : Program) (w : World) (K : PySem.W.Frag) (H : Hp) (x y : V) (o : Option V) : Prop :=
  (∃ a d ks b k, x = .ref a ∧ y = .ref b ∧ H a = some (DnO P w d ks) ∧ (∀ e ∈ ks, NkV K H (.ref e.2.1) e.1) ∧ NkV K H (.ref b) k ∧ o = atK ks k) ∨
  ∃ a d ks k, x = .ref a ∧ H a = some (DvO P w d ks) ∧ LfV y k ∧ o = valV ks k
def GPut (P : Program) (w : World) (K : PySem.W.Frag) (H : Hp) (x y v : V) (H' : Hp) : Prop :=
  (∃ a d ks b k, x = .ref a ∧ y = .ref b ∧ H a = some (DnO P w d ks) ∧ (∀ e ∈ ks, NkV K H (.ref e.2.1) e.1) ∧ NkV K H (.ref b) k ∧ ks.length < sizeLine ∧ H' = upd H a (DnO P w d (stK ks k b v))) ∨
  ∃ a d ks k, x = .ref a ∧ H a = some (DvO P w d ks) ∧ LfV y k ∧ ks.length < sizeLine ∧ H' = upd H a (DvO P w d (putK ks k v))
def GDel (P : Program) (w : World) (K : PySem.W.Frag) (H : Hp) (x y : V) (H' : Hp) : Prop :=
  (∃ a d ks b k, x = .ref a ∧ y = .ref b ∧ H a = some (DnO P w d ks) ∧ (∀ e ∈ ks, NkV K H (.ref e.2.1) e.1) ∧ NkV K H (.ref b) k ∧ (atK ks k).isSome = true ∧ H' = upd H a (DnO P w d (woK ks k))) ∨
  ∃ a d ks k, x = .ref a ∧ H a = some (DvO P w d ks) ∧ LfV y k ∧ (valV ks k).isSome = true ∧ H' = upd H a (DvO P w d (dropK ks k))
def GLen (P : Program) (w : World) (K : PySem.W.Frag) (H : Hp) (x : V) (n : Nat) : Prop :=
  (∃ a d ks, x = .ref a ∧ H a = some (DnO P w d ks) ∧ (∀ e ∈ ks, NkV K H (.ref e.2.1) e.1) ∧ ks.length = n) ∨ ∃ a d ks, x = .ref a ∧ H a = some (DvO P w d ks) ∧ ks.length = n
/-- its values, in order -/
def GVals (P : Program) (w : World) (K : PySem.W.Frag) (H : Hp) (x : V) (vs : List V) : Prop :=
  (∃ a d ks, x = .ref a ∧ H a = some (DnO P w d ks) ∧ (∀ e ∈ ks, NkV K H (.ref e.2.1) e.1) ∧ vs = ks.map (·.2.2)) ∨ ∃ a d ks, x = .ref a ∧ H a = some (DvO P w d ks) ∧ vs = ks.map (·.2)
def GKeys (P : Program) (w : World) (K : PySem.W.Frag) (H : Hp) (x : V) (vs : List V) : Prop :=
  ∃ a d ks, x = .ref a ∧ H a = some (DnO P w d ks) ∧ (∀ e ∈ ks, NkV K H (.ref e.2.1) e.1) ∧ vs = ks.map fun e => V.ref e.2.1
end
section
variable {X : Cx} {pins : List (Addr × Obj)} {σ : L2.St} {H H' : Hp} {s : Shared} {x y v z : V} {ux uy uv uz : Value} {A : Around} {E : Value → Shared → Prop} {o : Option V}
theorem dn_of (I : Inv X pins σ H s) {a d : Addr} {ks : List Ent} (e : H a = some (DnO X.prog X.w d ks)) (hk : ∀ e ∈ ks, NkV X.K H (.ref e.2.1) e.1) : d = a ∧ DnAt X H a ks := by
  have := dn_addr (I.hok a _ e)
  subst this
  exact ⟨rfl, e, hk⟩
theorem dv_of (I : Inv X pins σ H s) {a d : Addr} {ks : List (Leaf × V)} (e : H a = some (DvO X.prog X.w d ks)) : d = a ∧ (a == sysModules) = false ∧ ks.length ≤ sizeLine ∧ ∃ vs, KV ks vs ∧ s.heap.DictOf (leafKind X.prog X.w) a vs := by
  have := dv_addr (I.hok a _ e)
  subst this
  obtain ⟨q, _, _⟩ := I.hok _ _ e
  exact ⟨rfl, q⟩
/-- an object told by a statement of its own has changed, and nothing else -/
theorem inv_ext {d : Addr} {φ ψ : Heap → Prop} {h' : Heap} {t' : Nat} (I : Inv X pins σ H s) (e : H d = some (.ext φ)) (sb : Heap.SameBut d s.heap h') (hok : ObjOk X.prog X.w (upd H d (.ext ψ)) h' d (.ext ψ)) :
    Inv X pins σ (upd H d (.ext ψ)) { s with heap := h', toks := t' } := by
  have ne : ∀ {b : Addr} {o : Option HO}, H b = o → o ≠ some (.ext φ) → b ≠ d := fun {b o} q n z => by
    subst z
    rw [e] at q
    exact n q.symm
  have k : ∀ b o, b ≠ d → s.heap.get? b = some o → h'.get? b = some o := fun b o hb q => sb.extBut b o hb q
  refine I.step (g' := s.gens) (d' := s.drawn) (ch := []) (fun _ z => absurd z (by simp)) (fun b o _ _ _ q n => k b o (ne n nofun) q) (fun b o _ _ _ q n => ⟨o.slots, k b o (ne n nofun) q⟩) (fun b o _ q n => by rw [upd_ne (ne n nofun)]; exact n)
    (fun b o _ q => ?_) (fun b xs q => by rw [upd_ne (ne q nofun)]; exact q) (fun b o u q => by rw [upd_ne (ne q nofun)]; exact q) (fun b qs q => ⟨#[], by rw [upd_ne (ne q nofun), q]; simp⟩) (fun m ⟨o, es, ep, ho, r⟩ => ⟨o, es, ep, k _ o (ne I.free nofun) ho, r⟩) (fun b u q => ?_) I.bare
  · by_cases hb : b = d
    · subst hb
      obtain ⟨_, ⟨o', h1⟩, _⟩ := hok
      exact ⟨o', h1⟩
    · exact ⟨o, k b o hb q⟩
  · by_cases hb : b = d
    · subst hb
      rw [upd_same] at q
      cases q
      exact hok
    · rw [upd_ne hb] at q
      refine (I.hok b u q).stay (fun c v hc z => k c v ?_ z) (fun c z => by rw [upd_ne (ne z nofun)]; exact z) fun c xs z => by rw [upd_ne (ne z nofun)]; exact z
      rcases hc with z | z
      · rw [z]
        exact hb
      · exact ne z nofun
theorem g_in {Q : Value → Shared → Prop} (hu : A.units + 16 < cLine) (I : Inv X pins σ H s) (g : GGet X.prog X.w X.K H x y o) (rx : RelV x ux) (ry : RelV y uy) (h : ∀ s', Inv X pins σ H s' → Q (.bool o.isSome) s') : wpAny (model X.prog X.w) A (compareOp .In uy ux) Q E s := by
  rcases g with ⟨a, d, ks, b, k, rfl, rfl, e, hk, hb, rfl⟩ | ⟨a, d, ks, k, rfl, e, hy, rfl⟩
  · obtain rfl : ux = Value.ref a := rx
    obtain rfl : uy = Value.ref b := ry
    obtain ⟨_, D⟩ := dn_of I e hk
    obtain ⟨h1, h2, xs, hp, hm⟩ := D.dict I
    refine wpAny_in_heap (knd := nestedKind X.prog X.w) (by show A.units + 1 + 8 < cLine; omega) (hb.is I) h1 hm ?_
    rcases at_paired (k := k) hp with ⟨f1, f2⟩ | ⟨_, _, f1, f2, _⟩ <;> rw [f1] at h <;> rw [f2] <;> exact h _ (I.tok _)
  · obtain rfl : ux = Value.ref a := rx
    obtain ⟨_, lo, hl, vs, rel, dd⟩ := dv_of I e
    refine wpAny_in_of (knd := leafKind X.prog X.w) (lfV_is hy ry) lo dd.mapOf ?_
    rw [← (rel.val k).isSome_eq]
    exact h _ (I.tok _)
theorem g_notIn {Q : Value → Shared → Prop} (hu : A.units + 16 < cLine) (I : Inv X pins σ H s) (g : GGet X.prog X.w X.K H x y o) (rx : RelV x ux) (ry : RelV y uy) (h : ∀ s', Inv X pins σ H s' → Q (.bool (!o.isSome)) s') : wpAny (model X.prog X.w) A (compareOp .NotIn uy ux) Q E s := by
  rcases g with ⟨a, d, ks, b, k, rfl, rfl, e, hk, hb, rfl⟩ | ⟨a, d, ks, k, rfl, e, hy, rfl⟩
  · obtain rfl : ux = Value.ref a := rx
    obtain rfl : uy = Value.ref b := ry
    obtain ⟨_, D⟩ := dn_of I e hk
    obtain ⟨h1, h2, xs, hp, hm⟩ := D.dict I
    refine notIn_keyed (knd := nestedKind X.prog X.w) (by show A.units + 1 + 8 < cLine; omega) (hb.is I) h1 ⟨xs, hm, rfl⟩ ?_
    rw [valueAt_pairsH, Option.isSome_map]
    rcases at_paired (k := k) hp with ⟨f1, f2⟩ | ⟨_, _, f1, f2, _⟩ <;> rw [f1] at h <;> rw [f2] <;> exact h _ (I.tok _)
  · obtain rfl : ux = Value.ref a := rx
    obtain ⟨_, lo, hl, vs, rel, dd⟩ := dv_of I e
    refine wpAny_notIn_of (knd := leafKind X.prog X.w) (lfV_is hy ry) lo dd.mapOf ?_
    rw [← (rel.val k).isSome_eq]
    exact h _ (I.tok _)
theorem g_getItem {Q : Value → Shared → Prop} (hu : A.units + 16 < cLine) (I : Inv X pins σ H s) (g : GGet X.prog X.w X.K H x y (some v)) (rx : RelV x ux) (ry : RelV y uy) (h : ∀ w' s', Inv X pins σ H s' → RelV v w' → Q w' s') : wpAny (model X.prog X.w) A (getItem ux uy) Q E s := by
  rcases g with ⟨a, d, ks, b, k, rfl, rfl, e, hk, hb, hv⟩ | ⟨a, d, ks, k, rfl, e, hy, hv⟩
  · obtain rfl : ux = Value.ref a := rx
    obtain rfl : uy = Value.ref b := ry
    obtain ⟨_, D⟩ := dn_of I e hk
    obtain ⟨h1, h2, xs, hp, hm⟩ := D.dict I
    rcases at_paired (k := k) hp with ⟨f1, _⟩ | ⟨w, p, f1, f2, rw'⟩
    · rw [f1] at hv
      cases hv
    · rw [f1] at hv
      cases hv
      exact wpAny_getItem_heap (knd := nestedKind X.prog X.w) (by show A.units + 1 + 8 < cLine; omega) (hb.is I) hm f2 (h _ _ (I.tok _) rw')
  · obtain rfl : ux = Value.ref a := rx
    obtain ⟨_, lo, hl, vs, rel, dd⟩ := dv_of I e
    obtain ⟨w', hw, rw'⟩ := RelO.some_of (v := v) (o := valueAt vs k) (by rw [hv]; exact rel.val k)
    exact wpAny_getItem_of (knd := leafKind X.prog X.w) (lfV_is hy ry) dd.mapOf hw (h w' _ (I.tok _) rw')
theorem g_setItem {Q : Unit → Shared → Prop} (hu : A.units + 16 < cLine) (I : Inv X pins σ H s) (g : GPut X.prog X.w X.K H x y v H') (rx : RelV x ux) (ry : RelV y uy) (rv : RelV v uv) (h : ∀ s', Inv X pins σ H' s' → Q () s') : wpAny (model X.prog X.w) A (setItem ux uy uv) Q E s := by
  rcases g with ⟨a, d, ks, b, k, rfl, rfl, e, hk, hb, hl, rfl⟩ | ⟨a, d, ks, k, rfl, e, hy, hl, rfl⟩
  · obtain rfl : ux = Value.ref a := rx
    obtain rfl : uy = Value.ref b := ry
    obtain ⟨rfl, D⟩ := dn_of I e hk
    exact set_n hu I hb D hl rv h
  · obtain rfl : ux = Value.ref a := rx
    obtain ⟨rfl, lo, hl', vs, rel, dd⟩ := dv_of I e
    refine wpAny_setItem_pairs (knd := leafKind X.prog X.w) (hsz := by rw [← rel.length]; exact hl') (lfV_is hy ry) dd fun h' dd' hs => h _ ?_
    exact inv_ext I e hs (dv_ok lo (by have := length_putK ks k v; omega) (rel.put k rv) dd')
theorem g_delItem {Q : Unit → Shared → Prop} (hu : A.units + 16 < cLine) (I : Inv X pins σ H s) (g : GDel X.prog X.w X.K H x y H') (rx : RelV x ux) (ry : RelV y uy) (h : ∀ s', Inv X pins σ H' s' → Q () s') : wpAny (model X.prog X.w) A (delItem ux uy) Q E s := by
  rcases g with ⟨a, d, ks, b, k, rfl, rfl, e, hk, hb, hl, rfl⟩ | ⟨a, d, ks, k, rfl, e, hy, hl, rfl⟩
  · obtain rfl : ux = Value.ref a := rx
    obtain rfl : uy = Value.ref b := ry
    obtain ⟨rfl, D⟩ := dn_of I e hk
    obtain ⟨z, hz⟩ := Option.isSome_iff_exists.mp hl
    exact del_n hu I hb D hz h
  · obtain rfl : ux = Value.ref a := rx
    obtain ⟨rfl, lo, hl', vs, rel, dd⟩ := dv_of I e
    refine wpAny_delItem_slot dd.typeIs (by decide) PySem.F.slot_dict_delitem
      (call_meetsIn PySem.F.slot_dict_delitem dd.typeIs PySem.F.entry_dict_delitem (PySem.F.args_dict_delitem_2 _ _) (meets_dict_delitem_pairs (leafKind X.prog X.w) _ (lfV_is hy ry)) ⟨vs, dd, by rw [← rel.length]; exact hl', by rw [← (rel.val k).isSome_eq]; exact hl, fun h' dd' hs => h _ ?_⟩)
    exact inv_ext I e hs (dv_ok lo (Nat.le_trans (dropK_le ks k) hl') (rel.drop k) dd')
theorem g_get1 {Q : Value → Shared → Prop} (hu : A.units + 16 < cLine) (I : Inv X pins σ H s) (g : GGet X.prog X.w X.K H x y o) (rx : RelV x ux) (ry : RelV y uy) (h : ∀ w' s', Inv X pins σ H s' → RelV (o.getD .non) w' → Q w' s') :
    wpAny (model X.prog X.w) A (call (.builtin "dict.get") [ux, uy]) Q E s := by
  rcases g with ⟨a, d, ks, b, k, rfl, rfl, e, hk, hb, rfl⟩ | ⟨a, d, ks, k, rfl, e, hy, rfl⟩
  · obtain rfl : ux = Value.ref a := rx
    obtain rfl : uy = Value.ref b := ry
    obtain ⟨_, D⟩ := dn_of I e hk
    obtain ⟨h1, h2, xs, hp, hm⟩ := D.dict I
    refine get_keyed (knd := nestedKind X.prog X.w) (by show A.units + 1 + 8 < cLine; omega) (hb.is I) h1 ⟨xs, hm, rfl⟩ ?_
    rw [valueAt_pairsH]
    refine h _ _ (I.tok _) ?_
    rcases at_paired (k := k) hp with ⟨f1, f2⟩ | ⟨_, _, f1, f2, r⟩ <;> rw [f1, f2]
    · exact rfl
    · exact r
  · obtain rfl : ux = Value.ref a := rx
    obtain ⟨_, lo, hl, vs, rel, dd⟩ := dv_of I e
    refine call_meetsIn PySem.F.slot_dict_get dd.typeIs PySem.F.entry_dict_get (PySem.F.args_dict_get_2 _ _) (meets_dict_get (leafKind X.prog X.w) a (lfV_is hy ry) lo) ⟨_, dd.mapOf, h _ _ (I.tok _) ?_⟩
    exact (rel.val k).getD rfl
theorem g_get2 {Q : Value → Shared → Prop} (hu : A.units + 16 < cLine) (I : Inv X pins σ H s) (g : GGet X.prog X.w X.K H x y o) (rx : RelV x ux) (ry : RelV y uy) (rz : RelV z uz) (h : ∀ w' s', Inv X pins σ H s' → RelV (o.getD z) w' → Q w' s') :
    wpAny (model X.prog X.w) A (call (.builtin "dict.get") [ux, uy, uz]) Q E s := by
  rcases g with ⟨a, d, ks, b, k, rfl, rfl, e, hk, hb, rfl⟩ | ⟨a, d, ks, k, rfl, e, hy, rfl⟩
  · obtain rfl : ux = Value.ref a := rx
    obtain rfl : uy = Value.ref b := ry
    obtain ⟨_, D⟩ := dn_of I e hk
    obtain ⟨h1, h2, xs, hp, hm⟩ := D.dict I
    refine getOr_keyed (knd := nestedKind X.prog X.w) (by show A.units + 1 + 8 < cLine; omega) (hb.is I) h1 ⟨xs, hm, rfl⟩ ?_
    rw [valueAt_pairsH]
    refine h _ _ (I.tok _) ?_
    rcases at_paired (k := k) hp with ⟨f1, f2⟩ | ⟨_, _, f1, f2, r⟩ <;> rw [f1, f2]
    · exact rz
    · exact r
  · obtain rfl : ux = Value.ref a := rx
    obtain ⟨_, lo, hl, vs, rel, dd⟩ := dv_of I e
    refine call_meetsIn PySem.F.slot_dict_get dd.typeIs PySem.F.entry_dict_get (PySem.F.args_dict_get_3 _ _ _) (meets_dict_get_default (leafKind X.prog X.w) a (lfV_is hy ry) lo uz) ⟨_, dd.mapOf, h _ _ (I.tok _) ?_⟩
    exact (rel.val k).getD rz
theorem gis_at (I : Inv X pins σ H s) (g : GIs X.prog X.w X.K H x) (rx : RelV x ux) : s.TypeIs ux "dict" ∧ (∀ b, ux = .ref b → ∃ ob, s.heap.get? b = some ob ∧ ob.dict = none) ∧ ∃ a es ep, ux = .ref a ∧ (a == sysModules) = false ∧ s.heap.DictRaw a es ep := by
  rcases g with ⟨a, d, ks, rfl, e, hk⟩ | ⟨a, d, ks, rfl, e⟩
  · obtain rfl : ux = Value.ref a := rx
    obtain ⟨_, D⟩ := dn_of I e hk
    obtain ⟨h1, h2, xs, hp, hm⟩ := D.dict I
    obtain ⟨es, ep, hr, _⟩ := hm.raw
    refine ⟨hr.typeIs, fun b q => ?_, a, es, ep, rfl, h1, hr⟩
    cases q
    obtain ⟨ob, e1, e2, _⟩ := hr
    exact ⟨ob, e1, e2.2.1⟩
  · obtain rfl : ux = Value.ref a := rx
    obtain ⟨_, lo, hl, vs, rel, dd⟩ := dv_of I e
    obtain ⟨es, ep, hr, _⟩ := dd.raw
    refine ⟨hr.typeIs, fun b q => ?_, a, es, ep, rfl, lo, hr⟩
    cases q
    obtain ⟨ob, e1, e2, _⟩ := hr
    exact ⟨ob, e1, e2.2.1⟩
theorem g_is (g : GGet X.prog X.w X.K H x y o) : GIs X.prog X.w X.K H x := by
  rcases g with ⟨a, d, ks, b, k, rfl, rfl, e, hk, _, _⟩ | ⟨a, d, ks, k, rfl, e, _, _⟩
  · exact .inl ⟨a, d, ks, rfl, e, hk⟩
  · exact .inr ⟨a, d, ks, rfl, e⟩
end
end GDict
end

section
set_option Elab.async false
set_option linter.all false
set_option maxRecDepth 100000
set_option maxHeartbeats 4000000
namespace GDict
open PySem PySem.Spec PyProof.Rows L2
/-! ### the rules of the text -/
def rGin (P : Program) (w : World) (K : PySem.W.Frag) (neg : Bool) : V → V → Hp → VK → Prop := fun y x H Q => ∃ o, GGet P w K H x y o ∧ Q (.bl (if neg = true then !o.isSome else o.isSome)) H
section
variable {X : Cx} {P : Program} {w : World} {K : PySem.W.Frag}
theorem op_gin (hP : X.prog = P) (hw : X.w = w) (hK : X.K = K) (hu : X.A.units + 16 < cLine) : OpR X (compareOp .In) (rGin P w K false) := by
  subst hP hw hK
  intro pins s σ H y x u v Q I ry rx ⟨o, g, q⟩
  exact g_in hu I g rx ry fun s' I' => ⟨.bl _, H, I', rfl, q⟩
theorem op_gnotin (hP : X.prog = P) (hw : X.w = w) (hK : X.K = K) (hu : X.A.units + 16 < cLine) : OpR X (compareOp .NotIn) (rGin P w K true) := by
  subst hP hw hK
  intro pins s σ H y x u v Q I ry rx ⟨o, g, q⟩
  exact g_notIn hu I g rx ry fun s' I' => ⟨.bl _, H, I', rfl, q⟩
end
section
variable {X : Cx} {P : Program} {w : World} {K : PySem.W.Frag} {o i e f value : Expr} {pos pos' tpos apos cpos : Pos} {td ty tv tx : TE}
def tGix (P : Program) (w : World) (K : PySem.W.Frag) (td ty : TE) : TE := fun σ H Q => td σ H fun x H1 => ty σ H1 fun y H2 => ∃ v, GGet P w K H2 x y (some v) ∧ Q v H2
theorem pe_gix (hP : X.prog = P) (hw : X.w = w) (hK : X.K = K) (hu : X.A.units + 16 < cLine) (ho : PE X o td) (hi : PE X i ty) (hs : NoSl i) : PE X (.Subscript o i pos) (tGix P w K td ty) := by
  subst hP hw hK
  refine ⟨fun pins s σ H Q I h => ?_⟩
  refine subD_of PySem.F.slot_dict_getitem.lookup hs (L2.thn (ho.run pins s σ H _ I h) fun u s1 ⟨x, H1, I1, rx, q1⟩ => L2.thn (hi.run pins s1 σ H1 _ I1 q1) fun iv s2 ⟨y, H2, I2, ry, v, g, q2⟩ => ?_)
  have q3 : ∀ {ux : Value}, RelV x ux → s2.TypeIs ux "dict" ∧ wpAny (model X.prog X.w) X.A (getItem ux iv) (fun a s' => ∃ v H', Inv X pins σ H' s' ∧ RelV v a ∧ Q v H') X.xe s2 := fun {ux} rx => by
    obtain ⟨t, _⟩ := gis_at I2 (g_is g) rx
    exact ⟨t, g_getItem hu I2 g rx ry fun w' s3 I3 rw' => ⟨v, H2, I3, rw', q2⟩⟩
  exact q3 rx
def sGput (P : Program) (w : World) (K : PySem.W.Frag) (td ty tv : TE) : TS := fun D σ H => tv σ H fun v H1 => td σ H1 fun x H2 => ty σ H2 fun y H3 => ∃ H4, GPut P w K H3 x y v H4 ∧ D.nx σ H4
theorem ps_gput (hP : X.prog = P) (hw : X.w = w) (hK : X.K = K) (hu : X.A.units + 16 < cLine) (ho : PE X o td) (hi : PE X i ty) (hv : PE X value tv) (hs : swapsWith value (some (.Subscript o i pos')) pos.line X.env = pure false) : PS X (.Assign [.Subscript o i pos'] value pos) (sGput P w K td ty tv) := by
  subst hP hw hK
  refine ⟨fun pins s σ H D I h => ?_⟩
  refine wpAny_Assign_Subscript (L2.thn (hv.run pins s σ H _ I h) fun r s1 ⟨v, H1, I1, rv, q1⟩ => L2.thn (ho.run pins s1 σ H1 _ I1 q1) fun u s2 ⟨x, H2, I2, rx, q2⟩ => L2.thn (hi.run pins s2 σ H2 _ I2 q2) fun iv s3 ⟨y, H3, I3, ry, H4, g, q3⟩ => ?_) hs
  exact g_setItem hu I3 g rx ry rv fun s4 I4 => ⟨σ, H4, I4, q3⟩
def sGdel (P : Program) (w : World) (K : PySem.W.Frag) (td ty : TE) : TS := fun D σ H => td σ H fun x H1 => ty σ H1 fun y H2 => ∃ H3, GDel P w K H2 x y H3 ∧ D.nx σ H3
theorem ps_gdel (hP : X.prog = P) (hw : X.w = w) (hK : X.K = K) (hu : X.A.units + 16 < cLine) (ho : PE X o td) (hi : PE X i ty) : PS X (.Delete [.Subscript o i tpos] pos) (sGdel P w K td ty) := by
  subst hP hw hK
  refine ⟨fun pins s σ H D I h => ?_⟩
  refine wpAny_Delete (wpAny_deleteEach_cons (wpAny_delete_Subscript (L2.thn (ho.run pins s σ H _ I h) fun u s1 ⟨x, H1, I1, rx, q1⟩ => L2.thn (hi.run pins s1 σ H1 _ I1 q1) fun iv s2 ⟨y, H2, I2, ry, H3, g, q2⟩ => ?_)))
  exact g_delItem hu I2 g rx ry fun s3 I3 => wpAny_deleteEach_nil ⟨σ, _, I3, q2⟩
def tGget1 (P : Program) (w : World) (K : PySem.W.Frag) (td ty : TE) : TE := fun σ H Q => td σ H fun x H1 => GIs P w K H1 x ∧ ty σ H1 fun y H2 => ∃ o, GGet P w K H2 x y o ∧ Q (o.getD .non) H2
def tGget2 (P : Program) (w : World) (K : PySem.W.Frag) (td ty tx : TE) : TE := fun σ H Q => td σ H fun x H1 => GIs P w K H1 x ∧ ty σ H1 fun y H2 => tx σ H2 fun z H3 => ∃ o, GGet P w K H3 x y o ∧ Q (o.getD z) H3
theorem pe_gget1 (hP : X.prog = P) (hw : X.w = w) (hK : X.K = K) (hu : X.A.units + 16 < cLine) (ho : PE X o td) (he : PE X e ty) (m : M1 X o "get" apos e cpos) : PE X (.Call (.Attribute o "get" apos) [e] [] cpos) (tGget1 P w K td ty) := by
  subst hP hw hK
  refine ⟨fun pins s σ H Q I h => ?_⟩
  refine wpAny_Call_method m.base m.few m.line PySem.F.plainAttrs_dict PySem.F.slot_dict_get PySem.F.type_dict_get (L2.thn (ho.run pins s σ H _ I h) fun u s1 ⟨x, H1, I1, rx, d, q1⟩ => ?_)
  obtain ⟨t1, t2, _⟩ := gis_at I1 d rx
  refine ⟨t1, t2, ?_⟩
  rw [m.trees]
  refine Calls.callWith_builtin rfl (Calls.evalArgs_plain (Calls.spliced_cons (L2.thn (he.run pins s1 σ H1 _ I1 q1) fun iv s2 ⟨y, H2, I2, ry, ov, g, q2⟩ => Calls.spliced_nil ?_)))
  exact g_get1 hu I2 g rx ry fun w' s3 I3 rw' => ⟨_, H2, I3, rw', q2⟩
theorem pe_gget2 (hP : X.prog = P) (hw : X.w = w) (hK : X.K = K) (hu : X.A.units + 16 < cLine) (ho : PE X o td) (he : PE X e ty) (hf : PE X f tx) (m : M2 X o "get" apos e f cpos) : PE X (.Call (.Attribute o "get" apos) [e, f] [] cpos) (tGget2 P w K td ty tx) := by
  subst hP hw hK
  refine ⟨fun pins s σ H Q I h => ?_⟩
  refine wpAny_Call_method m.base m.few m.line PySem.F.plainAttrs_dict PySem.F.slot_dict_get PySem.F.type_dict_get (L2.thn (ho.run pins s σ H _ I h) fun u s1 ⟨x, H1, I1, rx, d, q1⟩ => ?_)
  obtain ⟨t1, t2, _⟩ := gis_at I1 d rx
  refine ⟨t1, t2, ?_⟩
  rw [m.trees]
  refine Calls.callWith_builtin rfl (Calls.evalArgs_plain (Calls.spliced_cons (L2.thn (he.run pins s1 σ H1 _ I1 q1) fun iv s2 ⟨y, H2, I2, ry, q2⟩ =>
    Calls.spliced_cons (L2.thn (hf.run pins s2 σ H2 _ I2 q2) fun fv s3 ⟨z, H3, I3, rz, ov, g, q3⟩ => Calls.spliced_nil ?_))))
  exact g_get2 hu I3 g rx ry rz fun w' s4 I4 rw' => ⟨_, H3, I4, rw', q3⟩
/-- {}, to be one of these -/
def gNew (P : Program) (w : World) (t : Bool) (p : Addr) : HO := if t = true then DnO P w p [] else DvO P w p []
def tGnew (P : Program) (w : World) (t : Bool) : TE := fun _ H Q => ∀ p, H p = none → Q (.ref p) (upd H p (gNew P w t p))
theorem pe_gnew (hP : X.prog = P) (hw : X.w = w) (t : Bool) : PE X (.Dict [] [] pos) (tGnew P w t) := by
  subst hP hw
  refine ⟨fun pins s σ H Q I h => ?_⟩
  have lo : (s.heap.objs.size == sysModules) = false := beq_eq_false_iff_ne.mpr (Ne.symm (Nat.ne_of_lt I.big))
  refine wpAny_Dict_empty ⟨.ref s.heap.objs.size, _, I.laid (a := s.heap.objs.size) (o := gNew X.prog X.w t s.heap.objs.size) (t' := s.toks) (fun _ _ q => Heap.get?_push_of_some _ q) (Nat.le_refl _) ?_, rfl, h _ (I.hok.fresh (Nat.le_refl _))⟩
  cases t with
  | true => exact dn_ok (xs := []) lo (by simp) .nil ⟨_, #[], 0, Heap.get?_push_size _ rfl, ⟨rfl, rfl, rfl⟩, rfl, rfl, fun _ z => absurd z (by simp), List.nodup_nil⟩
  | false => exact dv_ok lo (by simp) .nil (Heap.DictOf.new _)
end
/-! ### its keys, its values, their number -/
section
variable {prog : Program} {w : World} {d r : Addr} {es : Array DictEntry} {ep : Nat}
theorem kdl_rawK (lo : (d == sysModules) = false) : PySem.W.KdlSrc prog w "dict" d d es.size (fun i v => ∃ hi : i < es.size, v = es[i].key) (fun h => h.DictRaw d es ep) where
  type := fun _ hm => hm.typeIs
  there := fun _ hm => ⟨hm.lt_size, hm.lt_size⟩
  keep := fun _ _ hm hk => hm.at fun o e => hk d (.inl rfl) o e
  notList := by decide
  notTuple := by decide
  hint := fun _ _ _ _ hm hq => PySem.W.kdl_hint_dict hm.typeIs hq
  iter := fun _ _ hh hm => ⟨_, _, (fun _ _ hq => wpAny_pyIter_dict_raw lo hm hq), Walks.rawKeys hh _ d (Nat.ne_of_lt hm.lt_size) es ep, ⟨⟨_, Heap.get?_push_size _ rfl, rfl, rfl⟩, hm.push _⟩⟩
theorem kdl_rawV : PySem.W.KdlSrc prog w "dict_values" r d es.size (fun i v => ∃ hi : i < es.size, v = es[i].val) (fun h => h.IsValuesView r d ∧ h.DictRaw d es ep) where
  type := fun _ hm => hm.1.typeIs
  there := fun _ hm => ⟨let ⟨_, ho, _⟩ := hm.1; Heap.lt_size ho, hm.2.lt_size⟩
  keep := fun _ _ hm hk => ⟨let ⟨o, ho, x⟩ := hm.1; ⟨o, hk r (.inl rfl) o ho, x⟩, hm.2.at fun o e => hk d (.inr rfl) o e⟩
  notList := by decide
  notTuple := by decide
  hint := fun _ _ _ _ hm hq => PySem.W.kdl_hint_values hm.1.typeIs hq
  iter := fun _ _ hh hm => ⟨_, _, (fun _ _ hq => wpAny_pyIter_values_raw hm.1 hm.2 hq), Walks.rawValues hh _ d (Nat.ne_of_lt hm.2.lt_size) es ep, ⟨⟨_, Heap.get?_push_size _ rfl, rfl, rfl⟩, hm.2.push _⟩⟩
end
section
variable {X : Cx} {pins : List (Addr × Obj)} {σ : L2.St} {H : Hp} {s : Shared} {x : V} {ux : Value} {P : Program} {w : World} {K : PySem.W.Frag}
theorem gkeys_at {vs : List V} (I : Inv X pins σ H s) (g : GKeys X.prog X.w X.K H x vs) (rx : RelV x ux) : ∃ a es ep, ux = .ref a ∧ (a == sysModules) = false ∧ s.heap.DictRaw a es ep ∧ es.size = vs.length ∧ vs.length ≤ sizeLine ∧ ∀ i (hi : i < es.size) v, vs[i]? = some v → RelV v es[i].key := by
  obtain ⟨a, d, ks, rfl, e, hk, rfl⟩ := g
  obtain rfl : ux = Value.ref a := rx
  obtain ⟨_, D⟩ := dn_of I e hk
  obtain ⟨h1, h2, xs, hp, hm⟩ := D.dict I
  obtain ⟨es, ep, hr, hs, hq⟩ := hm.raw
  have hl := paired_len hp
  refine ⟨a, es, ep, rfl, h1, hr, by simpa [hl] using hs, by simpa using h2, fun i hi v hv => ?_⟩
  rw [List.getElem?_map] at hv
  obtain ⟨en, hen, rfl⟩ := Option.map_eq_some_iff.mp hv
  obtain ⟨y, hy, e1, e2, _⟩ := hq i hi
  obtain ⟨y', hy', r⟩ := LiI.paired_get hp hen
  rw [hy] at hy'
  cases hy'
  rw [e1, r.2.1]
  exact rfl
theorem gvals_at {vs : List V} (I : Inv X pins σ H s) (g : GVals X.prog X.w X.K H x vs) (rx : RelV x ux) : ∃ a es ep, ux = .ref a ∧ (a == sysModules) = false ∧ s.heap.DictRaw a es ep ∧ es.size = vs.length ∧ vs.length ≤ sizeLine ∧ ∀ i (hi : i < es.size) v, vs[i]? = some v → RelV v es[i].val := by
  rcases g with ⟨a, d, ks, rfl, e, hk, rfl⟩ | ⟨a, d, ks, rfl, e, rfl⟩
  · obtain rfl : ux = Value.ref a := rx
    obtain ⟨_, D⟩ := dn_of I e hk
    obtain ⟨h1, h2, xs, hp, hm⟩ := D.dict I
    obtain ⟨es, ep, hr, hs, hq⟩ := hm.raw
    have hl := paired_len hp
    refine ⟨a, es, ep, rfl, h1, hr, by simpa [hl] using hs, by simpa using h2, fun i hi v hv => ?_⟩
    rw [List.getElem?_map] at hv
    obtain ⟨en, hen, rfl⟩ := Option.map_eq_some_iff.mp hv
    obtain ⟨y, hy, e1, e2, _⟩ := hq i hi
    obtain ⟨y', hy', r⟩ := LiI.paired_get hp hen
    rw [hy] at hy'
    cases hy'
    rw [e2]
    exact r.2.2
  · obtain rfl : ux = Value.ref a := rx
    obtain ⟨_, lo, hl, vs, rel, dd⟩ := dv_of I e
    obtain ⟨es, ep, hr, hs, hq⟩ := dd.raw
    have hl' := rel.length
    refine ⟨a, es, ep, rfl, lo, hr, by simpa [hl'] using hs, by simpa using hl, fun i hi v hv => ?_⟩
    rw [List.getElem?_map] at hv
    obtain ⟨en, hen, rfl⟩ := Option.map_eq_some_iff.mp hv
    obtain ⟨y', hy', r⟩ := LiI.paired_get rel hen
    obtain ⟨_, e2⟩ := hq i hi y'.1 y'.2 hy'
    rw [e2]
    exact r.2
theorem glist_laid {vs : List V} {acc : Array Value} {h' : Heap} {tk c : Nat} (I : Inv X pins σ H s) (hl : vs.length ≤ sizeLine) (hk : ∀ b o, s.heap.get? b = some o → h'.get? b = some o) (hS : h'.get? s.heap.objs.size = some { cls := .type "list", dict := none, data := .seq acc c, slots := #[] })
    (hn : acc.size = vs.length) (hv : ∀ (j : Nat) (v : V) (w : Value), vs[j]? = some v → acc[j]? = some w → RelV v w) : Inv X pins σ (upd H s.heap.objs.size (.lst vs)) { s with heap := h', toks := tk } := by
  refine I.laid hk (Nat.le_refl _) (show ObjOk X.prog X.w _ _ _ (.lst vs) from ⟨hl, acc.toList, c, vals_of_at (by simpa using hn.symm) fun j v w h1 h2 => hv j v w h1 (by rw [← Array.getElem?_toList]; exact h2), by rw [Array.toArray_toList]; exact hS⟩)
def rGlist (P : Program) (w : World) (K : PySem.W.Frag) : List V → Hp → VK → Prop := fun xs H Q => ∃ x vs, xs = [x] ∧ GKeys P w K H x vs ∧ ∀ p, H p = none → Q (.ref p) (upd H p (.lst vs))
theorem call_glist (hP : X.prog = P) (hw : X.w = w) (hK : X.K = K) (hc : X.calm = true) : CallR X (.type "list") (rGlist P w K) := by
  subst hP hw hK
  intro pins s σ H xs us Q I r ⟨x, vs, e, g, q⟩
  subst e
  obtain ⟨u, rfl, rx⟩ := vals1 r
  obtain ⟨a, es, ep, rfl, lo, hr, hs, hl, hq⟩ := gkeys_at I g rx
  refine PySem.W.kdl_call (kdl_rawK lo) (I.ok.hd hc) hr (by omega) fun h' tk acc' c' hkeep hS hacc => ?_
  refine ⟨.ref s.heap.objs.size, _, glist_laid I hl hkeep hS (by rw [hacc.1, hs]) fun j v w h1 h2 => ?_, rfl, q _ (I.hok.fresh (Nat.le_refl _))⟩
  obtain ⟨hi, e⟩ := hacc.2 j w h2
  rw [e]
  exact hq j hi v h1
def rGlen (P : Program) (w : World) (K : PySem.W.Frag) : List V → Hp → VK → Prop := fun xs H Q => ∃ x vs, xs = [x] ∧ GVals P w K H x vs ∧ Q (.int vs.length) H
theorem len_raw {A : Around} {E : Value → Shared → Prop} {Q : Value → Shared → Prop} {a : Addr} {es : Array DictEntry} {ep : Nat} (lo : (a == sysModules) = false) (hm : s.heap.DictRaw a es ep) (hfit : (es.size : Int) < 2 ^ 63) (h : Q (.int es.size (s.toks + 1)) { s with toks := s.toks + 1 + 1 }) :
    wpAny (model X.prog X.w) A (call (.builtin "len") [.ref a]) Q E s := by
  refine Calls.call_function_entry kind_len plain_len entry_len (args_len1 _) ?_
  unfold Builtin.«len»
  refine wpAny_bind (m := oneArg "len" _) (wpAny_pure ?_)
  refine wpAny_bind (m := callSpecial? (.ref a) (PySem.Str.ofString "__len__")) (wpAny_callSpecial?_slot (name := PySem.Str.ofString "__len__") hm.typeIs PySem.F.slot_dict_len
    (call_meetsIn PySem.F.slot_dict_len hm.typeIs PySem.F.entry_dict_len (PySem.F.args_dict_len_1 _) (meets_dict_len_raw a lo) ⟨es, ep, hm, ?_⟩))
  show wpAny _ _ _ _ _ { s with toks := s.toks + 1 }
  refine wpAny_bind (wpAny_holding (wpAny_pure ?_))
  refine wpAny_bind (wpAny_letGo ?_)
  show wpAny _ _ (if ((es.size : Nat) : Int) < 0 then _ else _) _ _ _
  rw [if_neg (by omega)]
  show wpAny _ _ (if ((es.size : Nat) : Int) ≥ 2 ^ 63 then _ else _) _ _ _
  rw [if_neg (by omega)]
  exact wpAny_bind (wpAny_mkInt (wpAny_pure ⟨_, rfl, h⟩))
theorem call_glen (hP : X.prog = P) (hw : X.w = w) (hK : X.K = K) : CallR X (.builtin "len") (rGlen P w K) := by
  subst hP hw hK
  intro pins s σ H xs us Q I r ⟨x, vs, e, g, q⟩
  subst e
  obtain ⟨u, rfl, rx⟩ := vals1 r
  obtain ⟨a, es, ep, rfl, lo, hr, hs, hl, hq⟩ := gvals_at I g rx
  refine len_raw lo hr (by rw [hs]; rw [sizeLine_eq] at hl; omega) ⟨.int vs.length, H, (I.tok _).tok _, ⟨_, by rw [hs]⟩, q⟩
end
section
variable {X : Cx} {P : Program} {w : World} {K : PySem.W.Frag} {e : Expr} {te : TE} {p apos cpos pos : Pos}
def tGvals (P : Program) (w : World) (K : PySem.W.Frag) (te : TE) : TE := fun σ H Q => te σ H fun x H1 => ∃ vs, GVals P w K H1 x vs ∧ ∀ p, H1 p = none → Q (.ref p) (upd H1 p (.lst vs))
/-- list(e.values()) -/
theorem pe_gvals (hP : X.prog = P) (hw : X.w = w) (hK : X.K = K) (hc : X.calm = true) (he : PE X e te) (hg : Gl X "list") (hm : X.mg "list" = none) (hv : bootBuiltins "list" = some (.type "list")) (hbase : attributeBase e "values" X.env (eval e X.env) = eval e X.env := by rfl) (hline : (apos.endLine == cpos.line) = true := by rfl)
    (hs : starEach [.Call (.Attribute e "values" apos) [] [] cpos] X.env = (false, eval (.Call (.Attribute e "values" apos) [] [] cpos) X.env) :: starEach [] X.env := by rfl) :
    PE X (.Call (.Name "list" p) [.Call (.Attribute e "values" apos) [] [] cpos] [] pos) (tGvals P w K te) := by
  subst hP hw hK
  refine ⟨fun pins s σ H Q I hq => ?_⟩
  refine wpAny_Call_Name_kw (ld_blt I hg hm hv ?_)
  refine PyProof.Rows.callWith_type1 ?_ hs rfl
  rw [hs]
  show wpAny _ _ (spliced ((false, eval (.Call (.Attribute e "values" apos) [] [] cpos) X.env) :: backTo pos (starEach [] X.env))) _ _ s
  refine Calls.spliced_cons ?_
  refine wpAny_Call_method (T := "dict") (id := "dict.values") hbase rfl hline PySem.F.plainAttrs_dict PySem.F.slot_dict_values PySem.F.type_dict_values (L2.thn (he.run pins s σ H _ I hq) fun u s1 ⟨x, H1, I1, rx, vs, g, q⟩ => ?_)
  obtain ⟨a, es, ep, rfl, lo, hr, hsz, hl, hv⟩ := gvals_at I1 g rx
  have I2 : Inv X pins σ H1 { s1 with heap := s1.heap.push { cls := .type "dict_values", data := .fields #[.ref a] } } := I1.kept (t' := s1.toks) fun b ob q => Heap.get?_push_of_some _ q
  refine ⟨hr.typeIs, fun b q => ?_, ?_⟩
  · cases q
    obtain ⟨ob, e1, e2, _⟩ := hr
    exact ⟨ob, e1, e2.2.1⟩
  show wpAny _ _ (callWith cpos (.builtin "dict.values") [.ref a] [] []) _ X.xe s1
  refine method_meetsIn PySem.F.slot_dict_values PySem.F.entry_dict_values rfl (PySem.evalArgs_none ⟨rfl, hr.typeIs, PySem.F.args_dict_values_1 _, _, meets_dict_values_raw a lo, ⟨es, ep, hr⟩, ?_⟩)
  refine Calls.spliced_nil ?_
  refine PySem.W.kdl_call (kdl_rawV (ep := ep) (es := es) (d := a)) (I1.ok.hd hc) ⟨⟨_, Heap.get?_push_size _ rfl, rfl, rfl⟩, hr.push _⟩ (by omega) fun h' tk acc' c' hkeep hS hacc => ?_
  refine ⟨.ref _, _, glist_laid I2 hl hkeep hS (by rw [hacc.1, hsz]) fun j v w h1 h2 => ?_, rfl, q _ (I2.hok.fresh (Nat.le_refl _))⟩
  obtain ⟨hi, e⟩ := hacc.2 j w h2
  rw [e]
  exact hv j hi v h1
end
end GDict
end

section
set_option Elab.async false
set_option linter.all false
set_option maxRecDepth 100000
set_option maxHeartbeats 4000000
/-! a dict's keys spliced into a display -/
namespace GDict
open PySem PySem.Spec PyProof.Rows L2
section
variable {prog : Program} {w : World} {A : Around} {E : Value → Shared → Prop} {s : Shared} {T : String} {r d : Addr} {n : Nat} {P : Nat → Value → Prop} {OK : Heap → Prop}
theorem collect_src {Q : List Value → Shared → Prop} (K : PySem.W.KdlSrc prog w T r d n P OK) (hh : A.handled = none) (hok : OK s.heap) (hn : n ≤ sizeLine)
    (hQ : ∀ h' tk acc, (∀ b o, s.heap.get? b = some o → h'.get? b = some o) → ItemsOf P acc n → Q acc.toList { s with heap := h', toks := tk }) : wpAny (model prog w) A (collect (.ref r)) Q E s := by
  unfold collect
  refine wpAny_bind (wpAny_runValue (codeAny_builtin PySem.F.entry_proto_collect ?_))
  rw [Around.under_plainId PySem.F.plain_proto_collect _]
  show wpAny _ A.in1 (newList [] >>= fun l => again (.builtin "list.__iadd__" ⟨[l, .ref r], []⟩)) _ _ s
  refine wpAny_bind (wpAny_newObj_type ?_)
  refine wpAny_pure ⟨plainId_quiet PySem.F.plain_list_iadd _, codeAny_builtin PySem.F.entry_list_iadd ?_⟩
  rw [Around.under_plainId PySem.F.plain_list_iadd _]
  have hS : (s.heap.push { cls := .type "list", data := .seq ([] : List Value).toArray }).get? s.heap.objs.size = some { cls := .type "list", data := .seq #[] } := Heap.get?_push_size _ rfl
  have hlt := K.there _ hok
  show wpAny _ A.in1 (Builtin.List.listExtendWith (.ref s.heap.objs.size) (.ref r) (.ref s.heap.objs.size)) _ _ _
  refine PySem.W.kdl_extend (R := fun r s' => match r with
      | .ok (.ret v) => wpAny (model prog w) A (match v with
          | .ref a => do
            let o ← load a
            match o.data with
              | .seq xs _ => pure xs.toList
              | _ => unsupported "internal:collect"
          | _ => unsupported "internal:collect") Q E s'
      | .ok _ => False
      | .error e => E e s') (A := A) (s := { s with heap := s.heap.push { cls := .type "list", data := .seq ([] : List Value).toArray } }) K hh (K.keep s.heap _ hok fun b _ o e => Heap.get?_push_of_some _ e) s.heap.objs.size (Nat.ne_of_gt hlt.1) (Nat.ne_of_gt hlt.2) _ _ hS (fun h' tk acc' c' hk hS' hacc => ?_) hn
  refine wpAny_bind (wpAny_load hS' ?_)
  exact wpAny_pure (hQ h' tk acc' (fun b o e => hk b o (Nat.ne_of_lt (Heap.lt_size e)) (Heap.get?_push_of_some _ e)) hacc)
end
def StarV (K : PySem.W.Frag) (H : Hp) (x : V) (xs : List V) : Prop :=
  (∃ p, x = .ref p ∧ (SqT K H p xs ∨ SqL K H p xs)) ∨ ∃ p kvs, x = .ref p ∧ H p = some (.dK kvs) ∧ xs = kvs.map fun kv => kV kv.1
def tStr (K : PySem.W.Frag) (te : TE) (t : TA) : TA := fun σ H Q => te σ H fun x H1 => ∃ xs, StarV K H1 x xs ∧ t σ H1 fun ys H2 => Q (xs ++ ys) H2
section
variable {X : Cx} {pins : List (Addr × Obj)} {σ : L2.St} {H : Hp} {s : Shared}
theorem star_dK (hc : X.calm = true) {a : Addr} {kvs : List (Key × V)} {E : Value → Shared → Prop} {Q : List Value → Shared → Prop} (I : Inv X pins σ H s) (hk : H a = some (.dK kvs)) (hQ : ∀ us s', Inv X pins σ H s' → Vals (kvs.map fun kv => kV kv.1) us → Q us s') : PySem.W.StarOf (model X.prog X.w) X.A E (.ref a) Q s := by
  obtain ⟨z, lo, vs, rk, hd⟩ := (show ObjOk X.prog X.w H s.heap a (.dK kvs) from I.hok a _ hk)
  obtain ⟨ep, hat⟩ := hd.dictAt
  have hl : kvs.length = vs.length := Paired.length rk
  have z : wpAny (model X.prog X.w) X.A (collect (.ref a)) Q E s := by
    refine collect_src (PySem.W.kdl_dict (knd := mixKind X.prog X.w) (kvs := vs) (ep := ep) lo) (I.ok.hd hc) hat (by rw [← hl]; exact z) fun h' tk acc hkeep hacc => ?_
    refine hQ _ _ (I.kept (t' := tk) hkeep) (vals_of_at (by have := hacc.1; simp only [List.length_map, Array.length_toList]; omega) fun j x w h1 h2 => ?_)
    obtain ⟨k, y, hky, hi⟩ := hacc.2 j w (by rw [← Array.getElem?_toList]; exact h2)
    have e1 : (kvs.map (·.1))[j]? = some k := by
      rw [KV.keys rk, List.getElem?_map, hky] <;> rfl
    have e2 : (kvs.map fun kv => kV kv.1)[j]? = some (kV k) := by
      have e3 : (kvs.map fun kv => kV kv.1) = (kvs.map (·.1)).map kV := by rw [List.map_map] <;> rfl
      rw [e3, List.getElem?_map, e1] <;> rfl
    rw [e2] at h1
    cases h1
    exact keyIs_rel hi
  unfold PySem.W.StarOf notIterableAtAll
  exact wpAny_bind (wpAny_specialOf hd.typeIs PySem.F.slot_dict_iter.lookup (wpAny_pure ⟨rfl, z⟩))
variable {e : Expr} {p : Pos} {es : List Expr} {te : TE} {t : TA} {K : PySem.W.Frag}
theorem pa_str (hK : X.K = K) (hc : X.calm = true) (he : PE X e te) (hr : PA X es t) (hs : starEach (.Starred e p :: es) X.env = (true, eval e X.env) :: starEach es X.env := by rfl) : PA X (.Starred e p :: es) (tStr K te t) := by
  subst hK
  refine ⟨fun pos pins s σ H Q I h => ?_⟩
  refine PySem.W.items_star (L2.thn (he.run pins s σ H _ I h) fun v s1 ⟨y, H1, I1, ry, xs, hx, q⟩ => ?_) hs
  have fin : ∀ us s2, Inv X pins σ H1 s2 → Vals xs us → wpAny (model X.prog X.w) X.A (spliced (backTo pos (starEach es X.env))) (fun vs s₃ => (fun us s' => ∃ vs H', Inv X pins σ H' s' ∧ Vals vs us ∧ Q vs H') (us ++ vs) s₃) X.xe s2 := fun us s2 I2 rv =>
    L2.thn (hr.run pos pins s2 σ H1 _ I2 q) fun ws s3 ⟨vs, H3, I3, r3, q3⟩ => ⟨xs ++ vs, H3, I3, rv.append r3, q3⟩
  rcases hx with ⟨a, rfl, hx⟩ | ⟨a, kvs, rfl, hk, rfl⟩
  · obtain rfl : v = Value.ref a := ry
    exact StX.star_any I1 hx fin
  · obtain rfl : v = Value.ref a := ry
    exact star_dK hc I1 hk fin
end
end GDict
end

section
set_option Elab.async false
set_option linter.all false
set_option maxRecDepth 100000
set_option maxHeartbeats 4000000
namespace VM
open PySem PySem.Spec PyProof.Rows L2 DL

/-! ## what a program works on: data, and cells that may be written -/
inductive Cell where
  | lst (ds : List D)
  | lse (es : List En)
  | dct (t : Bool) (kvs : List (D × D))
  | dcn (t : Bool) (kvs : List (D × D))
  | obj (c : Nat) (fs : List (Str × En))
  | gone
abbrev Stv := List Cell
inductive Rv where
  | v (d : D)
  | mu (n : Nat)
  | nw (c : Cell)
inductive Out (α : Type) where
  | ok (a : α) (S : Stv)
  | ex (c : Nat) (fs : List (Str × D)) (S : Stv)
  | bad
def Out.bind {α β : Type} : Out α → (α → Stv → Out β) → Out β
  | .ok a S, f => f a S
  | .ex c fs S, _ => .ex c fs S
  | .bad, _ => .bad
@[simp] theorem Out.bind_ok {α β : Type} (a : α) (S : Stv) (f : α → Stv → Out β) : (Out.ok a S).bind f = f a S := rfl
theorem Out.bind_assoc {α β γ : Type} (o : Out α) (f : α → Stv → Out β) (g : β → Stv → Out γ) : (o.bind f).bind g = o.bind fun a S => (f a S).bind g := by cases o <;> rfl
@[simp] theorem Out.bind_bad {α β : Type} (f : α → Stv → Out β) : (Out.bad : Out α).bind f = .bad := rfl
@[simp] theorem Out.bind_ex {α β : Type} (c : Nat) (fs : List (Str × D)) (S : Stv) (f : α → Stv → Out β) : (Out.ex c fs S : Out α).bind f = .ex c fs S := rfl

/-! ## cells and the heap -/
def EnA (K : PySem.W.Frag) (F : Hp) (L : List Addr) (vs : List V) (es : List En) : Prop := vs.length = es.length ∧ EOk K F L (vs.map some) es
def keyK : D → Option Key
  | .int i => some (.inl i)
  | .str s => some (.inr s)
  | _ => none
def keyKs : List D → Option (List Key)
  | [] => some []
  | d :: ds => match keyK d, keyKs ds with
    | some k, some ks => some (k :: ks)
    | _, _ => none
def keyT : D → Option (List Key)
  | .tuple ds => keyKs ds
  | _ => none
/-- the classes' addresses, and the tables of code objects that stand for ever -/
structure ClT where
  c : Nat → Addr
  t : List Addr
  pr : Program
  w : World
instance : CoeFun ClT (fun _ => Nat → Addr) := ⟨ClT.c⟩
/-- keys carried by value -/
def lfD : D → Option Leaf
  | .none => some .none
  | .bool b => some (.num (if b = true then 1 else 0))
  | .int i => some (.num i)
  | .str s => some (.text s)
  | _ => none
/-- keys that are tuples of any depth up to eight -/
def gkT : D → Option NestedKey
  | .tuple ds => match GDict.nkD (.tuple ds) with
    | some k => if k.depth ≤ 8 then some k else none
    | none => none
  | _ => none
def gkD (t : Bool) (d : D) : Option NestedKey := if t = true then gkT d else (lfD d).map Leaf.key
def CellOk (K : PySem.W.Frag) (cl : ClT) (F : Hp) (L : List Addr) (o : HO) : Cell → Prop
  | .lst ds => ∃ vs, o = .lst vs ∧ DpAll K F vs ds
  | .lse es => ∃ vs, o = .lst vs ∧ EnA K F L vs es
  | .dct false kvs => ∃ hk, o = .dK hk ∧ Paired (fun (p : Key × V) (q : D × D) => keyK q.1 = some p.1 ∧ Dp K F p.2 q.2) hk kvs
  | .dct true kvs => ∃ hk, o = .dT hk ∧ Paired (fun (p : List Key × V) (q : D × D) => keyT q.1 = some p.1 ∧ Dp K F p.2 q.2) hk kvs
  | .dcn true kvs => ∃ d ks, o = GDict.DnO cl.pr cl.w d ks ∧ Paired (fun (e : GDict.Ent) (q : D × D) => gkT q.1 = some e.1 ∧ Dp K F (.ref e.2.1) q.1 ∧ Dp K F e.2.2 q.2) ks kvs
  | .dcn false kvs => ∃ d ks, o = GDict.DvO cl.pr cl.w d ks ∧ Paired (fun (e : Leaf × V) (q : D × D) => lfD q.1 = some e.1 ∧ Dp K F e.2 q.2) ks kvs
  | .obj c fs => ∃ dx vs, o = .ins (cl c) dx vs ∧ vs.map (·.1) = fs.map (·.1) ∧ EnA K F L (vs.map (·.2)) (fs.map (·.2))
  | .gone => False
theorem EnA.mono {K : PySem.W.Frag} {F F' : Hp} {L : List Addr} (h : Same F F') {R : List Addr} {vs : List V} {es : List En} (e : EnA K F L vs es) : EnA K F' (L ++ R) vs es := ⟨e.1, EOk.mono h e.2⟩
theorem prd_imp {α β : Type} {P Q : α → β → Prop} (h : ∀ a b, P a b → Q a b) : ∀ {xs : List α} {ys : List β}, Paired P xs ys → Paired Q xs ys
  | _, _, .nil => .nil
  | _, _, .cons a b => .cons (h _ _ a) (prd_imp h b)
theorem CellOk.mono {K : PySem.W.Frag} {cl : ClT} {F F' : Hp} {L : List Addr} (h : Same F F') {R : List Addr} {o : HO} : ∀ {c : Cell}, CellOk K cl F L o c → CellOk K cl F' (L ++ R) o c
  | .lst ds, ⟨vs, e, q⟩ => ⟨vs, e, dpa_mono h _ _ q⟩
  | .lse es, ⟨vs, e, q⟩ => ⟨vs, e, q.mono h⟩
  | .dct false kvs, ⟨hk, e, q⟩ => ⟨hk, e, prd_imp (fun _ _ z => ⟨z.1, dp_mono h _ _ z.2⟩) q⟩
  | .dct true kvs, ⟨hk, e, q⟩ => ⟨hk, e, prd_imp (fun _ _ z => ⟨z.1, dp_mono h _ _ z.2⟩) q⟩
  | .dcn true kvs, ⟨d, ks, e, q⟩ => ⟨d, ks, e, prd_imp (fun _ _ z => ⟨z.1, dp_mono h _ _ z.2.1, dp_mono h _ _ z.2.2⟩) q⟩
  | .dcn false kvs, ⟨d, ks, e, q⟩ => ⟨d, ks, e, prd_imp (fun _ _ z => ⟨z.1, dp_mono h _ _ z.2⟩) q⟩
  | .obj c fs, ⟨dx, vs, e, n, q⟩ => ⟨dx, vs, e, n, q.mono h⟩
  | .gone, h => h.elim

structure SV (K : PySem.W.Frag) (cl : ClT) (F H : Hp) (L : List Addr) (S : Stv) : Prop where
  sub : Same F H
  len : L.length = S.length
  nd : L.Nodup
  st : ∀ (n : Nat) (a : Addr), L[n]? = some a → H a ≠ none ∧ ∀ c, S[n]? = some c → c ≠ .gone → F a = none ∧ ∃ o, H a = some o ∧ CellOk K cl F L o c
  tb : ∀ P ∈ cl.t, F P = some (GSum.TbO P)
theorem SV.nil {K : PySem.W.Frag} {cl : ClT} {F H : Hp} (h : Same F H) (ht : ∀ P ∈ cl.t, F P = some (GSum.TbO P)) : SV K cl F H [] [] := ⟨h, rfl, .nil, fun n a e => by simp at e, ht⟩
theorem SV.at {K : PySem.W.Frag} {cl : ClT} {F H : Hp} {L : List Addr} {S : Stv} {n : Nat} {c : Cell} (s : SV K cl F H L S) (h : S[n]? = some c) (hc : c ≠ .gone) : ∃ a o, L[n]? = some a ∧ F a = none ∧ H a = some o ∧ CellOk K cl F L o c := by
  have hl : n < L.length := by rw [s.len]; exact (List.getElem?_eq_some_iff.mp h).1
  have e : L[n]? = some L[n] := List.getElem?_eq_getElem hl
  obtain ⟨_, q⟩ := s.st n _ e
  obtain ⟨f, o, h1, h2⟩ := q c h hc
  exact ⟨_, o, e, f, h1, h2⟩
theorem SV.memH {K : PySem.W.Frag} {cl : ClT} {F H : Hp} {L : List Addr} {S : Stv} {a : Addr} (s : SV K cl F H L S) (h : a ∈ L) : H a ≠ none := by
  obtain ⟨n, e⟩ := List.getElem?_of_mem h
  exact (s.st n a e).1

/-- a step: the written addresses L become L', new ones behind -/
structure Nx (L : List Addr) (F H : Hp) (L' : List Addr) (F' H' : Hp) : Prop where
  stp : Stp L F H F' H'
  ex : ∃ R, L' = L ++ R ∧ ∀ a ∈ R, H a = none
theorem Nx.refl (L : List Addr) (F H : Hp) : Nx L F H L F H := ⟨.refl _ _ _, [], by simp, fun a h => by cases h⟩
theorem Nx.trans {L L1 L2 : List Addr} {F H F1 H1 F2 H2 : Hp} (a : Nx L F H L1 F1 H1) (b : Nx L1 F1 H1 L2 F2 H2) : Nx L F H L2 F2 H2 := by
  obtain ⟨s1, R1, rfl, f1⟩ := a
  obtain ⟨s2, R2, rfl, f2⟩ := b
  refine ⟨s1.trans' s2 fun x hx => (List.mem_append.mp hx).imp_right (f1 x), R1 ++ R2, by rw [List.append_assoc], fun x hx => ?_⟩
  rcases List.mem_append.mp hx with h | h
  · exact f1 x h
  · exact s1.fresh (f2 x h)
theorem Nx.fx {L L1 : List Addr} {F H F1 H1 : Hp} (a : Nx L F H L1 F1 H1) : Same F F1 := a.stp.fx
theorem Nx.eok {K : PySem.W.Frag} {L L1 : List Addr} {F H F1 H1 : Hp} {σ : L2.St} {ρ : Rho} (a : Nx L F H L1 F1 H1) (E : EOk K F L σ ρ) : EOk K F1 L1 σ ρ := by
  obtain ⟨s1, R1, rfl, _⟩ := a
  exact E.mono s1.fx
theorem Nx.enok {K : PySem.W.Frag} {L L1 : List Addr} {F H F1 H1 : Hp} {e : En} {o : Option V} (a : Nx L F H L1 F1 H1) (E : EnOk K F L e o) : EnOk K F1 L1 e o := by
  obtain ⟨s1, R1, rfl, _⟩ := a
  exact E.mono s1.fx
theorem Nx.ena {K : PySem.W.Frag} {L L1 : List Addr} {F H F1 H1 : Hp} {vs : List V} {es : List En} (a : Nx L F H L1 F1 H1) (E : EnA K F L vs es) : EnA K F1 L1 vs es := ⟨E.1, a.eok E.2⟩
theorem Nx.cell {K : PySem.W.Frag} {cl : ClT} {L L1 : List Addr} {F H F1 H1 : Hp} {o : HO} {c : Cell} (a : Nx L F H L1 F1 H1) (E : CellOk K cl F L o c) : CellOk K cl F1 L1 o c := by
  obtain ⟨s1, R1, rfl, _⟩ := a
  exact E.mono s1.fx
theorem Nx.get {L L1 : List Addr} {F H F1 H1 : Hp} {n : Nat} {x : Addr} (a : Nx L F H L1 F1 H1) (e : L[n]? = some x) : L1[n]? = some x := by
  obtain ⟨_, R1, rfl, _⟩ := a
  rw [List.getElem?_append_left (List.getElem?_eq_some_iff.mp e).1]
  exact e

/-- a result: data; a cell by its number; an object that stands nowhere yet -/
def RV (K : PySem.W.Frag) (cl : ClT) (L' : List Addr) (F' H H' : Hp) (v : V) : Rv → Prop
  | .v d => Dp K F' v d
  | .mu n => ∃ a, v = .ref a ∧ L'[n]? = some a
  | .nw c => ∃ a o, v = .ref a ∧ H a = none ∧ a ∉ L' ∧ F' a = none ∧ H' a = some o ∧ CellOk K cl F' L' o c
/-- the start of the step lies further back -/
theorem RV.back {K : PySem.W.Frag} {cl : ClT} {L L1 L2 : List Addr} {F H F1 H1 F2 H2 : Hp} {v : V} (n : Nx L F H L1 F1 H1) : ∀ {r : Rv}, RV K cl L2 F2 H1 H2 v r → RV K cl L2 F2 H H2 v r
  | .v d, h => h
  | .mu m, h => h
  | .nw c, ⟨a, o, e, h0, h1, h2, h3, h4⟩ => ⟨a, o, e, n.stp.fresh h0, h1, h2, h3, h4⟩
/-- a result stays behind a further step (an object that stands nowhere must not be written: it is not in L1) -/
theorem RV.fwd {K : PySem.W.Frag} {cl : ClT} {L1 L2 : List Addr} {F1 H H1 F2 H2 : Hp} {v : V} (n : Nx L1 F1 H1 L2 F2 H2) : ∀ {r : Rv}, RV K cl L1 F1 H H1 v r → RV K cl L2 F2 H H2 v r
  | .v d, h => dp_mono n.fx _ _ h
  | .mu m, ⟨a, e, h⟩ => ⟨a, e, n.get h⟩
  | .nw c, ⟨a, o, e, h0, h1, h2, h3, h4⟩ => by
    have hn : a ∉ L2 := by
      obtain ⟨_, R, rfl, f⟩ := n
      intro hm
      rcases List.mem_append.mp hm with q | q
      · exact h1 q
      · rw [f a q] at h3; cases h3
    exact ⟨a, o, e, h0, hn, n.stp.nof a (by rw [h3]; exact nofun) h2, n.stp.keep a o h3 h1, n.cell h4⟩

/-! ## what a piece of a program does, by what the machine says of it -/
abbrev WXK := Value → Option Addr → L2.St → Hp → Prop
/-- the exception of class c with these fields -/
def XOk (K : PySem.W.Frag) (F H0 H : Hp) (fs : List (Str × D)) (d : Option Addr) : Prop := match fs with
  | [] => d = none
  | _ => ∃ p vs, d = some p ∧ H0 p = none ∧ F p = none ∧ H p = some (.xd vs) ∧ Paired (fun (q : Str × V) (f : Str × D) => q.1 = f.1 ∧ Dp K F q.2 f.2) vs fs
abbrev XCl := Nat → Value
/-- what is wanted of an outcome -/
def Pst {α β : Type} (K : PySem.W.Frag) (cl : ClT) (xc : XCl) (Rel : List Addr → Hp → Hp → Hp → β → α → Prop) (out : Out α) (L : List Addr) (F H : Hp) (W : WXK) (σ : L2.St) (Q : β → Hp → Prop) : Prop := match out with
  | .ok r S' => ∀ v F' H' L', Nx L F H L' F' H' → SV K cl F' H' L' S' → Rel L' F' H H' v r → Q v H'
  | .ex c fs S' => ∀ d F' H' L', Nx L F H L' F' H' → SV K cl F' H' L' S' → XOk K F' H H' fs d → W (xc c) d σ H'
  | .bad => False
def Evs {α β : Type} (K : PySem.W.Frag) (cl : ClT) (xc : XCl) (Rel : List Addr → Hp → Hp → Hp → β → α → Prop) (ρ : Rho) (S : Stv) (te : WXK → L2.St → Hp → (β → Hp → Prop) → Prop) (out : Out α) : Prop :=
  ∀ σ F H L, EOk K F L σ ρ → SV K cl F H L S → ∀ (W : WXK) (Q : β → Hp → Prop), Pst K cl xc Rel out L F H W σ Q → te W σ H Q
def Bk {α β : Type} (Rel : List Addr → Hp → Hp → Hp → β → α → Prop) : Prop := ∀ L F H L1 F1 H1 L2 F2 H2 v r, Nx L F H L1 F1 H1 → Rel L2 F2 H1 H2 v r → Rel L2 F2 H H2 v r
theorem XOk.back {K : PySem.W.Frag} {L L1 : List Addr} {F H F1 H1 F2 H2 : Hp} {fs : List (Str × D)} {d : Option Addr} (n : Nx L F H L1 F1 H1) (x : XOk K F2 H1 H2 fs d) : XOk K F2 H H2 fs d := by
  cases fs with
  | nil => exact x
  | cons f fs =>
    obtain ⟨p, vs, e, h0, h⟩ := x
    exact ⟨p, vs, e, n.stp.fresh h0, h⟩

section
variable {α β γ δ : Type} {K : PySem.W.Frag} {cl : ClT} {xc : XCl} {Ra : List Addr → Hp → Hp → Hp → γ → δ → Prop} {Rb : List Addr → Hp → Hp → Hp → β → α → Prop} {ρ : Rho} {S S1 : Stv} {W : WXK} {σ : L2.St}
theorem Pst.shift {out : Out α} {L L1 : List Addr} {F F1 H H1 : Hp} {Q : β → Hp → Prop} (bk : Bk Rb) (n : Nx L F H L1 F1 H1) (p : Pst K cl xc Rb out L F H W σ Q) : Pst K cl xc Rb out L1 F1 H1 W σ Q := by
  cases out with
  | ok r S' => exact fun v F' H' L' n' s' r' => p v F' H' L' (n.trans n') s' (bk _ _ _ _ _ _ _ _ _ _ _ n r')
  | ex c fs S' => exact fun d F' H' L' n' s' x' => p d F' H' L' (n.trans n') s' (x'.back n)
  | bad => exact p
theorem Evs.at {te : WXK → L2.St → Hp → (β → Hp → Prop) → Prop} {out : Out α} {L L1 : List Addr} {F F1 H H1 : Hp} {Q : β → Hp → Prop} (h : Evs K cl xc Rb ρ S1 te out) (bk : Bk Rb) (E : EOk K F1 L1 σ ρ) (n : Nx L F H L1 F1 H1) (s : SV K cl F1 H1 L1 S1)
    (p : Pst K cl xc Rb out L F H W σ Q) : te W σ H1 Q := h σ F1 H1 L1 E s W Q (p.shift bk n)
theorem bnd {ta : WXK → L2.St → Hp → (γ → Hp → Prop) → Prop} {G : WXK → L2.St → γ → Hp → (β → Hp → Prop) → Prop} {o : Out δ} {f : δ → Stv → Out α} (ha : Evs K cl xc Ra ρ S ta o)
    (hf : ∀ r S1, o = .ok r S1 → ∀ σ F H L F1 H1 L1 v W Q, EOk K F1 L1 σ ρ → Nx L F H L1 F1 H1 → SV K cl F1 H1 L1 S1 → Ra L1 F1 H H1 v r → Pst K cl xc Rb (f r S1) L F H W σ Q → G W σ v H1 Q) :
    Evs K cl xc Rb ρ S (fun W σ H Q => ta W σ H fun x H1 => G W σ x H1 Q) (o.bind f) := fun σ F H L E s W Q p => by
  refine ha σ F H L E s W _ ?_
  cases o with
  | ok r S1 => exact fun v F1 H1 L1 n s1 r1 => hf r S1 rfl σ F H L F1 H1 L1 v W Q (n.eok E) n s1 r1 p
  | ex c fs S' => exact p
  | bad => exact p
end
/-! ### relations of results -/
abbrev EV (K : PySem.W.Frag) (cl : ClT) (xc : XCl) (ρ : Rho) (S : Stv) (te : WXK → TE) (out : Out Rv) : Prop := Evs K cl xc (RV K cl) ρ S te out
theorem bkV {K : PySem.W.Frag} {cl : ClT} : Bk (RV K cl) := fun _ _ _ _ _ _ _ _ _ _ _ n r => r.back n
def RB : List Addr → Hp → Hp → Hp → Bool → Bool → Prop := fun _ _ _ _ v b => v = b
theorem bkB : Bk RB := fun _ _ _ _ _ _ _ _ _ _ _ _ r => r
abbrev ET (K : PySem.W.Frag) (cl : ClT) (xc : XCl) (ρ : Rho) (S : Stv) (te : WXK → TT) (out : Out Bool) : Prop := Evs K cl xc RB ρ S te out
def RO : List Addr → Hp → Hp → Hp → Option Int → Option Int → Prop := fun _ _ _ _ v b => v = b
theorem bkO : Bk RO := fun _ _ _ _ _ _ _ _ _ _ _ _ r => r
def RE (K : PySem.W.Frag) : List Addr → Hp → Hp → Hp → List V → List En → Prop := fun L' F' _ _ vs es => EnA K F' L' vs es
theorem bkE {K : PySem.W.Frag} : Bk (RE K) := fun _ _ _ _ _ _ _ _ _ _ _ _ r => r
inductive RL (K : PySem.W.Frag) (cl : ClT) (L' : List Addr) (F' H H' : Hp) : List V → List Rv → Prop where
  | nil : RL K cl L' F' H H' [] []
  | cons {v : V} {r : Rv} {vs : List V} {rs : List Rv} : RV K cl L' F' H H' v r → RL K cl L' F' H H' vs rs → RL K cl L' F' H H' (v :: vs) (r :: rs)
theorem RL.back {K : PySem.W.Frag} {cl : ClT} {L L1 L2 : List Addr} {F H F1 H1 F2 H2 : Hp} {vs : List V} {rs : List Rv} (n : Nx L F H L1 F1 H1) (h : RL K cl L2 F2 H1 H2 vs rs) : RL K cl L2 F2 H H2 vs rs := by
  induction h with
  | nil => exact .nil
  | cons a _ ih => exact .cons (a.back n) ih
theorem bkL {K : PySem.W.Frag} {cl : ClT} : Bk (RL K cl) := fun _ _ _ _ _ _ _ _ _ _ _ n r => r.back n

/-! ## freezing and owning -/
/-- a new list becomes data -/
@[simp] def rvD : Rv → Option D
  | .v d => some d
  | .nw (.lst ds) => some (.list ds)
  | _ => none
theorem frz_new {K : PySem.W.Frag} {cl : ClT} {L L1 : List Addr} {F H F1 H1 : Hp} {S1 : Stv} {a : Addr} {o : HO} {ds : List D} (n : Nx L F H L1 F1 H1) (s : SV K cl F1 H1 L1 S1) (h0 : H a = none) (hL : a ∉ L1) (hf : F1 a = none) (hh : H1 a = some o) (hc : CellOk K cl F1 L1 o (.lst ds)) :
    ∃ F2, Nx L F H L1 F2 H1 ∧ SV K cl F2 H1 L1 S1 ∧ Dp K F2 (.ref a) (.list ds) ∧ Same F1 F2 := by
  obtain ⟨vs, rfl, hd⟩ := hc
  have sm : Same F1 (upd F1 a (.lst vs)) := fun b o e => by
    rw [upd_ne (ne_of_none e hf)]
    exact e
  have hnL : a ∉ L := by
    obtain ⟨_, R, rfl, _⟩ := n
    exact fun m => hL (List.mem_append_left _ m)
  refine ⟨upd F1 a (.lst vs), ⟨⟨n.fx.trans sm, n.stp.keep, n.stp.live, fun b hb hn => ?_⟩, n.ex⟩, ⟨fun b o e => ?_, s.len, s.nd, fun m b e => ?_, fun P hP => sm _ _ (s.tb P hP)⟩, .lst (.inl (.inl upd_same)) (dpa_mono sm _ _ hd), sm⟩
  · have : b ≠ a := fun q => hb (by rw [q]; exact h0)
    rw [upd_ne this]
    exact n.stp.nof b hb hn
  · by_cases q : b = a
    · subst q
      rw [upd_same] at e
      cases e
      exact hh
    · rw [upd_ne q] at e
      exact s.sub _ _ e
  · obtain ⟨x, y⟩ := s.st m b e
    have hba : b ≠ a := fun q => hL (q ▸ List.mem_of_getElem? e)
    refine ⟨x, fun c e1 e2 => ?_⟩
    obtain ⟨f, o, h1, h2⟩ := y c e1 e2
    refine ⟨by rw [upd_ne hba]; exact f, o, h1, ?_⟩
    have := h2.mono (R := []) sm
    rw [List.append_nil] at this
    exact this
theorem rv_frz {K : PySem.W.Frag} {cl : ClT} {L L1 : List Addr} {F H F1 H1 : Hp} {S1 : Stv} {v : V} {r : Rv} {d : D} (n : Nx L F H L1 F1 H1) (s : SV K cl F1 H1 L1 S1) (h : RV K cl L1 F1 H H1 v r) (e : rvD r = some d) :
    ∃ F2, Nx L F H L1 F2 H1 ∧ SV K cl F2 H1 L1 S1 ∧ Dp K F2 v d ∧ Same F1 F2 := by
  cases r with
  | v d' => cases e; exact ⟨F1, n, s, h, Same.refl _⟩
  | mu m => cases e
  | nw c =>
    cases c with
    | lst ds =>
      cases e
      obtain ⟨a, o, rfl, h0, hL, hf, hh, hc⟩ := h
      exact frz_new n s h0 hL hf hh hc
    | lse _ => cases e
    | dct _ _ => cases e
    | dcn _ _ => cases e
    | obj _ _ => cases e
    | gone => cases e
/-- an object becomes a cell -/
theorem own_new {K : PySem.W.Frag} {cl : ClT} {L L1 : List Addr} {F H F1 H1 : Hp} {S1 : Stv} {a : Addr} {o : HO} {c : Cell} (n : Nx L F H L1 F1 H1) (s : SV K cl F1 H1 L1 S1) (h0 : H a = none) (hL : a ∉ L1) (hf : F1 a = none) (hh : H1 a = some o) (hc : CellOk K cl F1 L1 o c) :
    Nx L F H (L1 ++ [a]) F1 H1 ∧ SV K cl F1 H1 (L1 ++ [a]) (S1 ++ [c]) ∧ (L1 ++ [a])[S1.length]? = some a := by
  have hlast : (L1 ++ [a])[S1.length]? = some a := by
    rw [← s.len, List.getElem?_append_right (Nat.le_refl _), Nat.sub_self]
    rfl
  refine ⟨⟨n.stp, ?_⟩, ⟨s.sub, by simp [s.len], ?_, fun m b e => ?_, s.tb⟩, hlast⟩
  · obtain ⟨_, R, rfl, f⟩ := n
    refine ⟨R ++ [a], by rw [List.append_assoc], fun x hx => ?_⟩
    rcases List.mem_append.mp hx with q | q
    · exact f x q
    · have : x = a := by simpa using q
      rw [this]; exact h0
  · rw [List.nodup_append]
    exact ⟨s.nd, by simp, fun x hx y hy => by
      have : y = a := by simpa using hy
      subst this
      exact fun z => hL (z ▸ hx)⟩
  · by_cases hm : m < L1.length
    · rw [List.getElem?_append_left hm] at e
      obtain ⟨x, y⟩ := s.st m b e
      refine ⟨x, fun c' e1 e2 => ?_⟩
      rw [List.getElem?_append_left (by rw [← s.len]; exact hm)] at e1
      obtain ⟨f, o', h1, h2⟩ := y c' e1 e2
      exact ⟨f, o', h1, h2.mono (Same.refl _)⟩
    · have hm2 : m = S1.length := by
        have := (List.getElem?_eq_some_iff.mp e).1
        simp at this
        rw [← s.len]; omega
      subst hm2
      rw [hlast] at e
      cases e
      refine ⟨by rw [hh]; exact nofun, fun c' e1 e2 => ?_⟩
      rw [List.getElem?_append_right (Nat.le_refl _), Nat.sub_self] at e1
      cases e1
      exact ⟨hf, o, hh, hc.mono (Same.refl _)⟩
/-- a result as a slot's content -/
@[simp] def rvE : Rv → Stv → En × Stv
  | .v d, S => (.dt d, S)
  | .mu n, S => (.mu n, S)
  | .nw (.lst ds), S => (.dt (.list ds), S)
  | .nw c, S => (.mu S.length, S ++ [c])
theorem rv_en {K : PySem.W.Frag} {cl : ClT} {L L1 : List Addr} {F H F1 H1 : Hp} {S1 : Stv} {v : V} {r : Rv} (n : Nx L F H L1 F1 H1) (s : SV K cl F1 H1 L1 S1) (h : RV K cl L1 F1 H H1 v r) :
    ∃ L2 F2, Nx L F H L2 F2 H1 ∧ SV K cl F2 H1 L2 (rvE r S1).2 ∧ EnOk K F2 L2 (rvE r S1).1 (some v) := by
  cases r with
  | v d' => exact ⟨L1, F1, n, s, v, rfl, h⟩
  | mu m =>
    obtain ⟨a, rfl, h⟩ := h
    exact ⟨L1, F1, n, s, a, rfl, h⟩
  | nw c =>
    obtain ⟨a, o, rfl, h0, hL, hf, hh, hc⟩ := h
    have own : ∃ L2 F2, Nx L F H L2 F2 H1 ∧ SV K cl F2 H1 L2 (S1 ++ [c]) ∧ EnOk K F2 L2 (.mu S1.length) (some (V.ref a)) := by
      obtain ⟨x, y, z⟩ := own_new n s h0 hL hf hh hc
      exact ⟨_, F1, x, y, a, rfl, z⟩
    cases c with
    | lst ds =>
      obtain ⟨F2, x, y, z, _⟩ := frz_new n s h0 hL hf hh hc
      exact ⟨L1, F2, x, y, _, rfl, z⟩
    | lse _ => exact own
    | dct _ _ => exact own
    | dcn _ _ => exact own
    | obj _ _ => exact own
    | gone => exact hc.elim
/-- always a cell of one's own -/
def rvO : Rv → Stv → Out (En)
  | .nw c, S => .ok (.mu S.length) (S ++ [c])
  | _, _ => .bad
end VM
end

section
set_option Elab.async false
set_option linter.all false
set_option maxRecDepth 100000
set_option maxHeartbeats 4000000
namespace VM
open PySem PySem.Spec PyProof.Rows L2 DL

/-! ## the text as a term -/
inductive Bop where | add | sub | mul | mod | fdiv | pow
inductive Cop where | eq | ne | lt | le | gt | ge | isin | notin | isn | notn
inductive Bif where | len | max | min | ord | abs | int | bool | list | tuple | sum | str | sorted | any | all | repr
inductive Bmt where | append | pop | extend | reverse | index | join | items | get
/-- what is asked of a dict with keys of any kind (neg: not in) -/
inductive Xmt where | nin (neg : Bool) | nix | nget | nget2 | nkeys | nvals | nlen
/-- methods of texts -/
inductive Tmt where | upper | lower | isupper | find | split | splitM | part | index
inductive Tgt where
  | nm (i : Nat)
  | tp (is : List Nat)
mutual
inductive Ex where
  | var (i : Nat)
  | con (v : D)
  | glb (k : Nat) (d : D)
  | bin (o : Bop) (a b : Ex)
  | neg (a : Ex)
  | not (a : Ex)
  | and (a b : Ex)
  | or (a b : Ex)
  | ife (c : Tx) (a b : Ex)
  | cmp (o : Cop) (a b : Ex)
  | chn (o o' : Cop) (a b c : Ex)
  | tup (es : Exs)
  | lst (es : Exs)
  | dnw (t : Bool)
  | idx (a i : Ex)
  | slc (a : Ex) (lo hi : Exo)
  | call (f : Nat) (es : Exs)
  | mth (c f : Nat) (m : Str) (o : Ex) (es : Exs)
  | mak (c f : Nat) (es : Exs)
  | fld (m : Str) (o : Ex)
  | isi (T : String) (a : Ex)
  | bi (b : Bif) (es : Exs)
  | bm (b : Bmt) (o : Ex) (es : Exs)
  | lc (ws : List Nat) (g : Tgt) (it : Itr) (c : Txo) (e : Ex)
  | lrg (a : Exo) (b : Ex) (t : Bool)
  | own (e : Ex)
  | bad
  | its (e : Ex)
  | ddc (kvs : List (Str × Str))
  | dgt (o k x : Ex)
  | rsl (a : Ex)
  | spr (k : Nat) (a : Ex)
  | fst (es : Exs)
  | ndw (t : Bool)
  | xm (m : Xmt) (e : Ex) (es : Exs)
  | tm (m : Tmt) (o : Ex) (es : Exs)
  | cdn (neg : Bool) (k : Nat) (kvs : List (Str × D)) (e : Ex)
  | cdi (k : Nat) (kvs : List (Str × D)) (e : Ex)
  | ddg (kvs : List (Str × Option Nat × D))
  | dg1 (o k : Ex)
  | hx2 (e : Ex)
inductive Exs where
  | nil
  | cons (e : Ex) (es : Exs)
  | star (e : Ex) (es : Exs)
inductive Exo where
  | none
  | some (e : Ex)
inductive Itr where
  | sq (e : Ex)
  | rg1 (a : Ex)
  | rrg (a : Ex)
  | rg2 (a b : Ex)
  | enu (e : Ex)
  | rev (e : Ex)
inductive Tx where
  | val (e : Ex)
  | not (t : Tx)
  | and (t u : Tx)
  | or (t u : Tx)
  | cmp (o : Cop) (a b : Ex)
  | chn (o o' : Cop) (a b c : Ex)
inductive Txo where
  | none
  | some (t : Tx)
end
mutual
/-- what an except suite returns: a scalar, a field of the error, a tuple, a new list of such -/
inductive Sx where
  | d (v : D)
  | f (m : Str)
  | tp (xs : Sxs)
  | ls (xs : Sxs)
inductive Sxs where
  | nil
  | cons (x : Sx) (xs : Sxs)
end
inductive St where
  | nop
  | seq (a b : St)
  | asg (g : Tgt) (e : Ex)
  | aug (i : Nat) (o : Bop) (e : Ex)
  | ite (c : Tx) (a b : St)
  | for_ (g : Tgt) (it : Itr) (b : St) (ks : List Nat)
  | whl (c : Tx) (b : St) (ks : List Nat)
  | ret (e : Ex)
  | retn
  | brk
  | cnt
  | exp (e : Ex)
  | seti (o i e : Ex)
  | setf (m : Str) (o e : Ex)
  | sett (o : Ex) (es : Exs) (e : Ex)
  | augf (m : Str) (o : Ex) (b : Bop) (e : Ex)
  | bad
  | rai (c : Nat) (m : Ex)
  | tri (i m : Nat) (b : St) (k : Nat) (cs : List (Nat × List Bool))
  | trb (i m : Nat) (b : St) (k : Nat) (cs : List (Nat × Bool))
  | nput (o i e : Ex)
  | ndel (o i : Ex)
  | tpf (i : Nat) (m : Str) (o e : Ex)
  | raf (c : Nat) (fs : List Str) (g : Nat) (es : Exs)
  | trx (i : Option Nat) (m : Nat) (b : St) (k : Nat) (cs : List (Nat × List (Str × Bool) × Sx))

/-! ## what it computes -/
abbrev big : Nat := 16000000
@[simp] def truR (S : Stv) : Rv → Option Bool
  | .v .none => some false
  | .v (.bool b) => some b
  | .v (.int i) => some (i != 0)
  | .v (.str s) => if s.length ≤ sizeLine then some ((s.length : Int) != 0) else none
  | .v (.list ds) => some (!ds.isEmpty)
  | .v (.tuple ds) => some (!ds.isEmpty)
  | .v (.dict _) => none
  | .mu n => match S[n]? with
    | some (.lst ds) => some (!ds.isEmpty)
    | some (.lse es) => some (!es.isEmpty)
    | _ => none
  | .nw (.lst ds) => some (!ds.isEmpty)
  | .nw _ => none
@[simp] def truO (r : Rv) (S : Stv) : Out Bool := match truR S r with
  | some b => .ok b S
  | none => .bad
/-- a list that is read -/
@[simp] def lstR (S : Stv) : Rv → Option (List D)
  | .v (.list ds) => some ds
  | .mu n => match S[n]? with
    | some (.lst ds) => some ds
    | _ => none
  | .nw (.lst ds) => some ds
  | _ => none
@[simp] def sqR (S : Stv) : Rv → Option (List D)
  | .v (.tuple ds) => some ds
  | r => lstR S r
@[simp] def enDs : List En → Option (List D)
  | [] => some []
  | .dt d :: es => (enDs es).map (d :: ·)
  | _ :: _ => none
def cutD (xs : List D) (lo hi : Option Int) : List D := (xs.drop (HT.sIx xs.length 0 lo)).take (HT.sIx xs.length xs.length hi - HT.sIx xs.length 0 lo)
@[simp] def okD (d : D) (S : Stv) : Out Rv := .ok (.v d) S
def binR (o : Bop) (x y : Rv) (S : Stv) : Out Rv :=
  match o, x, y with
  | .add, .v (.int i), .v (.int j) => okD (.int (i + j)) S
  | .sub, .v (.int i), .v (.int j) => okD (.int (i - j)) S
  | .mul, .v (.int i), .v (.int j) => if (-(2 ^ 64) < i ∧ i < 2 ^ 64) ∨ (-(2 ^ 64) < j ∧ j < 2 ^ 64) then okD (.int (i * j)) S else .bad
  | .mul, .v (.tuple a), .v (.int k) => if 0 < a.length ∧ 0 ≤ k ∧ k ≤ 1000 ∧ a.length ≤ 1000 then okD (.tuple (List.replicate k.toNat a).flatten) S else .bad
  | .mul, .v (.str a), .v (.int k) => if 0 ≤ k ∧ k ≤ 1000 ∧ a.length ≤ 1000 then okD (.str (Txt.mul a k)) S else .bad
  | .mod, .v (.int i), .v (.int j) => if 0 < j then okD (.int (i % j)) S else .bad
  | .fdiv, .v (.int i), .v (.int j) => if 0 < j ∧ j < 4611686018427387904 then okD (.int (i / j)) S else .bad
  | .pow, .v (.int i), .v (.int j) => if 0 ≤ j ∧ j ≤ 1000000 ∧ i.natAbs < 2 ^ 64 then okD (.int (i ^ j.toNat)) S else .bad
  | .add, .v (.str a), .v (.str b) => if a.length + b.length ≤ sizeLine then okD (.str (a ++ b)) S else .bad
  | .add, .v (.tuple a), .v (.tuple b) => if a.length + b.length ≤ big then okD (.tuple (a ++ b)) S else .bad
  | .add, x, y => match lstR S x, lstR S y with
    | some a, some b => if a.length + b.length ≤ big then .ok (.nw (.lst (a ++ b))) S else .bad
    | _, _ => .bad
  | _, _, _ => .bad
/-- what can be compared: data, or a list's present content -/
@[simp] def datR (S : Stv) : Rv → Option D
  | .v d => some d
  | r => (lstR S r).map .list
@[simp] def eqD : D → D → Option Bool
  | .none, .none => some true
  | .int i, .int j => some (decide (i = j))
  | .str i, .str j => some (decide (i = j))
  | .bool i, .bool j => some (decide (i = j))
  | .none, .int _ => some false
  | .none, .str _ => some false
  | .none, .bool _ => some false
  | .int _, .none => some false
  | .str _, .none => some false
  | .bool _, .none => some false
  | .int _, .str _ => some false
  | .str _, .int _ => some false
  | d, e => if SeqAt.shaped d = true ∧ SeqAt.shaped e = true then some (PyData.eqv d e) else none
@[simp] def isNone : D → Bool
  | .none => true
  | _ => false
def flatD : D → Bool
  | .none => true
  | .int _ => true
  | .str _ => true
  | .bool _ => true
  | _ => false
def eqF : D → D → Bool
  | .none, .none => true
  | .bool a, .bool b => a == b
  | .bool a, .int b => (if a then 1 else 0) == b
  | .int a, .bool b => a == (if b then 1 else 0)
  | .int a, .int b => a == b
  | .str a, .str b => a == b
  | _, _ => false
/-- a key's value in a dict -/
def dgetD (t : Bool) (kvs : List (D × D)) (k : D) : Option (Option D) :=
  match t with
  | false => (keyK k).map fun x => (kvs.find? fun p => decide (keyK p.1 = some x)).map (·.2)
  | true => (keyT k).map fun x => (kvs.find? fun p => decide (keyT p.1 = some x)).map (·.2)
def inR (x y : Rv) (S : Stv) : Option Bool :=
  match x, y with
  | .v d, .mu n => match S[n]? with
    | some (.dct t kvs) => (dgetD t kvs d).map (·.isSome)
    | some (.lst ds) => if SeqAt.shaped d = true ∧ SeqAt.shaped (.list ds) = true then some (ds.any fun z => PyData.eqv z d) else none
    | _ => none
  | .v (.str a), .v (.str b) => some (!(Builtin.Str.occurrences b a 0 b.length 1).isEmpty)
  | .v d, .v (.tuple ds) => if flatD d = true ∧ ds.all flatD = true then some (ds.any fun z => eqF z d) else none
  | .v d, .v (.list ds) => if SeqAt.shaped d = true ∧ SeqAt.shaped (.list ds) = true then some (ds.any fun z => PyData.eqv z d) else none
  | .v d, .nw (.lst ds) => if SeqAt.shaped d = true ∧ SeqAt.shaped (.list ds) = true then some (ds.any fun z => PyData.eqv z d) else none
  | _, _ => none
@[simp] def cmpR (o : Cop) (x y : Rv) (S : Stv) : Option Bool :=
  match o with
  | .eq => match datR S x, datR S y with
    | some d, some e => eqD d e
    | _, _ => none
  | .ne => match datR S x, datR S y with
    | some d, some e => (eqD d e).map (!·)
    | _, _ => none
  | .lt => match x, y with
    | .v (.int i), .v (.int j) => some (decide (i < j))
    | .v (.str i), .v (.str j) => some (decide (i.cps.toList < j.cps.toList))
    | _, _ => none
  | .le => match x, y with
    | .v (.int i), .v (.int j) => some (decide (i ≤ j))
    | .v (.str i), .v (.str j) => some (!decide (j.cps.toList < i.cps.toList))
    | _, _ => none
  | .gt => match x, y with
    | .v (.int i), .v (.int j) => some (decide (j < i))
    | .v (.str i), .v (.str j) => some (decide (j.cps.toList < i.cps.toList))
    | _, _ => none
  | .ge => match x, y with
    | .v (.int i), .v (.int j) => some (decide (j ≤ i))
    | .v (.str i), .v (.str j) => some (!decide (i.cps.toList < j.cps.toList))
    | _, _ => none
  | .isn => match x, y with
    | .v d, .v .none => some (isNone d)
    | .mu _, .v .none => some false
    | .v (.bool a), .v (.bool b) => some (decide (a = b))
    | _, _ => none
  | .notn => match x, y with
    | .v d, .v .none => some (!isNone d)
    | .mu _, .v .none => some true
    | .v (.bool a), .v (.bool b) => some (!decide (a = b))
    | _, _ => none
  | .isin => inR x y S
  | .notin => (inR x y S).map (!·)
@[simp] def cmpO (o : Cop) (x y : Rv) (S : Stv) : Out Bool := match cmpR o x y S with
  | some b => .ok b S
  | none => .bad
@[simp] def idxO (x y : Rv) (S : Stv) : Out Rv :=
  match y with
  | .v d => match x with
    | .mu n => match S[n]? with
      | some (.dct t kvs) => match dgetD t kvs d with
        | some (some e) => okD e S
        | _ => .bad
      | some (.lst ds) => match d with
        | .int i => match atI ds i with
          | some e => okD e S
          | none => .bad
        | _ => .bad
      | some (.lse es) => match d with
        | .int i => match atI es i with
          | some (.dt e) => okD e S
          | some (.mu m) => .ok (.mu m) S
          | _ => .bad
        | _ => .bad
      | _ => .bad
    | .v (.str z) => match d with
      | .int i => if z.length ≤ sizeLine then match atI z.cps.toList i with
        | some c => okD (.str ⟨#[c]⟩) S
        | none => .bad
        else .bad
      | _ => .bad
    | x => match d with
      | .int i => match sqR S x with
        | some ds => match atI ds i with
          | some e => okD e S
          | none => .bad
        | none => .bad
      | _ => .bad
  | _ => .bad
@[simp] def slcO (x : Rv) (lo hi : Option Int) (S : Stv) : Out Rv :=
  match x with
  | .v (.str z) => if z.length ≤ sizeLine then okD (.str (cutS z lo hi)) S else .bad
  | .v (.tuple ds) => okD (.tuple (cutD ds lo hi)) S
  | x => match lstR S x with
    | some ds => .ok (.nw (.lst (cutD ds lo hi))) S
    | none => .bad
@[simp] def lenO (x : Rv) (S : Stv) : Out Rv :=
  match x with
  | .v (.str z) => if z.length ≤ sizeLine then okD (.int (z.length : Int)) S else .bad
  | .mu n => match S[n]? with
    | some (.lst ds) => okD (.int (ds.length : Int)) S
    | some (.lse es) => okD (.int (es.length : Int)) S
    | _ => .bad
  | x => match sqR S x with
    | some ds => okD (.int (ds.length : Int)) S
    | none => .bad
def intsD : List D → Option (List Int)
  | [] => some []
  | .int i :: ds => (intsD ds).map (i :: ·)
  | _ :: _ => none
def boolsD : List D → Option (List Bool)
  | [] => some []
  | .bool i :: ds => (boolsD ds).map (i :: ·)
  | _ :: _ => none
def strsD : List D → Option (List Str)
  | [] => some []
  | .str i :: ds => (strsD ds).map (i :: ·)
  | _ :: _ => none
def leI (x y : Int) : Bool := decide (x ≤ y)
def sortI (ns : List Int) : List Int := ns.mergeSort leI
theorem sortI_perm (ns : List Int) : (sortI ns).Perm ns := List.mergeSort_perm _ _
theorem sortI_le (ns : List Int) : (sortI ns).Pairwise (· ≤ ·) := (List.pairwise_mergeSort (le := leI) (fun a b c => by simp only [leI, decide_eq_true_eq]; omega) (fun a b => by simp only [leI, Bool.or_eq_true, decide_eq_true_eq]; omega) ns).imp fun h => by simpa [leI] using h
theorem sortI_eq {ns ms : List Int} (h : ms.Perm ns) (hp : ms.Pairwise (· ≤ ·)) : sortI ns = ms := List.Perm.eq_of_pairwise (le := (· ≤ ·)) (fun x y _ _ a b => by omega) (sortI_le ns) hp ((sortI_perm ns).trans h.symm)
def leP (x y : Int × Int) : Bool := decide (x.1 < y.1 ∨ (x.1 = y.1 ∧ x.2 ≤ y.2))
def sortPr (ps : List (Int × Int)) : List (Int × Int) := ps.mergeSort leP
theorem sortPr_perm (ps : List (Int × Int)) : (sortPr ps).Perm ps := List.mergeSort_perm _ _
theorem sortPr_le (ps : List (Int × Int)) : (sortPr ps).Pairwise lexP := (List.pairwise_mergeSort (le := leP) (fun a b c => by simp only [leP, decide_eq_true_eq]; omega) (fun a b => by simp only [leP, Bool.or_eq_true, decide_eq_true_eq]; omega) ps).imp fun h => by simpa [leP, lexP] using h
def prsD : List D → Option (List (Int × Int))
  | [] => some []
  | .tuple [.int i, .int j] :: ds => (prsD ds).map ((i, j) :: ·)
  | _ :: _ => none
def srtD (ds : List D) : Option (List D) := match intsD ds with
  | some ns => some ((sortI ns).map .int)
  | none => match prsD ds with
    | some ps => some ((sortPr ps).map encP)
    | none => none
def srtO (x : Rv) (S : Stv) : Out Rv := match x with
  | .mu n => match S[n]? with
    | some (.dct false kvs) => match intsD (kvs.map (·.1)) with
      | some ks => if ks.length < 64 then .ok (.nw (.lst ((sortI ks).map .int))) S else .bad
      | none => .bad
    | some (.lst ds) => match srtD ds with
      | some es => .ok (.nw (.lst es)) S
      | none => .bad
    | _ => .bad
  | x => match lstR S x with
    | some ds => match srtD ds with
      | some es => .ok (.nw (.lst es)) S
      | none => .bad
    | none => .bad
/-- data whose text is surely short enough -/
def reprOk (d : D) : Bool := d.layable0 && d.intsShort 13 && d.showable
@[simp] def biO (b : Bif) (xs : List Rv) (S : Stv) : Out Rv :=
  match b, xs with
  | .len, [x] => lenO x S
  | .sorted, [x] => srtO x S
  | .max, [.v (.int i), .v (.int j)] => okD (.int (Max.max i j)) S
  | .min, [.v (.int i), .v (.int j)] => okD (.int (Min.min i j)) S
  | .ord, [.v (.str z)] => if z.length = 1 then okD (.int (z.cps.getD 0 0 : Nat)) S else .bad
  | .int, [.v (.int i)] => okD (.int i) S
  | .int, [.v (.bool b)] => okD (.int (if b then 1 else 0)) S
  | .int, [.v (.str a)] => match PySem.intText? a with
    | some n => if a.length ≤ 640 then okD (.int n) S else .bad
    | none => .bad
  | .list, [x] => match sqR S x with
    | some ds => .ok (.nw (.lst ds)) S
    | none => .bad
  | .bool, [.v (.bool b)] => okD (.bool b) S
  | .bool, [.v (.int i)] => okD (.bool (i != 0)) S
  | .bool, [x] => match lstR S x with
    | some ds => okD (.bool (!ds.isEmpty)) S
    | none => .bad
  | .sum, [x] => match lstR S x with
    | some ds => match intsD ds with
      | some ns => okD (.int ns.sum) S
      | none => .bad
    | none => .bad
  | .any, [x] => match lstR S x with
    | some ds => match boolsD ds with
      | some bs => okD (.bool (bs.any id)) S
      | none => .bad
    | none => .bad
  | .all, [x] => match lstR S x with
    | some ds => match boolsD ds with
      | some bs => okD (.bool (bs.all id)) S
      | none => .bad
    | none => .bad
  | .tuple, [x] => match sqR S x with
    | some ds => okD (.tuple ds) S
    | none => .bad
  | .repr, [.v (.tuple ds)] => if reprOk (.tuple ds) = true then okD (.str (PyData.shown (.tuple ds))) S else .bad
  | .str, [.v (.int i)] => if i.natAbs.log2 < 1920 then okD (.str (toString i : String)) S else .bad
  | .str, [.v (.str y)] => okD (.str y) S
  | _, _ => .bad
/-- what a method's receiver must be -/
@[simp] def bmT (b : Bmt) (x : Rv) (S : Stv) : Bool := match b, x with
  | .join, .v (.str _) => true
  | .append, .mu n | .pop, .mu n | .extend, .mu n | .reverse, .mu n | .index, .mu n => match S[n]? with
    | some (.lst _) => true
    | some (.lse _) => true
    | _ => false
  | _, _ => false
/-- a text or a number, as a text -/
@[simp] def txtO (x : Rv) (S : Stv) : Out Str := match x with
  | .v (.str y) => if y.length ≤ sizeLine then .ok y S else .bad
  | .v (.int i) => if i.natAbs.log2 < 1920 then .ok (toString i : String) S else .bad
  | _ => .bad
@[simp] def isCS : Ex → Bool
  | .con (.str _) => true
  | _ => false
/-- what is summed over pairs of numbers -/
def spF : Nat → Int → Int → Int
  | 0 => fun a b => b - a
  | _ => fun _ _ => 0
@[simp] def sprO (k : Nat) (x : Rv) (S : Stv) : Out Rv := match x with
  | .v (.tuple ds) => match prsD ds with
    | some ps => okD (.int ((ps.map fun p => spF k p.1 p.2).sum)) S
    | none => .bad
  | _ => .bad
/-- a list backwards -/
@[simp] def rslO (x : Rv) (S : Stv) : Out Rv := match lstR S x with
  | some ds => .ok (.nw (.lst ds.reverse)) S
  | none => .bad
/-- where a flat item stands first -/
def findD (d : D) : List D → Option Nat
  | [] => none
  | z :: ds => if eqF z d = true then some 0 else (findD d ds).map (· + 1)
/-- a dict that is read by get -/
@[simp] def dctB (x : Rv) (S : Stv) : Bool := match x with
  | .mu n => match S[n]? with
    | some (.dct false _) => true
    | _ => false
  | _ => false
@[simp] def dgtO (y z r : Rv) (S : Stv) : Out Rv :=
  match y, z with
  | .mu n, .v d => match S[n]? with
    | some (.dct false kvs) => match dgetD false kvs d with
      | some (some e) => okD e S
      | some none => match r with
        | .v e => okD e S
        | _ => .bad
      | none => .bad
    | _ => .bad
  | _, _ => .bad
/-! methods of texts; constant dicts; {x:02x} -/
@[simp] def isTx : Rv → Bool
  | .v (.str _) => true
  | _ => false
def tmO (m : Tmt) (x : Rv) (ys : List Rv) (S : Stv) : Out Rv := match m, x, ys with
  | .upper, .v (.str a), [] => if a.length ≤ 5592405 then okD (.str (Txt.upper a)) S else .bad
  | .lower, .v (.str a), [] => if a.length ≤ 5592405 then okD (.str (Txt.lower a)) S else .bad
  | .isupper, .v (.str a), [] => okD (.bool (Txt.isupper a)) S
  | .find, .v (.str a), [.v (.str b)] => okD (.int (Txt.find a b)) S
  | .find, .v (.str a), [.v (.str b), .v (.int i)] => okD (.int (Txt.find3 a b i)) S
  | .split, .v (.str a), [.v (.str b)] => if (b.length == 0) = false ∧ a.length + 2 ≤ sizeLine then .ok (.nw (.lst ((Txt.split a b).map .str))) S else .bad
  | .splitM, .v (.str a), [.v (.str b), .v (.int k)] => if (b.length == 0) = false ∧ -9223372036854775808 ≤ k ∧ k < 9223372036854775808 ∧ a.length + 2 ≤ sizeLine then .ok (.nw (.lst ((Txt.splitMax a b k).map .str))) S else .bad
  | .part, .v (.str a), [.v (.str b)] => if (b.length == 0) = false ∧ a.length ≤ sizeLine then okD (.tuple [.str (Txt.partition a b).1, .str (Txt.partition a b).2.1, .str (Txt.partition a b).2.2]) S else .bad
  | .index, .v (.str a), [.v (.str b)] => match Builtin.Str.occurrences a b 0 a.length 1 with
    | i :: _ => okD (.int (i : Nat)) S
    | [] => .bad
  | _, _, _ => .bad
@[simp] def cdnO (neg : Bool) (kvs : List (Str × D)) (x : Rv) (S : Stv) : Out Rv := match x with
  | .v (.str z) => okD (.bool (if neg = true then !(kvs.lookup z).isSome else (kvs.lookup z).isSome)) S
  | _ => .bad
@[simp] def cdiO (kvs : List (Str × D)) (x : Rv) (S : Stv) : Out Rv := match x with
  | .v (.str z) => match kvs.lookup z with
    | some d => okD d S
    | none => .bad
  | _ => .bad
def hexC (n : Nat) : Nat := if n < 10 then 48 + n else 87 + n
def hexS (i : Int) : Str := ⟨#[hexC (i.toNat / 16), hexC (i.toNat % 16)]⟩
@[simp] def hx2O (x : Rv) (S : Stv) : Out Rv := match x with
  | .v (.int i) => if 0 ≤ i ∧ i < 256 then okD (.str (hexS i)) S else .bad
  | _ => .bad
/-! dicts with keys of any kind -/
def gfind (t : Bool) (kvs : List (D × D)) (k : D) : Option (Option D) := (gkD t k).map fun x => (kvs.find? fun p => decide (gkD t p.1 = some x)).map (·.2)
def gput (t : Bool) (kvs : List (D × D)) (k v : D) : Option (List (D × D)) := (gkD t k).map fun x => if kvs.any (fun p => decide (gkD t p.1 = some x)) = true then kvs.map (fun p => if gkD t p.1 = some x then (p.1, v) else p) else kvs ++ [(k, v)]
def gdel (t : Bool) (kvs : List (D × D)) (k : D) : Option (List (D × D)) := (gkD t k).bind fun x => if kvs.any (fun p => decide (gkD t p.1 = some x)) = true then some (kvs.filter fun p => decide (gkD t p.1 ≠ some x)) else none
@[simp] def xmB (m : Xmt) (x : Rv) (S : Stv) : Bool := match m with
  | .nget | .nget2 => match x with
    | .mu n => match S[n]? with
      | some (.dcn _ _) => true
      | _ => false
    | _ => false
  | _ => true
def xmO (m : Xmt) (x : Rv) (ys : List Rv) (S : Stv) : Out Rv := match m, x, ys with
  | .nin neg, .v k, [.mu n] => match S[n]? with
    | some (.dcn t kvs) => match gfind t kvs k with
      | some o => okD (.bool (if neg = true then !o.isSome else o.isSome)) S
      | none => .bad
    | _ => .bad
  | .nix, .mu n, [.v k] => match S[n]? with
    | some (.dcn t kvs) => match gfind t kvs k with
      | some (some e) => okD e S
      | _ => .bad
    | _ => .bad
  | .nget, .mu n, [.v k] => match S[n]? with
    | some (.dcn t kvs) => match gfind t kvs k with
      | some o => okD (o.getD .none) S
      | none => .bad
    | _ => .bad
  | .nget2, .mu n, [.v k, .v z] => match S[n]? with
    | some (.dcn t kvs) => match gfind t kvs k with
      | some o => okD (o.getD z) S
      | none => .bad
    | _ => .bad
  | .nkeys, .mu n, [] => match S[n]? with
    | some (.dcn true kvs) => .ok (.nw (.lst (kvs.map (·.1)))) S
    | _ => .bad
  | .nvals, .mu n, [] => match S[n]? with
    | some (.dcn t kvs) => .ok (.nw (.lst (kvs.map (·.2)))) S
    | _ => .bad
  | .nlen, .mu n, [] => match S[n]? with
    | some (.dcn t kvs) => okD (.int (kvs.length : Int)) S
    | _ => .bad
  | _, _, _ => .bad
def nputO (x : Rv) (e : En) (k : Rv) (S : Stv) : Option Stv := match x, e, k with
  | .mu n, .dt v, .v d => match S[n]? with
    | some (.dcn t kvs) => if kvs.length < big then (gput t kvs d v).map fun kvs' => S.set n (.dcn t kvs') else none
    | _ => none
  | _, _, _ => none
def ndelO (x k : Rv) (S : Stv) : Option Stv := match x, k with
  | .mu n, .v d => match S[n]? with
    | some (.dcn t kvs) => (gdel t kvs d).map fun kvs' => S.set n (.dcn t kvs')
    | _ => none
  | _, _ => none
/-- methods of lists, texts, dicts -/
@[simp] def bmO (b : Bmt) (x : Rv) (xs : List Rv) (S : Stv) : Out Rv :=
  match b, x, xs with
  | .append, .mu n, [.v d] => match S[n]? with
    | some (.lst ds) => if ds.length < big then .ok (.v .none) (S.set n (.lst (ds ++ [d]))) else .bad
    | some (.lse es) => if es.length < big then .ok (.v .none) (S.set n (.lse (es ++ [.dt d]))) else .bad
    | _ => .bad
  | .append, .mu n, [.nw (.lst es)] => match S[n]? with
    | some (.lst ds) => if ds.length < big then .ok (.v .none) (S.set n (.lst (ds ++ [.list es]))) else .bad
    | _ => .bad
  | .append, .mu n, [.mu m] => match S[n]? with
    | some (.lst []) => .ok (.v .none) (S.set n (.lse [.mu m]))
    | some (.lse es) => if es.length < big then .ok (.v .none) (S.set n (.lse (es ++ [.mu m]))) else .bad
    | _ => .bad
  | .pop, .mu n, [] => match S[n]? with
    | some (.lst ds) => match ds.getLast? with
      | some d => .ok (.v d) (S.set n (.lst ds.dropLast))
      | none => .bad
    | some (.lse es) => match es.getLast? with
      | some (.dt d) => .ok (.v d) (S.set n (.lse es.dropLast))
      | some (.mu m) => .ok (.mu m) (S.set n (.lse es.dropLast))
      | _ => .bad
    | _ => .bad
  | .extend, .mu n, [y] => match S[n]?, sqR S y with
    | some (.lst ds), some es => if ds.length + es.length ≤ big then .ok (.v .none) (S.set n (.lst (ds ++ es))) else .bad
    | _, _ => .bad
  | .reverse, .mu n, [] => match S[n]? with
    | some (.lst ds) => .ok (.v .none) (S.set n (.lst ds.reverse))
    | _ => .bad
  | .index, .mu n, [.v d] => match S[n]? with
    | some (.lst ds) => if flatD d = true ∧ ds.all flatD = true then match findD d ds with
      | some j => okD (.int (j : Nat)) S
      | none => .bad
      else .bad
    | _ => .bad
  | .join, .v (.str a), [y] => match sqR S y with
    | some ds => match strsD ds with
      | some ys => if (ys.map (·.length)).sum + ys.length * a.length ≤ 16777216 then okD (.str (Txt.join a ys)) S else .bad
      | none => .bad
    | none => .bad
  | _, _, _ => .bad
/-! ### slots -/
@[simp] def bindL : List Nat → List D → Rho → Rho
  | i :: is, d :: ds, ρ => bindL is ds (ρ.set i (.dt d))
  | _, _, ρ => ρ
@[simp] def bindE : Tgt → En → Rho → Option Rho
  | .nm i, e, ρ => some (ρ.set i e)
  | .tp is, .dt (.tuple ds), ρ => if ds.length = is.length then some (bindL is ds ρ) else none
  | _, _, _ => none
@[simp] def tgIn : Tgt → List Nat → Bool
  | .nm i, ws => decide (i ∈ ws)
  | .tp is, ws => is.all fun i => decide (i ∈ ws)
@[simp] def kill (ks : List Nat) (ρ : Rho) : Rho := ks.foldl (fun ρ i => ρ.set i .un) ρ
@[simp] def fitE (n : Nat) : En → Bool
  | .mu m => decide (m < n)
  | _ => true
@[simp] def fitC (n : Nat) : Cell → Bool
  | .lse es => es.all (fitE n)
  | .obj _ fs => fs.all fun p => fitE n p.2
  | _ => true
@[simp] def fitS (n : Nat) (S : Stv) : Bool := S.all (fitC n)
/-- cells behind the n-th that nothing knows -/
@[simp] def trim (n : Nat) (ρ : Rho) (S : Stv) : Stv := if S.length ≤ n then S else if ρ.all (fitE n) && fitS n (S.take n) then S.take n else S
/-! ### statements' outcomes -/
inductive Fl where
  | nx (ρ : Rho) (S : Stv)
  | rt (r : Rv) (S : Stv)
  | bk (ρ : Rho) (S : Stv)
  | ct (ρ : Rho) (S : Stv)
  | ex (c : Nat) (fs : List (Str × D)) (ρ : Rho) (S : Stv)
  | bad
def Fl.seq : Fl → (Rho → Stv → Fl) → Fl
  | .nx ρ S, f => f ρ S
  | x, _ => x
def Out.fl {α : Type} (ρ : Rho) : Out α → (α → Stv → Fl) → Fl
  | .ok a S, f => f a S
  | .ex c fs S, _ => .ex c fs ρ S
  | .bad, _ => .bad
@[simp] theorem Out.fl_ok {α : Type} (ρ : Rho) (a : α) (S : Stv) (f : α → Stv → Fl) : (Out.ok a S).fl ρ f = f a S := rfl
@[simp] theorem Out.fl_bad {α : Type} (ρ : Rho) (f : α → Stv → Fl) : (Out.bad : Out α).fl ρ f = .bad := rfl
@[simp] theorem Out.fl_ex {α : Type} (ρ : Rho) (c : Nat) (fs : List (Str × D)) (S : Stv) (f : α → Stv → Fl) : (Out.ex c fs S : Out α).fl ρ f = .ex c fs ρ S := rfl
/-- what is walked: the items; a cell that must stay -/
abbrev Items := List En × Option (Nat × Cell)
def chk : Option (Nat × Cell) → Stv → Prop
  | none, _ => True
  | some (n, c), S => S[n]? = some c
@[simp] def itemsO (x : Rv) (S : Stv) : Out Items :=
  match x with
  | .v (.list ds) => .ok (ds.map .dt, none) S
  | .v (.tuple ds) => .ok (ds.map .dt, none) S
  | .nw (.lst ds) => .ok (ds.map .dt, none) S
  | .v (.str z) => .ok (z.cps.toList.map fun c => .dt (.str ⟨#[c]⟩), none) S
  | .mu n => match S[n]? with
    | some (.lst ds) => .ok (ds.map .dt, some (n, .lst ds)) S
    | some (.lse es) => .ok (es, some (n, .lse es)) S
    | _ => .bad
  | _ => .bad
open Classical in
noncomputable def loopF (f : En → Rho → Stv → Fl) (ch : Option (Nat × Cell)) (ks : List Nat) (n0 : Nat) : List En → Rho → Stv → Fl
  | [], ρ, S => .nx ρ S
  | e :: es, ρ, S => match f e ρ S with
    | .nx ρ' S' => if chk ch (trim n0 (kill ks ρ') S') then loopF f ch ks n0 es (kill ks ρ') (trim n0 (kill ks ρ') S') else .bad
    | .ct ρ' S' => if chk ch (trim n0 (kill ks ρ') S') then loopF f ch ks n0 es (kill ks ρ') (trim n0 (kill ks ρ') S') else .bad
    | .bk ρ' S' => .nx ρ' S'
    | x => x
def whileN (t : Rho → Stv → Out Bool) (f : Rho → Stv → Fl) (ks : List Nat) (n0 : Nat) : Nat → Rho → Stv → Fl
  | 0, _, _ => .bad
  | n + 1, ρ, S => (t ρ S).fl ρ fun b S1 => if b = true then
      match f ρ S1 with
      | .nx ρ' S' => whileN t f ks n0 n (kill ks ρ') (trim n0 (kill ks ρ') S')
      | .ct ρ' S' => whileN t f ks n0 n (kill ks ρ') (trim n0 (kill ks ρ') S')
      | .bk ρ' S' => .nx ρ' S'
      | x => x
    else .nx ρ S1
open Classical in
noncomputable def whileF (t : Rho → Stv → Out Bool) (f : Rho → Stv → Fl) (ks : List Nat) (n0 : Nat) (ρ : Rho) (S : Stv) : Fl :=
  if h : ∃ n, whileN t f ks n0 n ρ S ≠ .bad then whileN t f ks n0 h.choose ρ S else .bad
open Classical in
noncomputable def lcF (t : Rho → Stv → Out Bool) (f : Rho → Stv → Out Rv) (b : En → Rho → Option Rho) (ch : Option (Nat × Cell)) (n0 : Nat) (ρ : Rho) : List En → List D → Stv → Out (List D)
  | [], acc, S => .ok acc S
  | e :: es, acc, S => match b e ρ with
    | none => .bad
    | some ρ1 => match t ρ1 S with
      | .ok k S1 => if k = true then match f ρ1 S1 with
        | .ok r S2 => match rvD r with
          | some d => if chk ch (trim n0 ρ S2) ∧ acc.length < big then lcF t f b ch n0 ρ es (acc ++ [d]) (trim n0 ρ S2) else .bad
          | none => .bad
        | _ => .bad
        else if chk ch (trim n0 ρ S1) then lcF t f b ch n0 ρ es acc (trim n0 ρ S1) else .bad
      | _ => .bad
def enumD (k : Nat) : List D → List D
  | [] => []
  | d :: ds => .tuple [.int k, d] :: enumD (k + 1) ds
@[simp] def enuO (x : Rv) (S : Stv) : Out Items :=
  match x with
  | .v (.list ds) => .ok ((enumD 0 ds).map .dt, none) S
  | .v (.tuple ds) => .ok ((enumD 0 ds).map .dt, none) S
  | .nw (.lst ds) => .ok ((enumD 0 ds).map .dt, none) S
  | .mu n => match S[n]? with
    | some (.lst ds) => .ok ((enumD 0 ds).map .dt, some (n, .lst ds)) S
    | _ => .bad
  | _ => .bad
@[simp] def revO (x : Rv) (S : Stv) : Out Items :=
  match x with
  | .v (.list ds) => .ok (ds.reverse.map .dt, none) S
  | .v (.tuple ds) => .ok (ds.reverse.map .dt, none) S
  | .nw (.lst ds) => .ok (ds.reverse.map .dt, none) S
  | .mu n => match S[n]? with
    | some (.lst ds) => .ok (ds.reverse.map .dt, some (n, .lst ds)) S
    | _ => .bad
  | _ => .bad
@[simp] def itsO (x : Rv) (S : Stv) : Out Rv :=
  match x with
  | .mu n => match S[n]? with
    | some (.dct false kvs) => .ok (.nw (.lst (kvs.map fun p => .tuple [p.1, p.2]))) S
    | _ => .bad
  | _ => .bad
@[simp] def strO (x : Rv) (S : Stv) : Option (List En) := match x with
  | .mu n => match S[n]? with
    | some (.lst ds) => some (ds.map .dt)
    | some (.dct false kvs) => some (kvs.map fun p => .dt p.1)
    | _ => none
  | x => (sqR S x).map fun ds => ds.map .dt
def intO : Rv → Option Int
  | .v (.int i) => some i
  | _ => none

/-! ### calls -/
abbrev CB1 := Nat → List En → Stv → Out Rv
/-- a def's call; a new instance's __init__ (true) -/
abbrev CB := Bool → CB1
@[simp] def refE : En → List Nat
  | .mu n => [n]
  | _ => []
@[simp] def refC : Cell → List Nat
  | .lse es => es.flatMap refE
  | .obj _ fs => fs.flatMap fun p => refE p.2
  | _ => []
@[simp] def reach : Nat → Stv → List Nat → List Nat → List Nat
  | 0, _, done, _ => done
  | _ + 1, _, done, [] => done
  | f + 1, S, done, k :: todo => if k ∈ done then reach f S done todo else match S[k]? with
    | some c => reach f S (done ++ [k]) (todo ++ refC c)
    | none => reach f S (done ++ [k]) todo
@[simp] def mapE (f : Nat → Nat) : En → En
  | .mu n => .mu (f n)
  | e => e
@[simp] def mapC (f : Nat → Nat) : Cell → Cell
  | .lse es => .lse (es.map (mapE f))
  | .obj c fs => .obj c (fs.map fun p => (p.1, mapE f p.2))
  | c => c
@[simp] def mapR (f : Nat → Nat) : Rv → Rv
  | .mu n => .mu (f n)
  | .nw c => .nw (mapC f c)
  | r => r
@[simp] def inK (ks : List Nat) (e : En) : Bool := (refE e).all fun k => decide (k ∈ ks)
@[simp] def nodupB : List Nat → Bool
  | [] => true
  | k :: ks => !decide (k ∈ ks) && nodupB ks
/-- the cells that a call sees, by their numbers; each knows only such -/
@[simp] def subOk (S : Stv) (ks : List Nat) : Bool := nodupB ks && ks.all fun k => match S[k]? with
  | some c => (refC c).all fun j => decide (j ∈ ks)
  | none => false
@[simp] def subS (S : Stv) (ks : List Nat) : Stv := ks.map fun k => mapC (fun j => ks.idxOf j) (S.getD k .gone)
@[simp] def unK (ks : List Nat) (m j : Nat) : Nat := if j < ks.length then ks.getD j 0 else m + (j - ks.length)
@[simp] def mergeC (ks : List Nat) (m : Nat) (S' : Stv) : Nat → Stv → Stv
  | _, [] => []
  | i, c :: cs => (if i ∈ ks then mapC (unK ks m) (S'.getD (ks.idxOf i) .gone) else c) :: mergeC ks m S' (i + 1) cs
@[simp] def merge (S : Stv) (ks : List Nat) (S' : Stv) : Stv := mergeC ks S.length S' 0 S ++ (S'.drop ks.length).map (mapC (unK ks S.length))
@[simp] def callK (cb : CB1) (f : Nat) (ens : List En) (S : Stv) (ks : List Nat) : Out Rv :=
  if subOk S ks = true ∧ ens.all (inK ks) = true then
    match cb f (ens.map (mapE fun j => ks.idxOf j)) (subS S ks) with
    | .ok r S' => if ks.length ≤ S'.length then .ok (mapR (unK ks S.length) r) (merge S ks S') else .bad
    | .ex c fs S' => if ks.length ≤ S'.length then .ex c fs (merge S ks S') else .bad
    | .bad => .bad
  else .bad
@[simp] def callC (cb : CB1) (f : Nat) (ens : List En) (S : Stv) : Out Rv := callK cb f ens S (reach 100 S [] (ens.flatMap refE))
@[simp] def isC : D → Bool
  | .int _ => true
  | .bool _ => true
  | .str _ => true
  | .none => true
  | _ => false
@[simp] def bmA : Bmt → Exs → Bool
  | .pop, .nil => true
  | .reverse, .nil => true
  | .append, .cons _ .nil => true
  | .extend, .cons _ .nil => true
  | .join, .cons _ .nil => true
  | .index, .cons _ .nil => true
  | _, _ => false
noncomputable section
mutual
def evE (cb : CB) (ρ : Rho) : Stv → Ex → Out Rv
  | S, .var i => match ρ[i]? with
    | some (.dt d) => .ok (.v d) S
    | some (.mu n) => .ok (.mu n) S
    | _ => .bad
  | S, .con d => if isC d = true then okD d S else .bad
  | S, .glb _ d => okD d S
  | S, .bin o a b => (evE cb ρ S a).bind fun x S1 => (evE cb ρ S1 b).bind fun y S2 => binR o x y S2
  | S, .neg a => (evE cb ρ S a).bind fun x S1 => match x with
    | .v (.int i) => okD (.int (-i)) S1
    | _ => .bad
  | S, .not a => (evE cb ρ S a).bind fun x S1 => (truO x S1).bind fun b S2 => okD (.bool (!b)) S2
  | S, .and a b => (evE cb ρ S a).bind fun x S1 => (truO x S1).bind fun k S2 => if k = true then evE cb ρ S2 b else .ok x S2
  | S, .or a b => (evE cb ρ S a).bind fun x S1 => (truO x S1).bind fun k S2 => if k = true then .ok x S2 else evE cb ρ S2 b
  | S, .ife c a b => (evT cb ρ S c).bind fun k S1 => if k = true then evE cb ρ S1 a else evE cb ρ S1 b
  | S, .cmp o a b => (evE cb ρ S a).bind fun x S1 => (evE cb ρ S1 b).bind fun y S2 => (cmpO o x y S2).bind fun k S3 => okD (.bool k) S3
  | S, .chn o o' a b c => (evE cb ρ S a).bind fun x S1 => (evE cb ρ S1 b).bind fun y S2 => (cmpO o x y S2).bind fun k S3 => if k = true then (evE cb ρ S3 c).bind fun z S4 => (cmpO o' y z S4).bind fun k' S5 => okD (.bool k') S5 else okD (.bool false) S3
  | S, .tup es => (evA cb ρ S es).bind fun ds S1 => if ds.length ≤ big then match enDs ds with
    | some ds => okD (.tuple ds) S1
    | none => .bad
    else .bad
  | S, .lst es => (evA cb ρ S es).bind fun ds S1 => if ds.length ≤ big then match enDs ds with
    | some ds => .ok (.nw (.lst ds)) S1
    | none => .ok (.nw (.lse ds)) S1
    else .bad
  | S, .dnw t => .ok (.nw (.dct t [])) S
  | S, .idx a i => (evE cb ρ S a).bind fun x S1 => (evE cb ρ S1 i).bind fun y S2 => idxO x y S2
  | S, .slc a lo hi => (evE cb ρ S a).bind fun x S1 => (evO cb ρ S1 lo).bind fun l S2 => (evO cb ρ S2 hi).bind fun h S3 => slcO x l h S3
  | S, .call f es => (evA cb ρ S es).bind fun ens S1 => callC (cb false) f ens S1
  | S, .mth c f m o es => (evE cb ρ S o).bind fun x S1 => match x with
    | .mu n => match S1[n]? with
      | some (.obj c' fs) => if c' = c ∧ fs.lookup m = none then (evA cb ρ S1 es).bind fun ens S2 => callC (cb false) f (.mu n :: ens) S2 else .bad
      | _ => .bad
    | _ => .bad
  | S, .mak c f es => (evA cb ρ S es).bind fun ens S1 => (callC (cb true) f (.mu S1.length :: ens) (S1 ++ [.obj c []])).bind fun r S2 => match r with
    | .v .none => .ok (.mu S1.length) S2
    | _ => .bad
  | S, .fld m o => (evE cb ρ S o).bind fun x S1 => match x with
    | .mu n => match S1[n]? with
      | some (.obj _ fs) => match fs.lookup m with
        | some (.dt d) => okD d S1
        | some (.mu k) => .ok (.mu k) S1
        | _ => .bad
      | _ => .bad
    | _ => .bad
  | S, .isi T a => (evE cb ρ S a).bind fun x S1 => match x with
    | .v d => match kitB (tyD d) T with
      | some b => okD (.bool b) S1
      | none => .bad
    | .nw (.lst _) => match kitB "list" T with
      | some b => okD (.bool b) S1
      | none => .bad
    | .mu n => match S1[n]? with
      | some (.lst _) => match kitB "list" T with
        | some b => okD (.bool b) S1
        | none => .bad
      | _ => .bad
    | _ => .bad
  | S, .bi b es => (evR cb ρ S es).bind fun xs S1 => biO b xs S1
  | S, .bm b o es => (evE cb ρ S o).bind fun x S1 => if (bmT b x S1 && bmA b es) = true then (evR cb ρ S1 es).bind fun xs S2 => bmO b x xs S2 else .bad
  | S, .lc ws g it c e => (evI cb ρ S it).bind fun is S1 => if is.1.length ≤ big ∧ tgIn g ws = true then (lcF (fun ρ S => evC cb ρ S c) (fun ρ S => evE cb ρ S e) (bindE g) is.2 S1.length (wipeR ρ ws) is.1 [] S1).bind fun ds S2 => .ok (.nw (.lst ds)) S2 else .bad
  | S, .lrg a b t => (evO cb ρ S a).bind fun x S1 => (evE cb ρ S1 b).bind fun y S2 => match x.getD 0, y with
    | i, .v (.int j) => if -1000000 ≤ i ∧ i ≤ 1000000 ∧ -1000000 ≤ j ∧ j ≤ 1000000 then (if t = true then okD (.tuple (rngD i (j - i).toNat)) S2 else .ok (.nw (.lst (rngD i (j - i).toNat))) S2) else .bad
    | _, _ => .bad
  | S, .own e => (evE cb ρ S e).bind fun x S1 => match x with
    | .nw .gone => .bad
    | .nw c => .ok (.mu S1.length) (S1 ++ [c])
    | _ => .bad
  | _, .bad => .bad
  | S, .its e => (evE cb ρ S e).bind fun x S1 => itsO x S1
  | S, .rsl a => (evE cb ρ S a).bind fun x S1 => rslO x S1
  | S, .spr k a => (evE cb ρ S a).bind fun x S1 => sprO k x S1
  | S, .fst es => (evJ cb ρ Str.empty S es).bind fun y S1 => okD (.str y) S1
  | S, .ddc kvs => if 0 < kvs.length ∧ kvs.length ≤ 15 ∧ (kvs.map (·.1)).Nodup then .ok (.nw (.dct false (kvs.map fun p => (.str p.1, .str p.2)))) S else .bad
  | S, .ndw t => .ok (.nw (.dcn t [])) S
  | S, .xm m e es => (evE cb ρ S e).bind fun x S1 => if xmB m x S1 = true then (evR cb ρ S1 es).bind fun ys S2 => xmO m x ys S2 else .bad
  | S, .dgt o k x => (evE cb ρ S o).bind fun y S1 => if dctB y S1 = true then (evE cb ρ S1 k).bind fun z S2 => (evE cb ρ S2 x).bind fun r S3 => dgtO y z r S3 else .bad
  | S, .tm m o es => (evE cb ρ S o).bind fun x S1 => if isTx x = true then (evR cb ρ S1 es).bind fun ys S2 => tmO m x ys S2 else .bad
  | S, .cdn neg _ kvs e => (evE cb ρ S e).bind fun x S1 => cdnO neg kvs x S1
  | S, .cdi _ kvs e => (evE cb ρ S e).bind fun x S1 => cdiO kvs x S1
  | S, .ddg kvs => if 0 < kvs.length ∧ kvs.length ≤ 15 ∧ (kvs.map (·.1)).Nodup ∧ (kvs.all fun p => p.2.1.isSome || isC p.2.2) = true then .ok (.nw (.dct false (kvs.map fun p => (.str p.1, p.2.2)))) S else .bad
  | S, .dg1 o k => (evE cb ρ S o).bind fun y S1 => if dctB y S1 = true then (evE cb ρ S1 k).bind fun z S2 => dgtO y z (.v .none) S2 else .bad
  | S, .hx2 e => (evE cb ρ S e).bind fun x S1 => hx2O x S1
def evT (cb : CB) (ρ : Rho) : Stv → Tx → Out Bool
  | S, .val e => (evE cb ρ S e).bind fun x S1 => truO x S1
  | S, .not a => (evT cb ρ S a).bind fun b S1 => .ok (!b) S1
  | S, .and a b => (evT cb ρ S a).bind fun k S1 => if k = true then evT cb ρ S1 b else .ok false S1
  | S, .or a b => (evT cb ρ S a).bind fun k S1 => if k = true then .ok true S1 else evT cb ρ S1 b
  | S, .cmp o a b => (evE cb ρ S a).bind fun x S1 => (evE cb ρ S1 b).bind fun y S2 => cmpO o x y S2
  | S, .chn o o' a b c => (evE cb ρ S a).bind fun x S1 => (evE cb ρ S1 b).bind fun y S2 => (cmpO o x y S2).bind fun k S3 => if k = true then (evE cb ρ S3 c).bind fun z S4 => cmpO o' y z S4 else .ok false S3
def evA (cb : CB) (ρ : Rho) : Stv → Exs → Out (List En)
  | S, .nil => .ok [] S
  | S, .cons e es => (evE cb ρ S e).bind fun x S1 => (evA cb ρ (rvE x S1).2 es).bind fun xs S2 => .ok ((rvE x S1).1 :: xs) S2
  | S, .star e es => (evE cb ρ S e).bind fun x S1 => match strO x S1 with
    | some ys => (evA cb ρ S1 es).bind fun xs S2 => .ok (ys ++ xs) S2
    | none => .bad
def evR (cb : CB) (ρ : Rho) : Stv → Exs → Out (List Rv)
  | S, .nil => .ok [] S
  | S, .cons e es => (evE cb ρ S e).bind fun x S1 => (evR cb ρ S1 es).bind fun xs S2 => .ok (x :: xs) S2
  | _, .star _ _ => .bad
def evJ (cb : CB) (ρ : Rho) (acc : Str) : Stv → Exs → Out Str
  | S, .nil => .ok acc S
  | S, .cons e es => (evE cb ρ S e).bind fun x S1 => (txtO x S1).bind fun y S2 => if (acc ++ y).length ≤ sizeLine then evJ cb ρ (acc ++ y) S2 es else .bad
  | _, .star _ _ => .bad
def evO (cb : CB) (ρ : Rho) : Stv → Exo → Out (Option Int)
  | S, .none => .ok none S
  | S, .some e => (evE cb ρ S e).bind fun x S1 => match x with
    | .v (.int i) => .ok (some i) S1
    | _ => .bad
def evC (cb : CB) (ρ : Rho) : Stv → Txo → Out Bool
  | S, .none => .ok true S
  | S, .some e => evT cb ρ S e
def evI (cb : CB) (ρ : Rho) : Stv → Itr → Out Items
  | S, .sq e => (evE cb ρ S e).bind fun x S1 => itemsO x S1
  | S, .rg1 a => (evE cb ρ S a).bind fun x S1 => match x with
    | .v (.int i) => if -1000000000 ≤ i ∧ i ≤ 1000000000 then .ok ((rngD 0 i.toNat).map .dt, none) S1 else .bad
    | _ => .bad
  | S, .rrg a => (evE cb ρ S a).bind fun x S1 => match x with
    | .v (.int i) => if -1000000000 ≤ i ∧ i ≤ 1000000000 then .ok ((rngD 0 i.toNat).reverse.map .dt, none) S1 else .bad
    | _ => .bad
  | S, .rg2 a b => (evE cb ρ S a).bind fun x S1 => (evE cb ρ S1 b).bind fun y S2 => match x, y with
    | .v (.int i), .v (.int j) => if -1000000000 ≤ i ∧ i ≤ 1000000000 ∧ -1000000000 ≤ j ∧ j ≤ 1000000000 then .ok ((rngD i (j - i).toNat).map .dt, none) S2 else .bad
    | _, _ => .bad
  | S, .enu e => (evE cb ρ S e).bind fun x S1 => enuO x S1
  | S, .rev e => (evE cb ρ S e).bind fun x S1 => revO x S1
end

/-! ## statements -/
def putD (t : Bool) (kvs : List (D × D)) (k v : D) : Option (List (D × D)) :=
  match t with
  | false => (keyK k).map fun x => if kvs.any (fun p => decide (keyK p.1 = some x)) = true then kvs.map (fun p => if keyK p.1 = some x then (p.1, v) else p) else kvs ++ [(k, v)]
  | true => (keyT k).map fun x => if kvs.any (fun p => decide (keyT p.1 = some x)) = true then kvs.map (fun p => if keyT p.1 = some x then (p.1, v) else p) else kvs ++ [(k, v)]
@[simp] def putFE (m : Str) (e : En) : List (Str × En) → List (Str × En)
  | [] => [(m, e)]
  | p :: ps => if p.1 = m then (p.1, e) :: ps else p :: putFE m e ps
@[simp] def setiO (n : Nat) (d : D) (e : En) (S : Stv) : Option Stv :=
  match S[n]? with
  | some (.lst ds) => match d, e with
    | .int i, .dt v => (ixN ds.length i).map fun j => S.set n (.lst (ds.set j v))
    | _, _ => none
  | some (.lse es) => match d with
    | .int i => (ixN es.length i).map fun j => S.set n (.lse (es.set j e))
    | _ => none
  | some (.dct false kvs) => match e with
    | .dt v => if kvs.length < big then (putD false kvs d v).map fun kvs' => S.set n (.dct false kvs') else none
    | _ => none
  | _ => none
@[simp] def augI (o : Bop) (i j : Int) : Option Int := match o with
  | .add => some (i + j)
  | .sub => some (i - j)
  | _ => none
/-- what an except clause with a name makes of an outcome -/
@[simp] def triF (i m : Nat) (cs : List (Nat × List Bool)) : Fl → Fl
  | .ex c fs ρ S => match fs, ρ[i]?, cs.lookup c with
    | [], some _, some bs => if m ≤ ρ.length then .rt (.nw (.lst (bs.map .bool))) S else .bad
    | _, _, _ => .bad
  | x => x
@[simp] def trbF (i m : Nat) (cs : List (Nat × Bool)) : Fl → Fl
  | .ex c fs ρ S => match fs, ρ[i]?, cs.lookup c with
    | [], some _, some b => if m ≤ ρ.length then .rt (.v (.bool b)) S else .bad
    | _, _, _ => .bad
  | x => x
/-- what an own error may hold -/
@[simp] def smallD : D → Bool
  | .int i => decide (i.natAbs < 1099511627776)
  | .str y => decide (y.length ≤ 1000)
  | _ => false
/-- an own error with fields, whose class has its own __init__ -/
@[simp] def rafO (f : List En → Stv → Out Rv) (c : Nat) (fs : List Str) (ρ : Rho) (ks : List En) (S : Stv) : Fl := match enDs ks with
  | some ds => if ds.length = fs.length ∧ fs.length ≤ 900 ∧ ds.all smallD = true then match f (.un :: ks) [] with
    | .ok _ _ => match (fs.zip ds).reverse with
      | p :: ps => .ex c (p :: ps) ρ S
      | [] => .bad
    | _ => .bad
    else .bad
  | none => .bad
mutual
@[simp] def sxV (fs : List (Str × D)) : Sx → Option D
  | .d v => if isC v = true then some v else none
  | .f m => fs.lookup m
  | .tp xs => (sxVs fs xs).bind fun ds => if ds.length ≤ 100 then some (.tuple ds) else none
  | .ls _ => none
@[simp] def sxVs (fs : List (Str × D)) : Sxs → Option (List D)
  | .nil => some []
  | .cons x xs => (sxV fs x).bind fun v => (sxVs fs xs).map (v :: ·)
end
@[simp] def sxR (fs : List (Str × D)) : Sx → Option Rv
  | .ls xs => (sxVs fs xs).bind fun ds => if ds.length ≤ 100 then some (.nw (.lst ds)) else none
  | x => (sxV fs x).map .v
mutual
/-- fields are read by the error's name alone -/
@[simp] def sxF (i : Option Nat) : Sx → Bool
  | .d _ => true
  | .f _ => i.isSome
  | .tp xs => sxFs i xs
  | .ls xs => sxFs i xs
@[simp] def sxFs (i : Option Nat) : Sxs → Bool
  | .nil => true
  | .cons x xs => sxF i x && sxFs i xs
end
/-- the fields that a suite tests for their types -/
@[simp] def tyF : Bool → Option D → Bool
  | true, some (.str _) => true
  | false, some (.int _) => true
  | _, _ => false
@[simp] def trxF (i : Option Nat) (m : Nat) (cs : List (Nat × List (Str × Bool) × Sx)) : Fl → Fl
  | .ex c fs ρ S => match cs.lookup c with
    | some (ty, sx) => match sxR fs sx with
      | some r => if sxF i sx = true ∧ m ≤ ρ.length ∧ (i.all fun j => decide (j < ρ.length)) = true ∧ (ty.all fun q => tyF q.2 (fs.lookup q.1)) = true then .rt r S else .bad
      | none => .bad
    | none => .bad
  | x => x
noncomputable def exec (cb : CB) : St → Rho → Stv → Fl
  | .raf c fs g es, ρ, S => (evA cb ρ S es).fl ρ fun ks S1 => rafO (cb true g) c fs ρ ks S1
  | .trx i m b _ cs, ρ, S => trxF i m cs (exec cb b ρ S)
  | .nop, ρ, S => .nx ρ S
  | .bad, _, _ => .bad
  | .rai c m, ρ, S => (evE cb ρ S m).fl ρ fun _ S1 => .ex c [] ρ S1
  | .tri i m b _ cs, ρ, S => triF i m cs (exec cb b ρ S)
  | .trb i m b _ cs, ρ, S => trbF i m cs (exec cb b ρ S)
  | .seq a b, ρ, S => (exec cb a ρ S).seq fun ρ1 S1 => exec cb b ρ1 S1
  | .asg g e, ρ, S => (evE cb ρ S e).fl ρ fun x S1 => match bindE g (rvE x S1).1 ρ with
    | some ρ1 => .nx ρ1 (rvE x S1).2
    | none => .bad
  | .aug i o e, ρ, S => match ρ[i]? with
    | some (.dt (.int x)) => (evE cb ρ S e).fl ρ fun y S1 => match y with
      | .v (.int j) => match augI o x j with
        | some z => .nx (ρ.set i (.dt (.int z))) S1
        | none => .bad
      | _ => .bad
    | _ => .bad
  | .ite c a b, ρ, S => (evT cb ρ S c).fl ρ fun k S1 => if k = true then exec cb a ρ S1 else exec cb b ρ S1
  | .for_ g it b ks, ρ, S => (evI cb ρ S it).fl ρ fun is S1 => loopF (fun e ρ S => match bindE g e ρ with
    | some ρ1 => exec cb b ρ1 S
    | none => .bad) is.2 ks S1.length is.1 ρ S1
  | .whl c b ks, ρ, S => whileF (fun ρ S => evT cb ρ S c) (fun ρ S => exec cb b ρ S) ks S.length ρ S
  | .ret e, ρ, S => (evE cb ρ S e).fl ρ fun r S1 => .rt r S1
  | .retn, _, S => .rt (.v .none) S
  | .brk, ρ, S => .bk ρ S
  | .cnt, ρ, S => .ct ρ S
  | .exp e, ρ, S => (evE cb ρ S e).fl ρ fun _ S1 => .nx ρ S1
  | .seti o i e, ρ, S => (evE cb ρ S e).fl ρ fun x S1 => (evE cb ρ (rvE x S1).2 o).fl ρ fun y S2 => (evE cb ρ S2 i).fl ρ fun z S3 => match y, z with
    | .mu n, .v d => match setiO n d (rvE x S1).1 S3 with
      | some S4 => .nx ρ S4
      | none => .bad
    | _, _ => .bad
  | .sett o es e, ρ, S => (evE cb ρ S e).fl ρ fun x S1 => (evE cb ρ (rvE x S1).2 o).fl ρ fun y S2 => (evA cb ρ S2 es).fl ρ fun ks S3 => match y with
    | .mu n => match (rvE x S1).1 with
      | .dt v => match enDs ks with
        | some ds => match S3[n]? with
          | some (.dct true kvs) => if kvs.length < big ∧ ds.length ≤ big then match putD true kvs (.tuple ds) v with
            | some kvs' => .nx ρ (S3.set n (.dct true kvs'))
            | none => .bad
            else .bad
          | _ => .bad
        | none => .bad
      | _ => .bad
    | _ => .bad
  | .setf m o e, ρ, S => (evE cb ρ S e).fl ρ fun x S1 => (evE cb ρ (rvE x S1).2 o).fl ρ fun y S2 => match y with
    | .mu n => match S2[n]? with
      | some (.obj c fs) => if fs.length < 1000 then .nx ρ (S2.set n (.obj c (putFE m (rvE x S1).1 fs))) else .bad
      | _ => .bad
    | _ => .bad
  | .tpf i m o e, ρ, S => (evE cb ρ S e).fl ρ fun x S1 => match x with
    | .v (.tuple [a, b]) => (evE cb (ρ.set i (.dt a)) S1 o).fl (ρ.set i (.dt a)) fun y S2 => match y with
      | .mu n => match S2[n]? with
        | some (.obj c fs) => if fs.length < 1000 then .nx (ρ.set i (.dt a)) (S2.set n (.obj c (putFE m (.dt b) fs))) else .bad
        | _ => .bad
      | _ => .bad
    | _ => .bad
  | .nput o i e, ρ, S => (evE cb ρ S e).fl ρ fun x S1 => (evE cb ρ (rvE x S1).2 o).fl ρ fun y S2 => (evE cb ρ S2 i).fl ρ fun z S3 => match nputO y (rvE x S1).1 z S3 with
    | some S4 => .nx ρ S4
    | none => .bad
  | .ndel o i, ρ, S => (evE cb ρ S o).fl ρ fun y S2 => (evE cb ρ S2 i).fl ρ fun z S3 => match ndelO y z S3 with
    | some S4 => .nx ρ S4
    | none => .bad
  | .augf m o b e, ρ, S => (evE cb ρ S o).fl ρ fun y S1 => match y with
    | .mu n => match S1[n]? with
      | some (.obj c fs) => match fs.lookup m with
        | some (.dt (.int x)) => (evE cb ρ S1 e).fl ρ fun z S2 => match z with
          | .v (.int j) => match augI b x j, S2[n]? with
            | some w, some (.obj c' fs') => if fs'.length < 1000 ∧ c' = c then .nx ρ (S2.set n (.obj c (putFE m (.dt (.int w)) fs'))) else .bad
            | _, _ => .bad
          | _ => .bad
        | _ => .bad
      | _ => .bad
    | _ => .bad

/-! ## defs -/
structure Fd where
  args : Nat
  more : Nat
  body : St
/-- what a call leaves -/
@[simp] def drop0 (n0 : Nat) (r : Rv) (S : Stv) : Out Rv :=
  match r with
  | .v d => .ok (.v d) (trim n0 [] S)
  | .nw c => if fitC n0 c = true then .ok (.nw c) (trim n0 [] S) else .ok (.nw c) S
  | .mu n => if n < n0 then .ok (.mu n) (trim n0 [] S) else match S[n]? with
    | some .gone => .bad
    | some c => if fitC n0 c = true ∧ fitS n0 (S.take n0) = true then .ok (.nw c) (S.take n0) else .ok (.mu n) S
    | none => .bad
@[simp] def finF (n0 : Nat) : Fl → Out Rv
  | .nx _ S => drop0 n0 (.v .none) S
  | .rt r S => drop0 n0 r S
  | .ex c fs _ S => .ex c fs (trim n0 [] S)
  | _ => .bad
@[simp] noncomputable def runF (cb : CB) (fd : Fd) (es : List En) (S : Stv) : Out Rv :=
  if es.length = fd.args then finF S.length (exec cb fd.body (es ++ List.replicate fd.more .un) S) else .bad
noncomputable def run (tb : Nat → Fd) : Nat → CB1
  | 0 => fun _ _ _ => .bad
  | 1 => fun f es S => runF (fun _ _ _ _ => .bad) (tb f) es S
  | n + 2 => fun f es S => runF (fun b => match b with
    | true => run tb n
    | false => run tb (n + 1)) (tb f) es S
noncomputable def runm (tb : Nat → Fd) : Nat → CB1
  | 0 => fun _ _ _ => .bad
  | n + 1 => run tb n
noncomputable def cbOf (tb : Nat → Fd) (n : Nat) : CB := fun b => match b with
  | true => runm tb n
  | false => run tb n
theorem run_succ (tb : Nat → Fd) (n : Nat) (f : Nat) (es : List En) (S : Stv) : run tb (n + 1) f es S = runF (cbOf tb n) (tb f) es S := by
  cases n with
  | zero =>
    have e : cbOf tb 0 = fun _ _ _ _ => .bad := by
      funext b
      cases b <;> rfl
    rw [e]
    rfl
  | succ n =>
    have e : cbOf tb (n + 1) = fun b => match b with
      | true => run tb n
      | false => run tb (n + 1) := by
      funext b
      cases b <;> rfl
    rw [e]
    rfl
@[simp] theorem cbOf_call (tb : Nat → Fd) (n : Nat) : cbOf tb n false = run tb n := rfl
@[simp] theorem cbOf_make (tb : Nat → Fd) (n : Nat) : cbOf tb (n + 1) true = run tb n := rfl
theorem seq_nx {cb : CB} {a b : St} {ρ ρ1 : Rho} {S S1 : Stv} {out : Fl} (h : exec cb a ρ S = .nx ρ1 S1) (h2 : exec cb b ρ1 S1 = out) : exec cb (.seq a b) ρ S = out := by
  simp only [exec, h, Fl.seq, h2]
theorem seq_rt {cb : CB} {a b : St} {ρ : Rho} {S S1 : Stv} {r : Rv} (h : exec cb a ρ S = .rt r S1) : exec cb (.seq a b) ρ S = .rt r S1 := by
  simp only [exec, h, Fl.seq]
theorem run_of {cb : CB} {fd : Fd} {es : List En} {S : Stv} {fl : Fl} {out : Out Rv} (h : es.length = fd.args) (hx : exec cb fd.body (es ++ List.replicate fd.more .un) S = fl) (hf : finF S.length fl = out) : runF cb fd es S = out := by
  simp only [runF, h, if_true, hx, hf]
theorem Out.bind_congr {α β : Type} {o o' : Out α} (h : o = o') (f : α → Stv → Out β) : o.bind f = o'.bind f := by rw [h]
theorem Out.fl_congr {α : Type} {ρ ρ' : Rho} {o o' : Out α} (h0 : ρ = ρ') (h : o = o') (f : α → Stv → Fl) : o.fl ρ f = o'.fl ρ' f := by rw [h, h0]
@[simp] theorem Fl.seq_nx (ρ : Rho) (S : Stv) (f : Rho → Stv → Fl) : (Fl.nx ρ S).seq f = f ρ S := rfl
@[simp] theorem Fl.seq_rt (r : Rv) (S : Stv) (f : Rho → Stv → Fl) : (Fl.rt r S).seq f = .rt r S := rfl
@[simp] theorem Fl.seq_bk (ρ : Rho) (S : Stv) (f : Rho → Stv → Fl) : (Fl.bk ρ S).seq f = .bk ρ S := rfl
@[simp] theorem Fl.seq_ct (ρ : Rho) (S : Stv) (f : Rho → Stv → Fl) : (Fl.ct ρ S).seq f = .ct ρ S := rfl
theorem Fl.seq_congr {o o' : Fl} (h : o = o') (f : Rho → Stv → Fl) : o.seq f = o'.seq f := by rw [h]
theorem loopF_congr {f : En → Rho → Stv → Fl} {ch ch' : Option (Nat × Cell)} {ks : List Nat} {n0 n0' : Nat} {es es' : List En} {ρ ρ' : Rho} {S S' : Stv} (h1 : ch = ch') (h2 : n0 = n0') (h3 : es = es') (h4 : ρ = ρ') (h5 : S = S') : loopF f ch ks n0 es ρ S = loopF f ch' ks n0' es' ρ' S' := by rw [h1, h2, h3, h4, h5]
theorem lcF_congr {t : Rho → Stv → Out Bool} {f : Rho → Stv → Out Rv} {b : En → Rho → Option Rho} {ch ch' : Option (Nat × Cell)} {n0 n0' : Nat} {es es' : List En} {acc acc' : List D} {ρ ρ' : Rho} {S S' : Stv} (h1 : ch = ch') (h2 : n0 = n0') (h3 : es = es') (h4 : ρ = ρ') (h5 : S = S') (h6 : acc = acc') : lcF t f b ch n0 ρ es acc S = lcF t f b ch' n0' ρ' es' acc' S' := by rw [h1, h2, h3, h4, h5, h6]
theorem whileF_congr {t : Rho → Stv → Out Bool} {f : Rho → Stv → Fl} {ks : List Nat} {n0 n0' : Nat} {ρ ρ' : Rho} {S S' : Stv} (h1 : n0 = n0') (h2 : ρ = ρ') (h3 : S = S') : whileF t f ks n0 ρ S = whileF t f ks n0' ρ' S' := by rw [h1, h2, h3]
section
variable {S : Stv} {i j : Int} {a b : List D} {x y : Str}
@[simp] theorem binR_add : binR .add (.v (.int i)) (.v (.int j)) S = .ok (.v (.int (i + j))) S := rfl
@[simp] theorem binR_sub : binR .sub (.v (.int i)) (.v (.int j)) S = .ok (.v (.int (i - j))) S := rfl
@[simp] theorem binR_mul : binR .mul (.v (.int i)) (.v (.int j)) S = if (-18446744073709551616 < i ∧ i < 18446744073709551616) ∨ (-18446744073709551616 < j ∧ j < 18446744073709551616) then .ok (.v (.int (i * j))) S else .bad := rfl
@[simp] theorem binR_mulT {a : List D} {k : Int} : binR .mul (.v (.tuple a)) (.v (.int k)) S = if 0 < a.length ∧ 0 ≤ k ∧ k ≤ 1000 ∧ a.length ≤ 1000 then .ok (.v (.tuple (List.replicate k.toNat a).flatten)) S else .bad := rfl
@[simp] theorem binR_mulS {a : Str} {k : Int} : binR .mul (.v (.str a)) (.v (.int k)) S = if 0 ≤ k ∧ k ≤ 1000 ∧ a.length ≤ 1000 then .ok (.v (.str (Txt.mul a k))) S else .bad := rfl
@[simp] theorem binR_mod : binR .mod (.v (.int i)) (.v (.int j)) S = if 0 < j then .ok (.v (.int (i % j))) S else .bad := rfl
@[simp] theorem binR_fdiv : binR .fdiv (.v (.int i)) (.v (.int j)) S = if 0 < j ∧ j < 4611686018427387904 then .ok (.v (.int (i / j))) S else .bad := rfl
@[simp] theorem binR_pow : binR .pow (.v (.int i)) (.v (.int j)) S = if 0 ≤ j ∧ j ≤ 1000000 ∧ i.natAbs < 18446744073709551616 then .ok (.v (.int (i ^ j.toNat))) S else .bad := rfl
@[simp] theorem binR_addS : binR .add (.v (.str x)) (.v (.str y)) S = if x.length + y.length ≤ sizeLine then .ok (.v (.str (x ++ y))) S else .bad := rfl
@[simp] theorem binR_addT : binR .add (.v (.tuple a)) (.v (.tuple b)) S = if a.length + b.length ≤ big then .ok (.v (.tuple (a ++ b))) S else .bad := rfl
@[simp] theorem binR_addLL : binR .add (.v (.list a)) (.v (.list b)) S = if a.length + b.length ≤ big then .ok (.nw (.lst (a ++ b))) S else .bad := rfl
@[simp] theorem binR_addLN : binR .add (.v (.list a)) (.nw (.lst b)) S = if a.length + b.length ≤ big then .ok (.nw (.lst (a ++ b))) S else .bad := rfl
@[simp] theorem binR_addNL : binR .add (.nw (.lst a)) (.v (.list b)) S = if a.length + b.length ≤ big then .ok (.nw (.lst (a ++ b))) S else .bad := rfl
@[simp] theorem binR_addNN : binR .add (.nw (.lst a)) (.nw (.lst b)) S = if a.length + b.length ≤ big then .ok (.nw (.lst (a ++ b))) S else .bad := rfl
end
end
end VM
end

section
set_option Elab.async false
set_option linter.all false
set_option maxRecDepth 100000
set_option maxHeartbeats 4000000
namespace VM
open PySem PySem.Spec PyProof.Rows L2 DL

section
variable {K : PySem.W.Frag} {cl : ClT} {xc : XCl} {L : List Addr} {F H H0 : Hp} {S : Stv} {x y : V} {rx ry : Rv} {W : WXK} {σ : L2.St} {Q : VK}
theorem fr_F (s : SV K cl F H L S) {p : Addr} (hp : H p = none) : F p = none := by
  cases q : F p with
  | none => rfl
  | some o => rw [s.sub _ _ q] at hp; cases hp
theorem fr_L (s : SV K cl F H L S) {p : Addr} (hp : H p = none) : p ∉ L := fun m => s.memH m hp
/-- an object is laid that nobody knows -/
theorem nx_lay (s : SV K cl F H L S) {p : Addr} (hp : H p = none) (o : HO) : Nx L F H L F (upd H p o) ∧ SV K cl F (upd H p o) L S := by
  have hf := fr_F s hp
  refine ⟨⟨⟨Same.refl _, fun a o' e _ => ?_, fun a h => ?_, fun a h n => n⟩, [], by simp, fun a h => by cases h⟩, ⟨fun b o' e => ?_, s.len, s.nd, fun n a e => ?_, s.tb⟩⟩
  · rw [upd_ne (ne_of_none e hp)]; exact e
  · by_cases q : a = p
    · rw [q, upd_same]; exact nofun
    · rw [upd_ne q]; exact h
  · rw [upd_ne (ne_of_none e hf)]; exact s.sub _ _ e
  · obtain ⟨h1, h2⟩ := s.st n a e
    have : a ≠ p := fun q => h1 (q ▸ hp)
    rw [upd_ne this]
    exact ⟨h1, h2⟩
/-- a tuple is laid: data -/
theorem nx_tup (s : SV K cl F H L S) {p : Addr} (hp : H p = none) {vs : List V} {ds : List D} (hd : DpAll K F vs ds) : Nx L F H L (upd F p (.tup vs)) (upd H p (.tup vs)) ∧ SV K cl (upd F p (.tup vs)) (upd H p (.tup vs)) L S ∧ Dp K (upd F p (.tup vs)) (.ref p) (.tuple ds) := by
  have hf := fr_F s hp
  have sm : Same F (upd F p (.tup vs)) := fun b o e => by
    rw [upd_ne (ne_of_none e hf)]
    exact e
  refine ⟨⟨⟨sm, fun a o' e _ => ?_, fun a h => ?_, fun a h n => ?_⟩, [], by simp, fun a h => by cases h⟩, ⟨fun b o' e => ?_, s.len, s.nd, fun n a e => ?_, fun P hP => sm _ _ (s.tb P hP)⟩, .tup (.inl (.inl upd_same)) (dpa_mono sm _ _ hd)⟩
  · rw [upd_ne (ne_of_none e hp)]; exact e
  · by_cases q : a = p
    · rw [q, upd_same]; exact nofun
    · rw [upd_ne q]; exact h
  · have : a ≠ p := fun q => h (q ▸ hp)
    rw [upd_ne this]; exact n
  · by_cases q : b = p
    · rw [q, upd_same] at e ⊢; exact e
    · rw [upd_ne q] at e ⊢; exact s.sub _ _ e
  · obtain ⟨h1, h2⟩ := s.st n a e
    have : a ≠ p := fun q => h1 (q ▸ hp)
    rw [upd_ne this, upd_ne this]
    refine ⟨h1, fun c e1 e2 => ?_⟩
    obtain ⟨f, o, h3, h4⟩ := h2 c e1 e2
    have := h4.mono (R := []) sm
    rw [List.append_nil] at this
    exact ⟨f, o, h3, this⟩
theorem rv_new (s : SV K cl F H L S) {p : Addr} (hp : H p = none) {o : HO} {c : Cell} (hc : CellOk K cl F L o c) : RV K cl L F H (upd H p o) (.ref p) (.nw c) := ⟨p, o, rfl, hp, fr_L s hp, fr_F s hp, upd_same, hc⟩
/-- plain data as an answer -/
theorem pst_d {d : D} {v : V} {F0 : Hp} {L0 : List Addr} (n : Nx L0 F0 H0 L F H) (s : SV K cl F H L S) (hd : Dp K F v d) (p : Pst K cl xc (RV K cl) (okD d S) L0 F0 H0 W σ Q) : Q v H := p v F H L n s hd
theorem lst_rd {ds : List D} (s : SV K cl F H L S) (h : RV K cl L F H0 H x rx) (e : lstR S rx = some ds) : ∃ a vs, x = .ref a ∧ SqL K H a vs ∧ DpAll K F vs ds := by
  unfold lstR at e
  split at e
  · cases e
    have h' : Dp K F x (.list ds) := h
    cases h' with
    | lst h1 h2 => exact ⟨_, _, rfl, s.sub.seq h1, h2⟩
  · split at e
    · rename_i hn
      cases e
      obtain ⟨a, rfl, ha⟩ := h
      obtain ⟨_, h2⟩ := s.st _ a ha
      obtain ⟨_, o, ho, vs, rfl, hd⟩ := h2 _ hn (by nofun)
      exact ⟨a, vs, rfl, .inl (.inl ho), hd⟩
    · cases e
  · cases e
    obtain ⟨a, o, rfl, _, _, _, ho, vs, rfl, hd⟩ := h
    exact ⟨a, vs, rfl, .inl (.inl ho), hd⟩
  · cases e
theorem sq_rd {ds : List D} (s : SV K cl F H L S) (h : RV K cl L F H0 H x rx) (e : sqR S rx = some ds) : ∃ a vs, x = .ref a ∧ (SqL K H a vs ∨ SqT K H a vs) ∧ DpAll K F vs ds := by
  unfold sqR at e
  split at e
  · cases e
    have h' : Dp K F x (.tuple ds) := h
    cases h' with
    | tup h1 h2 => exact ⟨_, _, rfl, .inr (sqt_mono s.sub h1), h2⟩
  · obtain ⟨a, vs, e1, e2, e3⟩ := lst_rd s h e
    exact ⟨a, vs, e1, .inl e2, e3⟩
/-- data or a list's present content, at the present heap -/
theorem dat_rd {d : D} (s : SV K cl F H L S) (h : RV K cl L F H0 H x rx) (e : datR S rx = some d) : Dp K H x d := by
  unfold datR at e
  split at e
  · cases e
    exact dp_mono s.sub _ _ h
  · obtain ⟨ds, e1, e2⟩ := Option.map_eq_some_iff.mp e
    subst e2
    obtain ⟨a, vs, rfl, h1, h2⟩ := lst_rd s h e1
    exact .lst h1 (dpa_mono s.sub _ _ h2)
/-! ### truth -/
theorem tru_rd {b : Bool} (s : SV K cl F H L S) (h : RV K cl L F H0 H x rx) (e : truR S rx = some b) : TruV K x H b := by
  unfold truR at e
  split at e
  · cases e
    have h' : Dp K F x .none := h
    cases h'
    exact rfl
  · cases e
    have h' : Dp K F x (.bool b) := h
    cases h'
    exact rfl
  · rename_i i
    cases e
    have h' : Dp K F x (.int i) := h
    cases h'
    exact rfl
  · rename_i z
    split at e
    · rename_i hz
      cases e
      have h' : Dp K F x (.str z) := h
      cases h'
      exact ⟨hz, rfl⟩
    · cases e
  · rename_i ds
    cases e
    obtain ⟨a, vs, rfl, h1, h2⟩ := lst_rd s h (rfl : lstR S (.v (.list ds)) = some ds)
    have hl := dpa_len h2
    exact .inl ⟨vs, h1, by cases vs <;> cases ds <;> simp_all⟩
  · rename_i ds
    cases e
    have h' : Dp K F x (.tuple ds) := h
    cases h' with
    | tup h1 h2 =>
      rename_i a vs
      have hl := dpa_len h2
      exact .inr (.inl ⟨vs, sqt_mono s.sub h1, by cases vs <;> cases ds <;> simp_all⟩)
  · cases e
  · rename_i n
    split at e
    · rename_i ds hn
      cases e
      obtain ⟨a, vs, rfl, h1, h2⟩ := lst_rd s h (by simp only [lstR, hn] : lstR S (.mu n) = some ds)
      have hl := dpa_len h2
      exact .inl ⟨vs, h1, by cases vs <;> cases ds <;> simp_all⟩
    · rename_i es hn
      cases e
      obtain ⟨a, rfl, ha⟩ := h
      obtain ⟨_, h2⟩ := s.st _ a ha
      obtain ⟨_, o, ho, vs, rfl, hd⟩ := h2 _ hn (by nofun)
      have hl := hd.1
      exact .inl ⟨vs, .inl (.inl ho), by cases vs <;> cases es <;> simp_all⟩
    · cases e
  · rename_i ds
    cases e
    obtain ⟨a, vs, rfl, h1, h2⟩ := lst_rd s h (rfl : lstR S (.nw (.lst ds)) = some ds)
    have hl := dpa_len h2
    exact .inl ⟨vs, h1, by cases vs <;> cases ds <;> simp_all⟩
  · cases e
end

/-! ### + of lists, wherever they stand -/
def rCatL (K : PySem.W.Frag) : R2 := fun x y H Q => ∃ l b xs zs, x = .ref l ∧ y = .ref b ∧ SqL K H l xs ∧ SqL K H b zs ∧ xs.length + zs.length ≤ sizeLine ∧ ∀ p, H p = none → Q (.ref p) (upd H p (.lst (xs ++ zs)))
theorem op_catL {X : Cx} : OpR X (binaryOp .Add) (rCatL X.K) := by
  intro pins s σ H x y v u Q I rx ry h
  obtain ⟨l, b, xs, zs, rfl, rfl, hH, hB, hz, q⟩ := h
  cases rx
  cases ry
  obtain ⟨its, r, hl, _⟩ := I.list hH
  obtain ⟨its2, r2, hb, _⟩ := I.list hB
  obtain ⟨⟨cls, dd, data, sl⟩, n, ho, hc, hdd, hd⟩ := hl
  obtain ⟨⟨cls2, dd2, data2, sl2⟩, n2, ho2, hc2, hdd2, hd2⟩ := hb
  simp only at hc hd hc2 hd2
  subst hc hd hc2 hd2
  have e : its.toArray ++ its2.toArray = (its ++ its2).toArray := by simp
  have e1 := r.length
  have e2 := r2.length
  refine concat_meets ⟨_, ho, rfl⟩ ⟨_, ho2, rfl⟩ noFill_list_add seq_list_add PySem.F.slot_list_add PySem.F.entry_list_add (PySem.F.args_list_add_2 _ _) (list_addW l b its.toArray its2.toArray n n2 dd dd2 sl sl2 (by simp only [List.size_toArray]; omega)) ⟨ho, ho2, ?_⟩
  rw [e]
  exact ⟨.ref _, _, I.lnew (t' := s.toks) (r.append r2) (by rw [List.length_append]; omega), rfl, q _ I.fresh⟩
theorem OpR.or {X : Cx} {f : Value → Value → Sem Value} {r r' : R2} (h : OpR X f r) (h' : OpR X f r') : OpR X f (fun x y H Q => r x y H Q ∨ r' x y H Q) := by
  intro pins s σ H x y v u Q I rx ry q
  rcases q with q | q
  · exact h pins s σ H x y v u Q I rx ry q
  · exact h' pins s σ H x y v u Q I rx ry q
/-! ### the operators -/
def rCatS : R2 := fun x y H Q => ∃ i j, x = .str i ∧ y = .str j ∧ i.length + j.length ≤ sizeLine ∧ Q (.str (i ++ j)) H
def rBin (K : PySem.W.Frag) : Bop → R2
  | .add => fun x y H Q => rI0 (fun i j => .int (i + j)) x y H Q ∨ (fun x y H Q => rCatS x y H Q ∨ (fun x y H Q => rCatA K x y H Q ∨ rCatL K x y H Q) x y H Q) x y H Q
  | .sub => rI0 fun i j => .int (i - j)
  | .mul => fun x y H Q => rI CMul (fun i j => .int (i * j)) x y H Q ∨ rMulT K x y H Q ∨ rMulS x y H Q
  | .mod => rI (fun _ j => 0 < j) fun i j => .int (i % j)
  | .fdiv => rI CDivW fun i j => .int (i / j)
  | .pow => rI CPow fun i j => .int (i ^ j.toNat)
def bopA : Bop → Operator
  | .add => .Add
  | .sub => .Sub
  | .mul => .Mult
  | .mod => .Mod
  | .fdiv => .FloorDiv
  | .pow => .Pow
theorem op_bin {X : Cx} {K : PySem.W.Frag} (hX : X.K = K) : ∀ o, OpR X (binaryOp (bopA o)) (rBin K o)
  | .add => by
    subst hX
    exact OpR.or op_add (OpR.or op_add_str (OpR.or op_catA op_catL))
  | .sub => op_sub
  | .mul => by
    subst hX
    exact OpR.or op_mul (OpR.or op_mulT op_mulS)
  | .mod => op_mod
  | .fdiv => op_fdivW
  | .pow => op_pow
section
variable {K : PySem.W.Frag} {cl : ClT} {xc : XCl} {L L0 : List Addr} {F F0 H H0 Hx Hy : Hp} {S : Stv} {x y : V} {rx ry : Rv} {W : WXK} {σ : L2.St} {Q : VK}
theorem dp_int {i : Int} (h : RV K cl L F Hx H x (.v (.int i))) : x = .int i := by
  have h' : Dp K F x (.int i) := h
  cases h'; rfl
theorem dp_str {i : Str} (h : RV K cl L F Hx H x (.v (.str i))) : x = .str i := by
  have h' : Dp K F x (.str i) := h
  cases h'; rfl
theorem dp_bool {i : Bool} (h : RV K cl L F Hx H x (.v (.bool i))) : x = .bl i := by
  have h' : Dp K F x (.bool i) := h
  cases h'; rfl
theorem dp_none (h : RV K cl L F Hx H x (.v .none)) : x = .non := by
  have h' : Dp K F x .none := h
  cases h'; rfl
theorem bigL {n : Nat} (h : n ≤ big) : n ≤ sizeLine := Nat.le_trans h (by decide)
theorem bigL' {n : Nat} (h : n < big) : n < sizeLine := Nat.lt_of_lt_of_le h (by decide)
theorem dpa_rep {H : Hp} {vs : List V} {ds : List D} (h : DpAll K H vs ds) : ∀ k : Nat, DpAll K H (List.replicate k vs).flatten (List.replicate k ds).flatten
  | 0 => .nil
  | k + 1 => by
    rw [List.replicate_succ, List.replicate_succ, List.flatten_cons, List.flatten_cons]
    exact dpa_app h (dpa_rep h k)
theorem bin_ok (o : Bop) (n : Nx L0 F0 H0 L F H) (s : SV K cl F H L S) (hx : RV K cl L F Hx H x rx) (hy : RV K cl L F Hy H y ry) (p : Pst K cl xc (RV K cl) (binR o rx ry S) L0 F0 H0 W σ Q) : rBin K o x y H Q := by
  unfold binR at p
  split at p
  · cases dp_int hx; cases dp_int hy
    exact .inl ⟨_, _, rfl, rfl, pst_d n s (.int _) p⟩
  · cases dp_int hx; cases dp_int hy
    exact ⟨_, _, rfl, rfl, pst_d n s (.int _) p⟩
  · cases dp_int hx; cases dp_int hy
    split at p
    · rename_i h
      exact .inl ⟨_, _, rfl, rfl, h, pst_d n s (.int _) p⟩
    · exact p.elim
  · rename_i a k
    split at p
    · rename_i h
      obtain ⟨g1, g2, g3, g4⟩ := h
      cases dp_int hy
      have hx' : Dp K F x (.tuple a) := hx
      cases hx' with
      | tup h1 h2 =>
        rename_i pa xs
        have l1 := dpa_len h2
        have hm := sqt_mono s.sub h1
        have hne : xs ≠ [] := fun e => by
          subst e
          simp at l1
          omega
        refine .inr (.inl ?_)
        by_cases k1 : k = 1
        · subst k1
          refine .inl ⟨_, xs, rfl, rfl, hm, ?_⟩
          have e : (List.replicate (1 : Int).toNat a).flatten = a := by simp
          rw [e] at p
          exact pst_d n s (Dp.tup h1 h2) p
        by_cases k0 : k = 0
        · subst k0
          refine .inr (.inl ⟨_, xs, rfl, rfl, hm, hne, fun pn hp => ?_⟩)
          obtain ⟨n1, s1, d1⟩ := nx_tup s hp DpAll.nil
          exact p _ _ _ _ (n.trans n1) s1 d1
        · refine .inr (.inr ⟨_, k, xs, rfl, rfl, hm, hne, by omega, g3, by omega, fun pn hp => ?_⟩)
          obtain ⟨n1, s1, d1⟩ := nx_tup s hp (dpa_rep h2 k.toNat)
          exact p _ _ _ _ (n.trans n1) s1 d1
    · exact p.elim
  · cases dp_str hx; cases dp_int hy
    split at p
    · rename_i h
      exact .inr (.inr ⟨_, _, rfl, rfl, h.1, h.2.1, h.2.2, pst_d n s (.str _) p⟩)
    · exact p.elim
  · cases dp_int hx; cases dp_int hy
    split at p
    · rename_i h
      exact ⟨_, _, rfl, rfl, (by first | exact h | exact wide_div h.1 (b := 62) (by omega) (by decide) (by decide)), pst_d n s (.int _) p⟩
    · exact p.elim
  · cases dp_int hx; cases dp_int hy
    split at p
    · rename_i h
      exact ⟨_, _, rfl, rfl, (by first | exact h | exact wide_div h.1 (b := 62) (by omega) (by decide) (by decide)), pst_d n s (.int _) p⟩
    · exact p.elim
  · cases dp_int hx; cases dp_int hy
    split at p
    · rename_i h
      exact ⟨_, _, rfl, rfl, (by first | exact h | exact wide_div h.1 (b := 62) (by omega) (by decide) (by decide)), pst_d n s (.int _) p⟩
    · exact p.elim
  · cases dp_str hx; cases dp_str hy
    split at p
    · rename_i h
      exact .inr (.inl ⟨_, _, rfl, rfl, h, pst_d n s (.str _) p⟩)
    · exact p.elim
  · rename_i a b
    split at p
    · rename_i h
      have hx' : Dp K F x (.tuple a) := hx
      have hy' : Dp K F y (.tuple b) := hy
      cases hx' with
      | tup h1 h2 =>
        rename_i pa xs
        cases hy' with
        | tup h3 h4 =>
          rename_i pb ys
          have l1 := dpa_len h2
          have l2 := dpa_len h4
          refine .inr (.inr (.inl ⟨_, _, _, _, rfl, rfl, sqt_mono s.sub h1, sqt_mono s.sub h3, by rw [l1, l2]; exact bigL h, fun e => ?_, fun e e2 => ?_, fun _ _ pn hp => ?_⟩))
          · subst e
            cases a with
            | nil => exact pst_d n s (Dp.tup h3 h4) p
            | cons _ _ => cases l1
          · subst e2
            cases b with
            | nil =>
              rw [List.append_nil] at p
              exact pst_d n s (Dp.tup h1 h2) p
            | cons _ _ => cases l2
          · obtain ⟨n1, s1, d1⟩ := nx_tup s hp (dpa_app h2 h4)
            exact p _ _ _ _ (n.trans n1) s1 d1
    · exact p.elim
  · rename_i hh1 hh2 hh3
    split at p
    · rename_i a b e1 e2
      split at p
      · rename_i h
        obtain ⟨la, xs, rfl, h1, h2⟩ := lst_rd s hx e1
        obtain ⟨lb, ys, rfl, h3, h4⟩ := lst_rd s hy e2
        refine .inr (.inr (.inr ⟨la, lb, xs, ys, rfl, rfl, h1, h3, by rw [dpa_len h2, dpa_len h4]; exact bigL h, fun pn hp => ?_⟩))
        obtain ⟨n1, s1⟩ := nx_lay s hp (.lst (xs ++ ys))
        exact p _ _ _ _ (n.trans n1) s1 ((rv_new (c := .lst (a ++ b)) s hp ⟨_, rfl, dpa_app h2 h4⟩).back n)
      · exact p.elim
    · exact p.elim
  · exact p.elim
end
end VM
end

section
set_option Elab.async false
set_option linter.all false
set_option maxRecDepth 100000
set_option maxHeartbeats 4000000
namespace VM
open PySem PySem.Spec PyProof.Rows L2 DL

/-! ### dicts that are read: a tuple's key may stand anywhere -/
def DGetS (K : PySem.W.Frag) (H : Hp) (a : Addr) (y : V) (r : Option V) : Prop :=
  (∃ kvs k, Rd H a (.dK kvs) ∧ y = kV k ∧ r = valV kvs k) ∨ ∃ kvs k b, Rd H a (.dT kvs) ∧ y = .ref b ∧ SqT K H b (k.map kV) ∧ r = valV kvs k
section
variable {X : Cx} {pins : List (Addr × Obj)} {σ : L2.St} {H : Hp} {s : Shared} {a : Addr} {y v : V} {u r : Value} {o : Option V} {A : Around} {E : Value → Shared → Prop}
theorem key_ofS {ks : List Key} {b : Addr} (I : Inv X pins σ H s) (e : SqT X.K H b (ks.map kV)) : (tupleKind (mixKind X.prog X.w)).is s.heap ks b := by
  obtain ⟨its, r, ⟨o, h1, h2, n, h3⟩, _⟩ := I.tuple e
  exact ⟨o, its.toArray, n, h1, h2, h3, by simpa using items_are r⟩
theorem d_getItemS {Q : Value → Shared → Prop} (hu : A.units + 1 < cLine) (I : Inv X pins σ H s) (g : DGetS X.K H a y (some v)) (ry : RelV y u) (h : ∀ w' s', Inv X pins σ H s' → RelV v w' → Q w' s') :
    wpAny (model X.prog X.w) A (getItem (.ref a) u) Q E s := by
  rcases g with ⟨kvs, k, e, ey, l⟩ | ⟨kvs, k, b, e, ey, eb, l⟩
  · exact d_getItem hu I (.inl ⟨kvs, k, e, ey, l⟩) ry h
  · subst ey
    cases (show u = Value.ref b from ry)
    obtain ⟨z, hd, xs, rel, dd⟩ := dt_rd I.hok e
    obtain ⟨w', hw, rw'⟩ := RelO.some_of (v := v) (o := (atKey xs k).map (·.2)) (by rw [l]; exact rel.val k)
    obtain ⟨p, hp, hp2⟩ := Option.map_eq_some_iff.mp hw
    refine wpAny_getItem_heap (tupleKind_room_in1 hu) (key_ofS I eb) dd hp ?_
    rw [hp2]
    exact h w' _ (I.tok _) rw'
theorem d_inS {Q : Value → Shared → Prop} (hu : A.units + 1 < cLine) (I : Inv X pins σ H s) (g : DGetS X.K H a y o) (ry : RelV y u) (h : ∀ s', Inv X pins σ H s' → Q (.bool o.isSome) s') :
    wpAny (model X.prog X.w) A (compareOp .In u (.ref a)) Q E s := by
  rcases g with ⟨kvs, k, e, ey, l⟩ | ⟨kvs, k, b, e, ey, eb, l⟩
  · exact d_in hu I (.inl ⟨kvs, k, e, ey, l⟩) ry h
  · subst ey
    cases (show u = Value.ref b from ry)
    obtain ⟨z, hd, xs, rel, dd⟩ := dt_rd I.hok e
    refine wpAny_in_heap (tupleKind_room_in1 hu) (key_ofS I eb) hd dd ?_
    have q := (rel.val k).isSome_eq
    rw [Option.isSome_map] at q
    rw [← q, ← l]
    exact h _ (I.tok _)
theorem d_notInS {Q : Value → Shared → Prop} (hu : A.units + 1 < cLine) (I : Inv X pins σ H s) (g : DGetS X.K H a y o) (ry : RelV y u) (h : ∀ s', Inv X pins σ H s' → Q (.bool (!o.isSome)) s') :
    wpAny (model X.prog X.w) A (compareOp .NotIn u (.ref a)) Q E s := by
  rcases g with ⟨kvs, k, e, ey, l⟩ | ⟨kvs, k, b, e, ey, eb, l⟩
  · exact d_notIn hu I (.inl ⟨kvs, k, e, ey, l⟩) ry h
  · subst ey
    cases (show u = Value.ref b from ry)
    obtain ⟨z, hd, xs, rel, dd⟩ := dt_rd I.hok e
    refine wpAny_notIn_heap (tupleKind_room_in1 hu) (key_ofS I eb) hd dd ?_
    have q := (rel.val k).isSome_eq
    rw [Option.isSome_map] at q
    rw [← q, ← l]
    exact h _ (I.tok _)
theorem dictS_typeIs (I : Inv X pins σ H s) (g : DGetS X.K H a y o) : s.TypeIs (.ref a) "dict" := by
  rcases g with ⟨kvs, k, e, _, _⟩ | ⟨kvs, k, b, e, _, _, _⟩
  · obtain ⟨_, _, vs, _, dd⟩ := dk_rd I.hok e
    exact dd.typeIs
  · obtain ⟨_, _, xs, _, dd⟩ := dt_rd I.hok e
    exact dd.typeIs
end
def rDin (K : PySem.W.Frag) (neg : Bool) : R2 := fun y x H Q => ∃ a o, x = .ref a ∧ DGetS K H a y o ∧ Q (.bl (if neg then !o.isSome else o.isSome)) H
theorem op_din {X : Cx} (hu : X.A.units + 1 < cLine) : OpR X (compareOp .In) (rDin X.K false) := by
  intro pins s σ H y x u v Q I ry rx h
  obtain ⟨a, o, rfl, g, q⟩ := h
  cases rx
  exact d_inS hu I g ry fun s' I' => ⟨.bl _, H, I', rfl, q⟩
theorem op_dnotin {X : Cx} (hu : X.A.units + 1 < cLine) : OpR X (compareOp .NotIn) (rDin X.K true) := by
  intro pins s σ H y x u v Q I ry rx h
  obtain ⟨a, o, rfl, g, q⟩ := h
  cases rx
  exact d_notInS hu I g ry fun s' I' => ⟨.bl _, H, I', rfl, q⟩
def rIxD (K : PySem.W.Frag) : R2 := fun x y H Q => ∃ a v, x = .ref a ∧ DGetS K H a y (some v) ∧ Q v H
theorem ix_dict {X : Cx} (hu : X.A.units + 1 < cLine) : IxR X (rIxD X.K) := by
  intro value slice pins s σ H x y v u Q I rx ry h hs
  obtain ⟨a, w, rfl, g, q⟩ := h
  cases rx
  have hT := dictS_typeIs I g
  unfold subscriptTail
  refine wpAny_bind ?_
  rw [getitemInPython_of_ne hT.not_modules]
  refine wpAny_bind (wpAny_specialOf hT PySem.F.slot_dict_getitem.lookup ?_)
  have fin : wpAny (model X.prog X.w) X.A (subscripted slice false (.ref a) u) (fun r s₃ => wpAny (model X.prog X.w) X.A (letTemporaryGo value (.ref a) r >>= fun _ => pure r) (EP X pins σ Q) X.xe s₃) X.xe s := by
    rw [hs]
    refine wpAny_operating (d_getItemS hu I g ry fun w' s' I' rw' => ?_)
    exact wpAny_bind (wpAny_letTemporaryGo (wpAny_pure ⟨w, H, I', rw', q⟩))
  first
    | exact wpAny_pure (wpAny_bind fin)
    | exact wpAny_bind (wpAny_pure (wpAny_bind fin))
    | exact wpAny_bind fin
def rIdx (K : PySem.W.Frag) : R2 := fun x y H Q => rIxD K x y H Q ∨ rIx K x y H Q
theorem ix_any {X : Cx} {K : PySem.W.Frag} (hX : X.K = K) (hu : X.A.units + 65 < cLine) : IxR X (rIdx K) := by
  subst hX
  exact (ix_dict (by omega)).or ix_seq
def rInS (neg : Bool) : R2 := fun x y H Q => ∃ i j, x = .str i ∧ y = .str j ∧ Q (.bl (if neg then !(!(Builtin.Str.occurrences j i 0 j.length 1).isEmpty) else !(Builtin.Str.occurrences j i 0 j.length 1).isEmpty)) H
def rCmp (K : PySem.W.Frag) : Cop → R2
  | .eq => fun x y H Q => rEq x y H Q ∨ rEqD K x y H Q
  | .ne => fun x y H Q => rNe x y H Q ∨ rNeD K x y H Q
  | .lt => fun x y H Q => rI0 (fun i j => .bl (decide (i < j))) x y H Q ∨ ∃ i j, x = .str i ∧ y = .str j ∧ Q (.bl (decide (i.cps.toList < j.cps.toList))) H
  | .le => fun x y H Q => rI0 (fun i j => .bl (decide (i ≤ j))) x y H Q ∨ ∃ i j, x = .str i ∧ y = .str j ∧ Q (.bl (!decide (j.cps.toList < i.cps.toList))) H
  | .gt => fun x y H Q => rI0 (fun i j => .bl (decide (j < i))) x y H Q ∨ ∃ i j, x = .str i ∧ y = .str j ∧ Q (.bl (decide (j.cps.toList < i.cps.toList))) H
  | .ge => fun x y H Q => rI0 (fun i j => .bl (decide (j ≤ i))) x y H Q ∨ ∃ i j, x = .str i ∧ y = .str j ∧ Q (.bl (!decide (i.cps.toList < j.cps.toList))) H
  | .isn => fun x y H Q => (y = .non ∧ Q (.bl (decide (x = .non))) H) ∨ rIsB x y H Q
  | .notn => fun x y H Q => (y = .non ∧ Q (.bl (!decide (x = .non))) H) ∨ rNotB x y H Q
  | .isin => fun x y H Q => rIn K false x y H Q ∨ (fun x y H Q => rInD K x y H Q ∨ (fun x y H Q => rInS false x y H Q ∨ rDin K false x y H Q) x y H Q) x y H Q
  | .notin => fun x y H Q => rIn K true x y H Q ∨ (fun x y H Q => rNotInD K x y H Q ∨ (fun x y H Q => rInS true x y H Q ∨ rDin K true x y H Q) x y H Q) x y H Q
def copA : Cop → CmpOp
  | .eq => .Eq
  | .ne => .NotEq
  | .lt => .Lt
  | .le => .LtE
  | .gt => .Gt
  | .ge => .GtE
  | .isn => .Is
  | .notn => .IsNot
  | .isin => .In
  | .notin => .NotIn
theorem op_cmp {X : Cx} {K : PySem.W.Frag} (hX : X.K = K) (hu : X.A.units + 65 < cLine) : ∀ o, OpR X (compareOp (copA o)) (rCmp K o)
  | .eq => by subst hX; exact OpR.or op_eq (op_eqD (by omega))
  | .ne => by subst hX; exact OpR.or op_ne (op_neD (by omega))
  | .lt => OpR.or op_lt op_lt_str
  | .le => OpR.or op_le op_le_str
  | .gt => OpR.or op_gt op_gt_str
  | .ge => OpR.or op_ge op_ge_str
  | .isn => OpR.or op_isN op_isBl
  | .notn => OpR.or op_notN op_notBl
  | .isin => by subst hX; exact OpR.or op_in_seq (OpR.or (op_inD hu) (OpR.or op_in_str (op_din (by omega))))
  | .notin => by subst hX; exact OpR.or op_notIn_seq (OpR.or (op_notInD hu) (OpR.or op_notIn_str (op_dnotin (by omega))))

section
variable {K : PySem.W.Frag} {cl : ClT} {xc : XCl} {L L0 : List Addr} {F F0 H H0 Hx Hy : Hp} {S : Stv} {x y : V} {rx ry : Rv} {W : WXK} {σ : L2.St}
/-! ### keys -/
theorem keyK_v {d : D} {k : Key} {v : V} (h : Dp K F v d) (e : keyK d = some k) : v = kV k := by
  cases h <;> simp only [keyK] at e <;> cases e <;> rfl
theorem keyKs_v : ∀ {ds : List D} {ks : List Key} {vs : List V}, DpAll K F vs ds → keyKs ds = some ks → vs = ks.map kV
  | [], ks, vs, h, e => by
    cases h
    cases e
    rfl
  | d :: ds, ks, vs, h, e => by
    cases h with
    | cons h1 h2 =>
      unfold keyKs at e
      split at e
      · rename_i k ks' e1 e2
        cases e
        rw [keyK_v h1 e1, keyKs_v h2 e2]
        rfl
      · cases e
theorem prd_find {α β : Type} {P : α → β → Prop} {p : α → Bool} {q : β → Bool} (hpq : ∀ a b, P a b → p a = q b) : ∀ {xs : List α} {ys : List β}, Paired P xs ys → (∀ b, ys.find? q = some b → ∃ a, xs.find? p = some a ∧ P a b) ∧ (ys.find? q = none → xs.find? p = none)
  | _, _, .nil => ⟨fun b e => (by cases e), fun _ => rfl⟩
  | x :: xs, y :: ys, .cons h t => by
    obtain ⟨i1, i2⟩ := prd_find hpq t
    have e := hpq _ _ h
    simp only [List.find?_cons]
    rw [e]
    cases q y with
    | true => exact ⟨fun b e => by cases e; exact ⟨_, rfl, h⟩, fun e => by cases e⟩
    | false => exact ⟨i1, i2⟩
theorem dget_rd {t : Bool} {kvs : List (D × D)} {a : Addr} {o : HO} {d : D} {v : V} {r : Option D} (hc : CellOk K cl F L o (.dct t kvs)) (ho : H a = some o) (sm : Same F H) (hd : Dp K F v d) (e : dgetD t kvs d = some r) :
    ∃ r', DGetS K H a v r' ∧ (∀ z, r = some z → ∃ w, r' = some w ∧ Dp K F w z) ∧ (r = none → r' = none) := by
  have main : ∀ {κ : Type} [DecidableEq κ] (key : D → Option κ) (hk : List (κ × V)) (k : κ), Paired (fun (p : κ × V) (q : D × D) => key q.1 = some p.1 ∧ Dp K F p.2 q.2) hk kvs → r = (kvs.find? fun p => decide (key p.1 = some k)).map (·.2) → (∀ z, r = some z → ∃ w, valV hk k = some w ∧ Dp K F w z) ∧ (r = none → valV hk k = none) := by
    intro κ _ key hk k hp er
    have hf := prd_find (p := fun (p : κ × V) => decide (p.1 = k)) (q := fun (p : D × D) => decide (key p.1 = some k)) (fun a b h => by
      rw [h.1]
      rw [Bool.eq_iff_iff]
      simp) hp
    unfold valV
    subst er
    constructor
    · intro z hz
      obtain ⟨b, hb, rfl⟩ := Option.map_eq_some_iff.mp hz
      obtain ⟨a, ha, h⟩ := hf.1 b hb
      exact ⟨a.2, by rw [ha]; rfl, h.2⟩
    · intro hz
      have hz' := Option.map_eq_none_iff.mp hz
      rw [hf.2 hz']
      rfl
  unfold dgetD at e
  cases t with
  | false =>
    obtain ⟨hk, rfl, hp⟩ := hc
    obtain ⟨k, ek, er⟩ := Option.map_eq_some_iff.mp e
    obtain ⟨m1, m2⟩ := main keyK hk k hp er.symm
    exact ⟨_, .inl ⟨hk, k, .inl ho, keyK_v hd ek, rfl⟩, m1, m2⟩
  | true =>
    obtain ⟨hk, rfl, hp⟩ := hc
    obtain ⟨k, ek, er⟩ := Option.map_eq_some_iff.mp e
    obtain ⟨m1, m2⟩ := main keyT hk k hp er.symm
    unfold keyT at ek
    split at ek
    · cases hd with
      | tup h1 h2 =>
        have := keyKs_v h2 ek
        subst this
        exact ⟨_, .inr ⟨hk, k, _, .inl ho, rfl, sqt_mono sm h1, rfl⟩, m1, m2⟩
    · cases ek

/-! ### comparisons -/
theorem eq_rd {Q : VK} {b : Bool} {d e : D} (s : Same F H) (hx : Dp K H x d) (hy : Dp K H y e) (h : eqD d e = some b) : (Q (.bl b) H → rEq x y H Q ∨ rEqD K x y H Q) ∧ (Q (.bl (!b)) H → rNe x y H Q ∨ rNeD K x y H Q) := by
  unfold eqD at h
  split at h
  · cases hx; cases hy; cases h
    exact ⟨fun q => .inl ⟨rfl, q⟩, fun q' => .inl ⟨rfl, q'⟩⟩
  · rename_i i j
    cases hx; cases hy; cases h
    have e : decide (V.int i = V.int j) = decide (i = j) := by rw [Bool.eq_iff_iff]; simp
    exact ⟨fun q => .inl ⟨rfl, by rw [e]; exact q⟩, fun q' => .inl ⟨rfl, by rw [e]; exact q'⟩⟩
  · rename_i i j
    cases hx; cases hy; cases h
    have e : decide (V.str i = V.str j) = decide (i = j) := by rw [Bool.eq_iff_iff]; simp
    exact ⟨fun q => .inl ⟨rfl, by rw [e]; exact q⟩, fun q' => .inl ⟨rfl, by rw [e]; exact q'⟩⟩
  · rename_i i j
    cases hx; cases hy; cases h
    have e : decide (V.bl i = V.bl j) = decide (i = j) := by rw [Bool.eq_iff_iff]; simp
    exact ⟨fun q => .inl ⟨rfl, by rw [e]; exact q⟩, fun q' => .inl ⟨rfl, by rw [e]; exact q'⟩⟩
  · cases hx; cases hy; cases h
    exact ⟨fun q => .inl ⟨rfl, by rw [decide_eq_false (by nofun)]; exact q⟩, fun q' => .inl ⟨rfl, by rw [decide_eq_false (by nofun)]; exact q'⟩⟩
  · cases hx; cases hy; cases h
    exact ⟨fun q => .inl ⟨rfl, by rw [decide_eq_false (by nofun)]; exact q⟩, fun q' => .inl ⟨rfl, by rw [decide_eq_false (by nofun)]; exact q'⟩⟩
  · cases hx; cases hy; cases h
    exact ⟨fun q => .inl ⟨rfl, by rw [decide_eq_false (by nofun)]; exact q⟩, fun q' => .inl ⟨rfl, by rw [decide_eq_false (by nofun)]; exact q'⟩⟩
  · cases hx; cases hy; cases h
    exact ⟨fun q => .inl ⟨rfl, by rw [decide_eq_false (by nofun)]; exact q⟩, fun q' => .inl ⟨rfl, by rw [decide_eq_false (by nofun)]; exact q'⟩⟩
  · cases hx; cases hy; cases h
    exact ⟨fun q => .inl ⟨rfl, by rw [decide_eq_false (by nofun)]; exact q⟩, fun q' => .inl ⟨rfl, by rw [decide_eq_false (by nofun)]; exact q'⟩⟩
  · cases hx; cases hy; cases h
    exact ⟨fun q => .inl ⟨rfl, by rw [decide_eq_false (by nofun)]; exact q⟩, fun q' => .inl ⟨rfl, by rw [decide_eq_false (by nofun)]; exact q'⟩⟩
  · cases hx; cases hy; cases h
    exact ⟨fun q => .inl ⟨rfl, by rw [decide_eq_false (by nofun)]; exact q⟩, fun q' => .inl ⟨rfl, by rw [decide_eq_false (by nofun)]; exact q'⟩⟩
  · cases hx; cases hy; cases h
    exact ⟨fun q => .inl ⟨rfl, by rw [decide_eq_false (by nofun)]; exact q⟩, fun q' => .inl ⟨rfl, by rw [decide_eq_false (by nofun)]; exact q'⟩⟩
  · split at h
    · rename_i hs
      cases h
      exact ⟨fun q => .inr ⟨_, _, hx, hy, hs.1, hs.2, q⟩, fun q' => .inr ⟨_, _, hx, hy, hs.1, hs.2, q'⟩⟩
    · cases h
theorem flat_v {d : D} {v : V} (h : Dp K F v d) (e : flatD d = true) : flatV v = true := by
  cases h <;> first | rfl | cases e
theorem flat_vs : ∀ {ds : List D} {vs : List V}, DpAll K F vs ds → ds.all flatD = true → vs.all flatV = true
  | [], vs, h, _ => by cases h; rfl
  | d :: ds, vs, h, e => by
    cases h with
    | cons a b =>
      rw [List.all_cons, Bool.and_eq_true] at e ⊢
      exact ⟨flat_v a e.1, flat_vs b e.2⟩
theorem eqV_eqF {d e : D} {v w : V} (h1 : Dp K F v d) (h2 : Dp K F w e) (f1 : flatD d = true) (f2 : flatD e = true) : eqV v w = eqF d e := by
  cases h1 <;> cases h2 <;> first
    | (cases f1; done)
    | (cases f2; done)
    | rfl
theorem inV_any {d : D} {v : V} (h1 : Dp K F v d) (f1 : flatD d = true) : ∀ {ds : List D} {vs : List V}, DpAll K F vs ds → ds.all flatD = true → inV v vs = ds.any fun z => eqF z d
  | [], vs, h, _ => by cases h; rfl
  | e :: ds, vs, h, g => by
    cases h with
    | cons a b =>
      rw [List.all_cons, Bool.and_eq_true] at g
      have := inV_any h1 f1 b g.2
      unfold inV at this ⊢
      rw [List.any_cons, List.any_cons, eqV_eqF a h1 g.1 f1, this]
theorem in_rd {Q : VK} {b : Bool} (n0 : Nx L0 F0 H0 L F H) (s : SV K cl F H L S) (hx : RV K cl L F Hx H x rx) (hy : RV K cl L F Hy H y ry) (h : inR rx ry S = some b) :
    (Q (.bl b) H → rCmp K .isin x y H Q) ∧ (Q (.bl (!b)) H → rCmp K .notin x y H Q) := by
  have lst : ∀ (d : D) (ds : List D), rx = .v d → lstR S ry = some ds → (if SeqAt.shaped d = true ∧ SeqAt.shaped (.list ds) = true then some (ds.any fun z => PyData.eqv z d) else none) = some b → (Q (.bl b) H → rCmp K .isin x y H Q) ∧ (Q (.bl (!b)) H → rCmp K .notin x y H Q) := by
    intro d ds e1 e2 e3
    subst e1
    split at e3
    · rename_i hs
      cases e3
      obtain ⟨a, vs, rfl, h1, h2⟩ := lst_rd s hy e2
      have hd : Dp K H x d := dp_mono s.sub _ _ hx
      have hl : Dp K H (.ref a) (.list ds) := .lst h1 (dpa_mono s.sub _ _ h2)
      exact ⟨fun q => .inr (.inl ⟨d, ds, hd, hl, hs.1, hs.2, q⟩), fun q' => .inr (.inl ⟨d, ds, hd, hl, hs.1, hs.2, q'⟩)⟩
    · cases e3
  unfold inR at h
  split at h
  · rename_i d n
    split at h
    · rename_i t kvs hn
      obtain ⟨r, hr, eb⟩ := Option.map_eq_some_iff.mp h
      obtain ⟨a, rfl, ha⟩ := hy
      obtain ⟨_, h2⟩ := s.st _ a ha
      obtain ⟨_, o, ho, hc⟩ := h2 _ hn (by nofun)
      obtain ⟨r', g, g1, g2⟩ := dget_rd hc ho s.sub hx hr
      have er : r'.isSome = r.isSome := by
        cases r with
        | none => rw [g2 rfl]; rfl
        | some z =>
          obtain ⟨w, e, _⟩ := g1 z rfl
          rw [e]; rfl
      refine ⟨fun q => .inr (.inr (.inr ⟨a, r', rfl, g, ?_⟩)), fun q' => .inr (.inr (.inr ⟨a, r', rfl, g, ?_⟩))⟩
      · show Q (.bl r'.isSome) H
        rw [er, eb]; exact q
      · show Q (.bl (!r'.isSome)) H
        rw [er, eb]; exact q'
    · rename_i ds hn
      exact lst d ds rfl (by simp only [lstR, hn]) h
    · cases h
  · rename_i a b'
    cases h
    cases dp_str hx; cases dp_str hy
    exact ⟨fun q => .inr (.inr (.inl ⟨_, _, rfl, rfl, q⟩)), fun q' => .inr (.inr (.inl ⟨_, _, rfl, rfl, q'⟩))⟩
  · rename_i d ds
    split at h
    · rename_i hf
      cases h
      have hx' : Dp K F x d := hx
      have hy' : Dp K F y (.tuple ds) := hy
      cases hy' with
      | tup h1 h2 =>
        have e := inV_any hx' hf.1 h2 hf.2
        refine ⟨fun q => .inl ⟨_, _, rfl, .inr (sqt_mono s.sub h1), flat_v hx' hf.1, flat_vs h2 hf.2, ?_⟩, fun q' => .inl ⟨_, _, rfl, .inr (sqt_mono s.sub h1), flat_v hx' hf.1, flat_vs h2 hf.2, ?_⟩⟩
        · show Q (.bl (inV x _)) H
          rw [e]; exact q
        · show Q (.bl (!inV x _)) H
          rw [e]; exact q'
    · cases h
  · rename_i d ds
    exact lst d ds rfl rfl h
  · rename_i d ds
    exact lst d ds rfl rfl h
  · cases h
theorem cmp_rd {Q : VK} {b : Bool} (o : Cop) (n0 : Nx L0 F0 H0 L F H) (s : SV K cl F H L S) (hx : RV K cl L F Hx H x rx) (hy : RV K cl L F Hy H y ry) (h : cmpR o rx ry S = some b) (q : Q (.bl b) H) : rCmp K o x y H Q := by
  cases o with
  | eq =>
    unfold cmpR at h
    simp only at h
    split at h
    · rename_i d e e1 e2
      exact (eq_rd (Same.refl _) (dat_rd s hx e1) (dat_rd s hy e2) h).1 q
    · cases h
  | ne =>
    unfold cmpR at h
    simp only at h
    split at h
    · rename_i d e e1 e2
      obtain ⟨c, hc, eb⟩ := Option.map_eq_some_iff.mp h
      exact (eq_rd (Same.refl _) (dat_rd s hx e1) (dat_rd s hy e2) hc).2 (by rw [eb]; exact q)
    · cases h
  | lt =>
    unfold cmpR at h
    simp only at h
    split at h
    · cases h
      cases dp_int hx; cases dp_int hy
      exact .inl ⟨_, _, rfl, rfl, q⟩
    · cases h
      cases dp_str hx; cases dp_str hy
      exact .inr ⟨_, _, rfl, rfl, q⟩
    · cases h
  | le =>
    unfold cmpR at h
    simp only at h
    split at h
    · cases h
      cases dp_int hx; cases dp_int hy
      exact .inl ⟨_, _, rfl, rfl, q⟩
    · cases h
      cases dp_str hx; cases dp_str hy
      exact .inr ⟨_, _, rfl, rfl, q⟩
    · cases h
  | gt =>
    unfold cmpR at h
    simp only at h
    split at h
    · cases h
      cases dp_int hx; cases dp_int hy
      exact .inl ⟨_, _, rfl, rfl, q⟩
    · cases h
      cases dp_str hx; cases dp_str hy
      exact .inr ⟨_, _, rfl, rfl, q⟩
    · cases h
  | ge =>
    unfold cmpR at h
    simp only at h
    split at h
    · cases h
      cases dp_int hx; cases dp_int hy
      exact .inl ⟨_, _, rfl, rfl, q⟩
    · cases h
      cases dp_str hx; cases dp_str hy
      exact .inr ⟨_, _, rfl, rfl, q⟩
    · cases h
  | isn =>
    unfold cmpR at h
    simp only at h
    split at h
    · rename_i d
      cases h
      cases dp_none hy
      refine .inl ⟨rfl, ?_⟩
      have hx' : Dp K F x d := hx
      cases hx' <;> exact q
    · cases h
      cases dp_none hy
      obtain ⟨a, rfl, _⟩ := hx
      exact .inl ⟨rfl, q⟩
    · rename_i a b
      cases h
      have hx' : Dp K F x (.bool a) := hx
      have hy' : Dp K F y (.bool b) := hy
      cases hx'
      cases hy'
      exact .inr ⟨_, _, rfl, rfl, q⟩
    · cases h
  | notn =>
    unfold cmpR at h
    simp only at h
    split at h
    · rename_i d
      cases h
      cases dp_none hy
      refine .inl ⟨rfl, ?_⟩
      have hx' : Dp K F x d := hx
      cases hx' <;> exact q
    · cases h
      cases dp_none hy
      obtain ⟨a, rfl, _⟩ := hx
      exact .inl ⟨rfl, q⟩
    · rename_i a b
      cases h
      have hx' : Dp K F x (.bool a) := hx
      have hy' : Dp K F y (.bool b) := hy
      cases hx'
      cases hy'
      exact .inr ⟨_, _, rfl, rfl, q⟩
    · cases h
  | isin => exact (in_rd n0 s hx hy h).1 q
  | notin =>
    unfold cmpR at h
    simp only at h
    obtain ⟨c, hc, eb⟩ := Option.map_eq_some_iff.mp h
    exact (in_rd n0 s hx hy hc).2 (by rw [eb]; exact q)
end
end VM
end

section
set_option Elab.async false
set_option linter.all false
set_option maxRecDepth 100000
set_option maxHeartbeats 4000000
namespace VM
open PySem PySem.Spec PyProof.Rows L2 DL

theorem ext_lst {l b : Addr} {xs ys : Array Value} {n m : Nat} {sl : Array (Option Value)} (h0 : ¬(!xs.isEmpty && Builtin.List.listTooLong (xs.size + ys.size)) = true) (h1 : xs.size ≤ sizeLine) (h2 : xs.size + ys.size ≤ sizeLine + 1) :
    Meets (Builtin.«list.extend» ⟨[.ref l, .ref b], []⟩) (fun _ R s =>
      s.heap.get? l = some { cls := .type "list", dict := none, data := .seq xs n, slots := #[] } ∧
      s.heap.get? b = some { cls := .type "list", dict := none, data := .seq ys m, slots := sl } ∧
      R (.ok (.ret Value.none)) { s with heap := s.heap.update l (Obj.mapSeq fun x => x ++ ys), toks := s.toks }) :=
  .of_wp fun prog w A R s h => by
    obtain ⟨hp, g, d, tk, os⟩ := s
    obtain ⟨hl, hb, h⟩ := h
    have f1 := AutoSeq1.idx_int
    have f2 := AutoSeq1.sub_tuple_tuple
    have f3 := AutoSeq1.sub_list_list
    have f4 := AutoSeq1.sub_tuple_list
    have f5 := AutoSeq1.sub_list_tuple
    have hz : (xs ++ ys).size ≤ sizeLine + 1 := by
      rw [Array.size_append]
      exact h2
    wp_walk using (wpAny_updateSeq hl rfl (hz := h1) (_hz' := hz)), AutoSeq1.wpAny_loadPart' hl, AutoSeq1.wpAny_loadPart' hb
    exact ⟨_, rfl, h⟩
def rExtendL (K : PySem.W.Frag) : V → List V → Hp → VK → Prop := fun x vs H Q => ∃ l b xs zs, x = .ref l ∧ vs = [.ref b] ∧ H l = some (.lst xs) ∧ SqL K H b zs ∧ xs.length + zs.length ≤ sizeLine ∧ Q .non (upd H l (.lst (xs ++ zs)))
theorem mt_extendL {X : Cx} {K : PySem.W.Frag} (hX : X.K = K) : MtM X "list.extend" (rExtendL K) := by
  subst hX
  intro pins s σ H x vs v us Q I rx rv h
  obtain ⟨l, b, xs, zs, rfl, rfl, hH, hB, hz, q⟩ := h
  cases rx
  obtain ⟨u, rfl, ru⟩ := rv.one
  cases ru
  obtain ⟨z, its, n, r, hl, e⟩ := I.lstM hH
  obtain ⟨its2, r2, ⟨o2, n2, ho2, hc2, hdd2, hd2⟩, hz2⟩ := I.list hB
  have hl2 := r2.length
  obtain ⟨oc, od, da, sl⟩ := o2
  simp only at hc2 hdd2 hd2
  subst hc2 hdd2 hd2
  have hsz : its.toArray.size + its2.toArray.size ≤ sizeLine := by rw [List.size_toArray, List.size_toArray]; omega
  have hlong : ¬ (!its.toArray.isEmpty && Builtin.List.listTooLong (its.toArray.size + its2.toArray.size)) = true := by
    rw [notLongL hsz, Bool.and_false]
    exact Bool.false_ne_true
  refine call_meets F.slot_list_extend ⟨_, e, rfl⟩ F.entry_list_extend (F.args_list_extend_2 _ _) (ext_lst (n := n) (m := n2) (sl := sl) hlong (by rw [List.size_toArray]; omega) (by omega)) ⟨e, ho2, ?_⟩
  refine ⟨.non, _, I.lset (its' := its ++ its2) hH e (by simp) (r.append r2) ?_, rfl, q⟩
  rw [List.length_append]
  omega
def rExt (K : PySem.W.Frag) : V → List V → Hp → VK → Prop := fun x xs H Q => rExtendL K x xs H Q ∨ rExtendT K x xs H Q
theorem mt_ext {X : Cx} {K : PySem.W.Frag} (hX : X.K = K) : MtR X "list.extend" (rExt K) := MtR.or (mt_extendL hX) (mt_extendT hX)

section
variable {K : PySem.W.Frag} {cl : ClT} {xc : XCl} {L L0 : List Addr} {F F0 H H0 Hx Hy : Hp} {S : Stv} {x y : V} {rx ry : Rv} {W : WXK} {σ : L2.St}
/-- a cell is written -/
theorem put_cell (s : SV K cl F H L S) {n : Nat} {a : Addr} {c c' : Cell} {o' : HO} (ha : L[n]? = some a) (hn : S[n]? = some c) (hc : c ≠ .gone) (h : CellOk K cl F L o' c') : Nx L F H L F (upd H a o') ∧ SV K cl F (upd H a o') L (S.set n c') := by
  have hl : n < S.length := (List.getElem?_eq_some_iff.mp hn).1
  obtain ⟨hx, hy⟩ := s.st n a ha
  obtain ⟨f0, o, ho, _⟩ := hy c hn hc
  have haL : a ∈ L := List.mem_of_getElem? ha
  refine ⟨⟨⟨Same.refl _, fun x o e nx => ?_, fun x hx => ?_, fun x hx h => h⟩, [], by simp, fun a h => by cases h⟩, ⟨fun x o e => ?_, by simp [s.len], s.nd, fun m x e => ?_, s.tb⟩⟩
  · rw [upd_ne (fun (z : x = a) => nx (z ▸ haL))]; exact e
  · by_cases q : x = a
    · rw [q, upd_same]; exact nofun
    · rw [upd_ne q]; exact hx
  · rw [upd_ne (ne_of_none e f0)]; exact s.sub _ _ e
  · by_cases hnm : n = m
    · subst hnm
      rw [ha] at e
      cases e
      refine ⟨by rw [upd_same]; exact nofun, fun c2 e2 _ => ?_⟩
      rw [List.getElem?_set_self hl] at e2
      cases e2
      exact ⟨f0, o', upd_same, h⟩
    · have hxa : x ≠ a := fun z => by
        subst z
        have h1 := List.getElem?_eq_some_iff.mp e
        have h2 := List.getElem?_eq_some_iff.mp ha
        exact hnm ((List.getElem_inj s.nd).mp (h2.2.trans h1.2.symm))
      rw [List.getElem?_set_ne hnm, upd_ne hxa]
      exact s.st m x e
theorem mu_lst {n : Nat} {ds : List D} (s : SV K cl F H L S) (h : RV K cl L F Hx H x (.mu n)) (e : S[n]? = some (.lst ds)) : ∃ a vs, x = .ref a ∧ L[n]? = some a ∧ H a = some (.lst vs) ∧ DpAll K F vs ds := by
  obtain ⟨a, rfl, ha⟩ := h
  obtain ⟨_, h2⟩ := s.st _ a ha
  obtain ⟨_, o, ho, vs, rfl, hd⟩ := h2 _ e (by nofun)
  exact ⟨a, vs, rfl, ha, ho, hd⟩
theorem mu_lse {n : Nat} {es : List En} (s : SV K cl F H L S) (h : RV K cl L F Hx H x (.mu n)) (e : S[n]? = some (.lse es)) : ∃ a vs, x = .ref a ∧ L[n]? = some a ∧ H a = some (.lst vs) ∧ EnA K F L vs es := by
  obtain ⟨a, rfl, ha⟩ := h
  obtain ⟨_, h2⟩ := s.st _ a ha
  obtain ⟨_, o, ho, vs, rfl, hd⟩ := h2 _ e (by nofun)
  exact ⟨a, vs, rfl, ha, ho, hd⟩
theorem ena_get {vs : List V} {es : List En} {i : Nat} {e : En} (h : EnA K F L vs es) (hi : es[i]? = some e) : ∃ v, vs[i]? = some v ∧ EnOk K F L e (some v) := by
  obtain ⟨o, ho, q⟩ := h.2 i e hi
  rw [List.getElem?_map] at ho
  cases hv : vs[i]? with
  | none => rw [hv] at ho; cases ho
  | some v =>
    rw [hv] at ho
    cases ho
    exact ⟨v, rfl, q⟩
theorem atI_ena {vs : List V} {es : List En} {i : Int} {e : En} (h : EnA K F L vs es) (he : atI es i = some e) : ∃ v, atI vs i = some v ∧ EnOk K F L e (some v) := by
  unfold atI at he ⊢
  rw [h.1]
  cases q : ixN es.length i with
  | none => rw [q] at he; cases he
  | some j =>
    rw [q] at he
    exact ena_get h he
theorem ena_app {vs ws : List V} {es fs : List En} (h1 : EnA K F L vs es) (h2 : EnA K F L ws fs) : EnA K F L (vs ++ ws) (es ++ fs) := by
  refine ⟨by rw [List.length_append, List.length_append, h1.1, h2.1], fun i e q => ?_⟩
  rw [List.map_append]
  rw [List.getElem?_append] at q ⊢
  rw [List.length_map, h1.1]
  split at q
  · rename_i hl
    rw [if_pos hl]
    exact h1.2 i e q
  · rename_i hl
    rw [if_neg hl]
    exact h2.2 _ e q
theorem ena_one {v : V} {e : En} (h : EnOk K F L e (some v)) : EnA K F L [v] [e] := ⟨rfl, fun i e' q => by
  cases i with
  | zero => cases q; exact ⟨_, rfl, h⟩
  | succ i => simp at q⟩
theorem ena_set {vs : List V} {es : List En} {v : V} {e : En} (j : Nat) (h1 : EnA K F L vs es) (h : EnOk K F L e (some v)) : EnA K F L (vs.set j v) (es.set j e) :=
  ⟨by rw [List.length_set, List.length_set, h1.1], by rw [List.map_set]; exact h1.2.set j h⟩
/-! ### a[i] -/
theorem idx_ok {Q : VK} (n : Nx L0 F0 H0 L F H) (s : SV K cl F H L S) (hx : RV K cl L F Hx H x rx) (hy : RV K cl L F Hy H y ry) (p : Pst K cl xc (RV K cl) (idxO rx ry S) L0 F0 H0 W σ Q) : rIdx K x y H Q := by
  have seq : ∀ (d : D) (ds : List D), sqR S rx = some ds → ry = .v d → Pst K cl xc (RV K cl) (match d with
      | .int i => match atI ds i with
          | some e => okD e S
          | none => .bad
      | _ => .bad) L0 F0 H0 W σ Q → rIdx K x y H Q := by
    intro d ds e1 e2 p2
    subst e2
    split at p2
    · rename_i i
      split at p2
      · rename_i e he
        cases dp_int hy
        obtain ⟨a, vs, rfl, h1, h2⟩ := sq_rd s hx e1
        obtain ⟨v, hv, hd⟩ := atI_dp h2 he
        rcases h1 with h1 | h1
        · exact .inr (.inl ⟨a, vs, i, v, rfl, rfl, h1, hv, pst_d n s hd p2⟩)
        · exact .inr (.inr (.inl ⟨a, vs, i, v, rfl, rfl, h1, hv, pst_d n s hd p2⟩))
      · exact p2.elim
    · exact p2.elim
  unfold idxO at p
  split at p
  · rename_i d
    split at p
    · rename_i m
      split at p
      · rename_i t kvs hm
        split at p
        · rename_i e he
          obtain ⟨a, rfl, ha⟩ := hx
          obtain ⟨_, h2⟩ := s.st _ a ha
          obtain ⟨_, o, ho, hc⟩ := h2 _ hm (by nofun)
          obtain ⟨r', g, g1, _⟩ := dget_rd hc ho s.sub hy he
          obtain ⟨w, rfl, hw⟩ := g1 e rfl
          exact .inl ⟨a, w, rfl, g, pst_d n s hw p⟩
        · exact p.elim
      · rename_i ds hm
        exact seq d ds (by simp only [sqR, lstR, hm]) rfl p
      · rename_i es hm
        split at p
        · rename_i i
          obtain ⟨a, vs, rfl, ha, ho, hd⟩ := mu_lse s hx hm
          cases dp_int hy
          split at p
          · rename_i e he
            obtain ⟨v, hv, w, ew, hw⟩ := atI_ena hd he
            cases ew
            exact .inr (.inl ⟨a, vs, i, v, rfl, rfl, .inl (.inl ho), hv, pst_d n s hw p⟩)
          · rename_i k he
            obtain ⟨v, hv, b, eb, hb⟩ := atI_ena hd he
            cases eb
            exact .inr (.inl ⟨a, vs, i, _, rfl, rfl, .inl (.inl ho), hv, p _ _ _ _ n s ⟨b, rfl, hb⟩⟩)
          · exact p.elim
        · exact p.elim
      · exact p.elim
    · rename_i z
      split at p
      · rename_i i
        split at p
        · rename_i hz
          split at p
          · rename_i c hc
            cases dp_int hy
            cases dp_str hx
            exact .inr (.inr (.inr ⟨z, i, c, rfl, rfl, hz, hc, pst_d n s (.str _) p⟩))
          · exact p.elim
        · exact p.elim
      · exact p.elim
    · split at p
      · rename_i i
        split at p
        · rename_i ds he
          exact seq (.int i) ds he rfl p
        · exact p.elim
      · exact p.elim
  · exact p.elim
/-! ### slices -/
def rSl (K : PySem.W.Frag) : V → Option Int → Option Int → Hp → VK → Prop := fun x lo hi H Q => rSlS x lo hi H Q ∨ (fun x lo hi H Q => rSlA K x lo hi H Q ∨ rSlL K x lo hi H Q) x lo hi H Q
theorem sl_any {X : Cx} {K : PySem.W.Frag} (hX : X.K = K) : L2.SlR X (rSl K) := by
  subst hX
  exact L2.SlR.or sl_str (L2.SlR.or sl_tupA sl_list)
theorem dpa_cut {vs : List V} {ds : List D} {lo hi : Option Int} (h : DpAll K F vs ds) : DpAll K F (cutV vs lo hi) (cutD ds lo hi) := by
  unfold cutV cutD
  rw [dpa_len h]
  exact dpa_take _ (dpa_drop _ h)
theorem slc_ok {Q : VK} {lo hi : Option Int} (n : Nx L0 F0 H0 L F H) (s : SV K cl F H L S) (hx : RV K cl L F Hx H x rx) (p : Pst K cl xc (RV K cl) (slcO rx lo hi S) L0 F0 H0 W σ Q) : rSl K x lo hi H Q := by
  unfold slcO at p
  split at p
  · rename_i z
    split at p
    · rename_i hz
      cases dp_str hx
      exact .inl ⟨z, rfl, hz, pst_d n s (.str _) p⟩
    · exact p.elim
  · rename_i ds
    have hx' : Dp K F x (.tuple ds) := hx
    cases hx' with
    | tup h1 h2 =>
      rename_i a vs
      refine .inr (.inl ⟨a, vs, rfl, sqt_mono s.sub h1, fun e => ?_, fun _ pn hp => ?_⟩)
      · have : cutD ds lo hi = ds := by
          unfold cutD
          rw [dpa_len h2] at e
          rw [e.1, e.2, List.drop_zero, Nat.sub_zero, List.take_length]
        rw [this] at p
        exact pst_d n s (Dp.tup h1 h2) p
      · obtain ⟨n1, s1, d1⟩ := nx_tup s hp (dpa_cut (lo := lo) (hi := hi) h2)
        exact p _ _ _ _ (n.trans n1) s1 d1
  · split at p
    · rename_i ds e
      obtain ⟨a, vs, rfl, h1, h2⟩ := lst_rd s hx e
      refine .inr (.inr ⟨a, vs, rfl, h1, fun pn hp => ?_⟩)
      obtain ⟨n1, s1⟩ := nx_lay s hp (.lst (cutV vs lo hi))
      exact p _ _ _ _ (n.trans n1) s1 ((rv_new (c := .lst (cutD ds lo hi)) s hp ⟨_, rfl, dpa_cut h2⟩).back n)
    · exact p.elim
/-! ### built-ins -/
theorem len_ok {Q : VK} (n : Nx L0 F0 H0 L F H) (s : SV K cl F H L S) (hx : RV K cl L F Hx H x rx) (p : Pst K cl xc (RV K cl) (lenO rx S) L0 F0 H0 W σ Q) : ∃ m : Nat, LenV K x H m ∧ Q (.int m) H := by
  have seq : ∀ ds, sqR S rx = some ds → Pst K cl xc (RV K cl) (okD (.int (ds.length : Int)) S) L0 F0 H0 W σ Q → ∃ m : Nat, LenV K x H m ∧ Q (.int m) H := by
    intro ds e p
    obtain ⟨a, vs, rfl, h1, h2⟩ := sq_rd s hx e
    refine ⟨ds.length, ?_, pst_d n s (.int _) p⟩
    rcases h1 with h1 | h1
    · exact .inl ⟨vs, h1, (dpa_len h2).symm⟩
    · exact .inr ⟨vs, h1, (dpa_len h2).symm⟩
  unfold lenO at p
  split at p
  · rename_i z
    split at p
    · rename_i hz
      cases dp_str hx
      exact ⟨z.length, ⟨hz, rfl⟩, pst_d n s (.int _) p⟩
    · exact p.elim
  · rename_i m
    split at p
    · rename_i ds hm
      exact seq ds (by simp only [sqR, lstR, hm]) p
    · rename_i es hm
      obtain ⟨a, vs, rfl, ha, ho, hd⟩ := mu_lse s hx hm
      exact ⟨es.length, .inl ⟨vs, .inl (.inl ho), hd.1.symm⟩, pst_d n s (.int _) p⟩
    · exact p.elim
  · split at p
    · rename_i ds e
      exact seq ds e p
    · exact p.elim
def rSortedDI : List V → Hp → VK → Prop := fun xs H Q => ∃ (a : Addr) (kvs : List (Key × V)) (ks : List Int), xs = [.ref a] ∧ Rd H a (.dK kvs) ∧ kvs.map (·.1) = ks.map Sum.inl ∧ ks.length < 64 ∧
    ∀ (ys : List Int) (p : Addr), ys.Perm ks → ys.Pairwise (· ≤ ·) → H p = none → Q (.ref p) (upd H p (.lst (ys.map V.int)))
def rSrt (K : PySem.W.Frag) : List V → Hp → VK → Prop := fun xs H Q => rSortedI K xs H Q ∨ (rSortedPS K xs H Q ∨ rSortedDI xs H Q)
theorem CallR.or {X : Cx} {f : Value} {r r' : List V → Hp → VK → Prop} (h : CallR X f r) (h' : CallR X f r') : CallR X f (fun xs H Q => r xs H Q ∨ r' xs H Q) := by
  intro pins s σ H xs us Q I r1 q
  rcases q with q | q
  · exact h pins s σ H xs us Q I r1 q
  · exact h' pins s σ H xs us Q I r1 q
theorem cr_srt {X : Cx} {K : PySem.W.Frag} (hX : X.K = K) (hc : X.calm = true) : CallR X (.builtin "sorted") (rSrt K) := by
  subst hX
  exact CallR.or (cr_sortedIK rfl) (CallR.or (cr_sortedPSK rfl) (call_sortedDI hc))
theorem intsD_v : ∀ {ds : List PyData} {ns : List Int} {vs : List V}, DpAll K F vs ds → intsD ds = some ns → vs = ns.map V.int
  | [], ns, vs, h, e => by
    cases h
    cases e
    rfl
  | d :: ds, ns, vs, h, e => by
    cases h with
    | cons h1 h2 =>
      cases h1 <;> simp only [intsD] at e <;> try cases e
      obtain ⟨ms, hm, rfl⟩ := Option.map_eq_some_iff.mp e
      rw [intsD_v h2 hm]
      rfl
theorem prsD_e : ∀ {ds : List PyData} {ps : List (Int × Int)}, prsD ds = some ps → ds = ps.map encP
  | [], ps, e => by cases e; rfl
  | d :: ds, ps, e => by
    unfold prsD at e
    split at e
    · rename_i h; cases h
    · rename_i i j ds' h
      cases h
      obtain ⟨qs, hq, rfl⟩ := Option.map_eq_some_iff.mp e
      rw [prsD_e hq]
      rfl
    · cases e
theorem srt_ok {Q : VK} {v : V} {r : Rv} (n : Nx L0 F0 H0 L F H) (s : SV K cl F H L S) (hx : RV K cl L F Hx H v r) (p : Pst K cl xc (RV K cl) (srtO r S) L0 F0 H0 W σ Q) : rSrt K [v] H Q := by
  have lst : ∀ ds es, lstR S r = some ds → srtD ds = some es → Pst K cl xc (RV K cl) (.ok (.nw (.lst es)) S) L0 F0 H0 W σ Q → rSrt K [v] H Q := by
    intro ds es e1 e2 p
    obtain ⟨a, vs, rfl, h1, h2⟩ := lst_rd s hx e1
    unfold srtD at e2
    split at e2
    · rename_i ns hn
      cases e2
      have ev := intsD_v h2 hn
      subst ev
      refine .inl ⟨a, ns, rfl, h1, fun ns' q pm pw hq => ?_⟩
      have := sortI_eq pm pw
      subst this
      obtain ⟨n1, s1⟩ := nx_lay s hq (.lst ((sortI ns).map V.int))
      exact p _ _ _ _ (n.trans n1) s1 ((rv_new (c := .lst ((sortI ns).map .int)) s hq ⟨_, rfl, dpa_ints _⟩).back n)
    · split at e2
      · rename_i ps hp
        cases e2
        have ed := prsD_e hp
        subst ed
        refine .inr (.inl ⟨a, vs, ps, fun x p => ∃ t, x = V.ref t ∧ SqT K F t [.int p.1, .int p.2], rfl, h1, dpa_pairs h2, fun x p ⟨t, e, k⟩ => ⟨t, e, sqt_mono s.sub k⟩, fun ys qs' q hy pm pw hq => ?_⟩)
        have e : qs' = sortPr ps := List.Perm.eq_of_pairwise (le := lexP) (fun x y _ _ a b => by
          unfold lexP at a b
          exact Prod.ext (by omega) (by omega)) pw (sortPr_le ps) (pm.trans (sortPr_perm ps).symm)
        subst e
        obtain ⟨n1, s1⟩ := nx_lay s hq (.lst ys)
        exact p _ _ _ _ (n.trans n1) s1 ((rv_new (c := .lst ((sortPr ps).map encP)) s hq ⟨_, rfl, pairs_dpa hy⟩).back n)
      · cases e2
  unfold srtO at p
  split at p
  · rename_i m
    split at p
    · rename_i kvs hm
      split at p
      · rename_i ks hk
        split at p
        · rename_i hl
          obtain ⟨a, rfl, ha⟩ := hx
          obtain ⟨_, h2⟩ := s.st _ a ha
          obtain ⟨_, o, ho, hv, rfl, hpr⟩ := h2 _ hm (by nofun)
          have hkeys : hv.map (·.1) = ks.map Sum.inl := by
            clear ho p lst hm h2
            induction hpr generalizing ks with
            | nil => cases hk; rfl
            | @cons x y xs ys a t ih =>
              obtain ⟨a1, _⟩ := a
              simp only [List.map_cons] at hk
              cases hy : y.1 <;> rw [hy] at hk a1 <;> simp only [intsD] at hk <;> try cases hk
              rename_i i
              obtain ⟨ms, hms, rfl⟩ := Option.map_eq_some_iff.mp hk
              have := ih ms hms (by simp at hl; omega)
              have a2 : x.1 = Sum.inl i := (Option.some.inj a1).symm
              simp only [List.map_cons, this, a2]
          refine .inr (.inr ⟨a, hv, ks, rfl, .inl ho, hkeys, hl, fun ys q pm pw hq => ?_⟩)
          have := sortI_eq pm pw
          subst this
          obtain ⟨n1, s1⟩ := nx_lay s hq (.lst ((sortI ks).map V.int))
          exact p _ _ _ _ (n.trans n1) s1 ((rv_new (c := .lst ((sortI ks).map .int)) s hq ⟨_, rfl, dpa_ints _⟩).back n)
        · exact p.elim
      · exact p.elim
    · rename_i ds hm
      split at p
      · rename_i es he
        exact lst ds es (by simp only [lstR, hm]) he p
      · exact p.elim
    · exact p.elim
  · split at p
    · rename_i ds hd
      split at p
      · rename_i es he
        exact lst ds es hd he p
      · exact p.elim
    · exact p.elim
theorem boolsD_v : ∀ {ds : List PyData} {ns : List Bool} {vs : List V}, DpAll K F vs ds → boolsD ds = some ns → vs = ns.map V.bl
  | [], ns, vs, h, e => by
    cases h
    cases e
    rfl
  | d :: ds, ns, vs, h, e => by
    cases h with
    | cons h1 h2 =>
      cases h1 <;> simp only [boolsD] at e <;> try cases e
      obtain ⟨ms, hm, rfl⟩ := Option.map_eq_some_iff.mp e
      rw [boolsD_v h2 hm]
      rfl
def rBi (K : PySem.W.Frag) : Bif → List V → Hp → VK → Prop
  | .bool => fun xs H Q => ((∃ i, xs = [.int i] ∧ Q (.bl (i != 0)) H) ∨ ∃ k, xs = [.bl k] ∧ Q (.bl k) H) ∨ ∃ (a : Addr) (zs : List V), xs = [.ref a] ∧ SqL K H a zs ∧ Q (.bl (!zs.isEmpty)) H
  | .sum => rSum K
  | .any => rAny K
  | .all => rAll K
  | .sorted => rSrt K
  | .len => fun xs H Q => ∃ x n, xs = [x] ∧ LenV K x H n ∧ Q (.int n) H
  | .max => fun xs H Q => ∃ i j, xs = [.int i, .int j] ∧ Q (.int (if j > i then j else i)) H
  | .min => fun xs H Q => ∃ i j, xs = [.int i, .int j] ∧ Q (.int (if j < i then j else i)) H
  | .ord => fun xs H Q => ∃ x, xs = [.str x] ∧ x.length = 1 ∧ Q (.int (x.cps.getD 0 0 : Nat)) H
  | .int => fun xs H Q => ((∃ i, xs = [.int i] ∧ Q (.int i) H) ∨ ∃ k, xs = [.bl k] ∧ Q (.int (if k then 1 else 0)) H) ∨ ∃ a n, xs = [.str a] ∧ PySem.intText? a = some n ∧ a.length ≤ 640 ∧ Q (.int n) H
  | .list => fun xs H Q => ∃ p ys, xs = [.ref p] ∧ (SqL K H p ys ∨ SqT K H p ys) ∧ ∀ l, H l = none → Q (.ref l) (upd H l (.lst ys))
  | .str => fun xs H Q => (∃ i : Int, xs = [.int i] ∧ i.natAbs.log2 < 1920 ∧ Q (.str (toString i)) H) ∨ ∃ a, xs = [.str a] ∧ Q (.str a) H
  | .repr => fun xs H Q => ∃ x ds, xs = [x] ∧ Dp K H x (.tuple ds) ∧ reprOk (.tuple ds) = true ∧ Q (.str (PyData.shown (.tuple ds))) H
  | .tuple => fun xs H Q => ∃ p ys, xs = [.ref p] ∧ ((SqL K H p ys ∧ ∀ l, H l = none → Q (.ref l) (upd H l (.tup ys))) ∨ (SqT K H p ys ∧ Q (.ref p) H))
  | _ => fun _ _ _ => False
theorem rl1 {vs : List V} {r : Rv} (h : RL K cl L F Hx H vs [r]) : ∃ v, vs = [v] ∧ RV K cl L F Hx H v r := by
  cases h with
  | cons a b => cases b; exact ⟨_, rfl, a⟩
theorem rl2 {vs : List V} {r q : Rv} (h : RL K cl L F Hx H vs [r, q]) : ∃ v w, vs = [v, w] ∧ RV K cl L F Hx H v r ∧ RV K cl L F Hx H w q := by
  cases h with
  | cons a b =>
    cases b with
    | cons c d => cases d; exact ⟨_, _, rfl, a, c⟩
theorem rl0 {vs : List V} (h : RL K cl L F Hx H vs []) : vs = [] := by cases h; rfl
theorem bi_ok {Q : VK} {vs : List V} {rs : List Rv} (b : Bif) (n : Nx L0 F0 H0 L F H) (s : SV K cl F H L S) (hx : RL K cl L F Hx H vs rs) (p : Pst K cl xc (RV K cl) (biO b rs S) L0 F0 H0 W σ Q) : rBi K b vs H Q := by
  unfold biO at p
  split at p
  · obtain ⟨v, rfl, h⟩ := rl1 hx
    obtain ⟨m, h1, h2⟩ := len_ok n s h p
    exact ⟨v, m, rfl, h1, h2⟩
  · obtain ⟨v, rfl, h⟩ := rl1 hx
    exact srt_ok n s h p
  · rename_i i j
    obtain ⟨v, w, rfl, h1, h2⟩ := rl2 hx
    cases dp_int h1; cases dp_int h2
    have : (if j > i then j else i) = Max.max i j := by
      rw [Int.max_def]
      split <;> split <;> omega
    exact ⟨i, j, rfl, by rw [this]; exact pst_d n s (.int _) p⟩
  · rename_i i j
    obtain ⟨v, w, rfl, h1, h2⟩ := rl2 hx
    cases dp_int h1; cases dp_int h2
    have : (if j < i then j else i) = Min.min i j := by
      rw [Int.min_def]
      split <;> split <;> omega
    exact ⟨i, j, rfl, by rw [this]; exact pst_d n s (.int _) p⟩
  · rename_i z
    obtain ⟨v, rfl, h1⟩ := rl1 hx
    cases dp_str h1
    split at p
    · rename_i hz
      exact ⟨z, rfl, hz, pst_d n s (.int _) p⟩
    · exact p.elim
  · rename_i i
    obtain ⟨v, rfl, h1⟩ := rl1 hx
    cases dp_int h1
    exact .inl (.inl ⟨i, rfl, pst_d n s (.int _) p⟩)
  · rename_i k
    obtain ⟨v, rfl, h1⟩ := rl1 hx
    cases dp_bool h1
    exact .inl (.inr ⟨k, rfl, pst_d n s (.int _) p⟩)
  · rename_i a
    obtain ⟨v, rfl, h1⟩ := rl1 hx
    cases dp_str h1
    split at p
    · rename_i m hm
      split at p
      · rename_i hl
        exact .inr ⟨a, m, rfl, hm, hl, pst_d n s (.int _) p⟩
      · exact p.elim
    · exact p.elim
  · split at p
    · rename_i ds e
      obtain ⟨v, rfl, h1⟩ := rl1 hx
      obtain ⟨a, vs, rfl, h2, h3⟩ := sq_rd s h1 e
      refine ⟨a, vs, rfl, h2, fun l hl => ?_⟩
      obtain ⟨n1, s1⟩ := nx_lay s hl (.lst vs)
      exact p _ _ _ _ (n.trans n1) s1 ((rv_new (c := .lst ds) s hl ⟨_, rfl, h3⟩).back n)
    · exact p.elim
  · obtain ⟨v, rfl, h1⟩ := rl1 hx
    cases dp_bool h1
    exact .inl (.inr ⟨_, rfl, pst_d n s (.bl _) p⟩)
  · obtain ⟨v, rfl, h1⟩ := rl1 hx
    cases dp_int h1
    exact .inl (.inl ⟨_, rfl, pst_d n s (.bl _) p⟩)
  · split at p
    · rename_i ds e
      obtain ⟨v, rfl, h1⟩ := rl1 hx
      obtain ⟨a, vs, rfl, h2, h3⟩ := lst_rd s h1 e
      refine .inr ⟨a, vs, rfl, h2, ?_⟩
      have hl := dpa_len h3
      have : vs.isEmpty = ds.isEmpty := by
        cases vs <;> cases ds <;> first | rfl | cases hl
      rw [this]
      exact pst_d n s (.bl _) p
    · exact p.elim
  · split at p
    · rename_i ds e
      obtain ⟨v, rfl, h1⟩ := rl1 hx
      obtain ⟨a, vs, rfl, h2, h3⟩ := lst_rd s h1 e
      split at p
      · rename_i ns hn
        have := intsD_v h3 hn
        subst this
        exact ⟨a, ns, rfl, h2, pst_d n s (.int _) p⟩
      · exact p.elim
    · exact p.elim
  · split at p
    · rename_i ds e
      obtain ⟨v, rfl, h1⟩ := rl1 hx
      obtain ⟨a, vs, rfl, h2, h3⟩ := lst_rd s h1 e
      split at p
      · rename_i ns hn
        have := boolsD_v h3 hn
        subst this
        exact ⟨a, ns, rfl, h2, pst_d n s (.bl _) p⟩
      · exact p.elim
    · exact p.elim
  · split at p
    · rename_i ds e
      obtain ⟨v, rfl, h1⟩ := rl1 hx
      obtain ⟨a, vs, rfl, h2, h3⟩ := lst_rd s h1 e
      split at p
      · rename_i ns hn
        have := boolsD_v h3 hn
        subst this
        exact ⟨a, ns, rfl, h2, pst_d n s (.bl _) p⟩
      · exact p.elim
    · exact p.elim
  · split at p
    · rename_i ds e
      obtain ⟨v, rfl, h1⟩ := rl1 hx
      have hlst : lstR S _ = some ds → rBi K .tuple [v] H Q := fun e => by
        obtain ⟨a, vs, rfl, h2, h3⟩ := lst_rd s h1 e
        refine ⟨a, vs, rfl, .inl ⟨h2, fun l hl => ?_⟩⟩
        obtain ⟨n1, s1, d1⟩ := nx_tup s hl h3
        exact p _ _ _ _ (n.trans n1) s1 d1
      unfold sqR at e
      split at e
      · rename_i ds'
        cases e
        have h1' : Dp K F v (.tuple ds) := h1
        cases h1' with
        | tup g1 g2 => exact ⟨_, _, rfl, .inr ⟨sqt_mono s.sub g1, pst_d n s (Dp.tup g1 g2) p⟩⟩
      · exact hlst e
    · exact p.elim
  · rename_i ds
    obtain ⟨v, rfl, h1⟩ := rl1 hx
    have h1' : Dp K F v (.tuple ds) := h1
    split at p
    · rename_i hd
      exact ⟨v, ds, rfl, dp_mono s.sub _ _ h1', hd, pst_d n s (.str _) p⟩
    · exact p.elim
  · rename_i i
    obtain ⟨v, rfl, h1⟩ := rl1 hx
    cases dp_int h1
    split at p
    · rename_i hi
      exact .inl ⟨i, rfl, hi, pst_d n s (.str _) p⟩
    · exact p.elim
  · rename_i y
    obtain ⟨v, rfl, h1⟩ := rl1 hx
    cases dp_str h1
    exact .inr ⟨y, rfl, pst_d n s (.str _) p⟩
  · exact p.elim
end
end VM
end

section
set_option Elab.async false
set_option linter.all false
set_option maxRecDepth 100000
set_option maxHeartbeats 4000000
namespace VM
open PySem PySem.Spec PyProof.Rows L2 DL

/-! ### methods of built-in types -/
def rJoin (K : PySem.W.Frag) : V → List V → Hp → VK → Prop := fun x xs H Q => ∃ a p, ∃ ys : List Str, x = .str a ∧ xs = [.ref p] ∧ (SqL K H p (ys.map V.str) ∨ SqT K H p (ys.map V.str)) ∧ (ys.map (·.length)).sum + ys.length * a.length ≤ 16777216 ∧ Q (.str (Txt.join a ys)) H
section
variable {K : PySem.W.Frag} {cl : ClT} {xc : XCl} {L L0 : List Addr} {F F0 H H0 Hx Hy : Hp} {S : Stv} {x y : V} {rx ry : Rv} {W : WXK} {σ : L2.St}
theorem strsD_v : ∀ {ds : List D} {ys : List Str} {vs : List V}, DpAll K F vs ds → strsD ds = some ys → vs = ys.map V.str
  | [], ys, vs, h, e => by
    cases h
    cases e
    rfl
  | d :: ds, ys, vs, h, e => by
    cases h with
    | cons h1 h2 =>
      cases h1 <;> simp only [strsD] at e <;> try cases e
      obtain ⟨zs, hz, rfl⟩ := Option.map_eq_some_iff.mp e
      rw [strsD_v h2 hz]
      rfl
theorem join_ok {Q : VK} {vs : List V} {a : Str} {r : Rv} (n : Nx L0 F0 H0 L F H) (s : SV K cl F H L S) (hx : x = .str a) (hy : RL K cl L F Hy H vs [r]) (p : Pst K cl xc (RV K cl) (bmO .join (.v (.str a)) [r] S) L0 F0 H0 W σ Q) : ∃ y, vs = [y] ∧ rJoin K x [y] H Q := by
  obtain ⟨v, rfl, h⟩ := rl1 hy
  unfold bmO at p
  simp only at p
  split at p
  · rename_i ds e
    split at p
    · rename_i ys e2
      split at p
      · rename_i hz
        obtain ⟨b, ws, rfl, h1, h2⟩ := sq_rd s h e
        have := strsD_v h2 e2
        subst this
        exact ⟨_, rfl, a, b, ys, hx, rfl, h1, hz, pst_d n s (.str _) p⟩
      · exact p.elim
    · exact p.elim
  · exact p.elim
theorem append_ok {Q : VK} {vs : List V} {rs : List Rv} (n : Nx L0 F0 H0 L F H) (s : SV K cl F H L S) (hx : RV K cl L F Hx H x rx) (hy : RL K cl L F H0 H vs rs) (p : Pst K cl xc (RV K cl) (bmO .append rx rs S) L0 F0 H0 W σ Q) : rAppend x vs H Q := by
  unfold bmO at p
  split at p
  all_goals try exact p.elim
  all_goals rename_i heq
  all_goals try (cases heq; done)
  · rename_i m d
    obtain ⟨v, rfl, h⟩ := rl1 hy
    split at p
    · rename_i ds hm
      obtain ⟨a, ws, rfl, ha, ho, hd⟩ := mu_lst s hx hm
      split at p
      · rename_i hz
        obtain ⟨n1, s1⟩ := put_cell (c' := .lst (ds ++ [d])) s ha hm (by nofun) ⟨_, rfl, dpa_app hd (.cons h .nil)⟩
        exact ⟨a, ws, v, rfl, rfl, ho, by rw [dpa_len hd]; exact bigL' hz, p _ _ _ _ (n.trans n1) s1 (show Dp K F .non .none from .non)⟩
      · exact p.elim
    · rename_i es hm
      obtain ⟨a, ws, rfl, ha, ho, hd⟩ := mu_lse s hx hm
      split at p
      · rename_i hz
        obtain ⟨n1, s1⟩ := put_cell (c' := .lse (es ++ [.dt d])) s ha hm (by nofun) ⟨_, rfl, ena_app hd (ena_one (e := .dt d) ⟨v, rfl, h⟩)⟩
        exact ⟨a, ws, v, rfl, rfl, ho, by rw [hd.1]; exact bigL' hz, p _ _ _ _ (n.trans n1) s1 (show Dp K F .non .none from .non)⟩
      · exact p.elim
    · exact p.elim
  · rename_i m es
    obtain ⟨v, rfl, h⟩ := rl1 hy
    obtain ⟨F2, n2, s2, d2, sm⟩ := rv_frz n s h (rfl : rvD (.nw (.lst es)) = some (.list es))
    split at p
    · rename_i ds hm
      have hx2 : RV K cl L F2 Hx H x (.mu m) := hx
      obtain ⟨a, ws, rfl, ha, ho, hd⟩ := mu_lst s2 hx2 hm
      split at p
      · rename_i hz
        obtain ⟨n1, s1⟩ := put_cell (c' := .lst (ds ++ [.list es])) s2 ha hm (by nofun) ⟨_, rfl, dpa_app hd (.cons d2 .nil)⟩
        exact ⟨a, ws, v, rfl, rfl, ho, by rw [dpa_len hd]; exact bigL' hz, p _ _ _ _ (n2.trans n1) s1 (show Dp K F2 .non .none from .non)⟩
      · exact p.elim
    · exact p.elim
  · rename_i m k
    obtain ⟨v, rfl, b, rfl, hb⟩ := rl1 hy
    split at p
    · rename_i hm
      obtain ⟨a, ws, rfl, ha, ho, hd⟩ := mu_lst s hx hm
      cases hd
      obtain ⟨n1, s1⟩ := put_cell (c' := .lse [.mu k]) s ha hm (by nofun) ⟨_, rfl, ena_one (e := .mu k) ⟨b, rfl, hb⟩⟩
      exact ⟨a, [], _, rfl, rfl, ho, by decide, p _ _ _ _ (n.trans n1) s1 (show Dp K F .non .none from .non)⟩
    · rename_i es hm
      obtain ⟨a, ws, rfl, ha, ho, hd⟩ := mu_lse s hx hm
      split at p
      · rename_i hz
        obtain ⟨n1, s1⟩ := put_cell (c' := .lse (es ++ [.mu k])) s ha hm (by nofun) ⟨_, rfl, ena_app hd (ena_one (e := .mu k) ⟨b, rfl, hb⟩)⟩
        exact ⟨a, ws, _, rfl, rfl, ho, by rw [hd.1]; exact bigL' hz, p _ _ _ _ (n.trans n1) s1 (show Dp K F .non .none from .non)⟩
      · exact p.elim
    · exact p.elim
theorem ena_take {vs : List V} {es : List En} (k : Nat) (h : EnA K F L vs es) : EnA K F L (vs.take k) (es.take k) := by
  refine ⟨by rw [List.length_take, List.length_take, h.1], fun i e q => ?_⟩
  by_cases hk : i < k
  · rw [List.getElem?_take_of_lt hk] at q
    obtain ⟨o, ho, hq⟩ := h.2 i e q
    refine ⟨o, ?_, hq⟩
    rw [List.map_take, List.getElem?_take_of_lt hk]
    exact ho
  · rw [List.getElem?_eq_none (by rw [List.length_take]; omega)] at q
    cases q
theorem pop_ok {Q : VK} (n : Nx L0 F0 H0 L F H) (s : SV K cl F H L S) (hx : RV K cl L F Hx H x rx) (p : Pst K cl xc (RV K cl) (bmO .pop rx [] S) L0 F0 H0 W σ Q) : rPop x [] H Q := by
  unfold bmO at p
  split at p
  all_goals try exact p.elim
  all_goals rename_i heq heq2
  all_goals try (cases heq; done)
  all_goals try (cases heq2; done)
  rename_i m _
  split at p
  · rename_i ds hm
    obtain ⟨a, ws, rfl, ha, ho, hd⟩ := mu_lst s hx hm
    split at p
    · rename_i d he
      have hl := dpa_len hd
      have hne : ds ≠ [] := fun z => by subst z; cases he
      have e1 : ds[ds.length - 1]? = some d := by rw [← List.getLast?_eq_getElem?]; exact he
      obtain ⟨v, hv, hdp⟩ := dpa_get hd e1
      have ht : DpAll K F ws.dropLast ds.dropLast := by
        rw [List.dropLast_eq_take, List.dropLast_eq_take, hl]
        exact dpa_take _ hd
      obtain ⟨n1, s1⟩ := put_cell (c' := .lst ds.dropLast) s ha hm (by nofun) ⟨_, rfl, ht⟩
      exact ⟨a, ws, v, rfl, rfl, ho, by rw [hl]; exact hv, p _ _ _ _ (n.trans n1) s1 hdp⟩
    · exact p.elim
  · rename_i es hm
    obtain ⟨a, ws, rfl, ha, ho, hd⟩ := mu_lse s hx hm
    have ht : EnA K F L ws.dropLast es.dropLast := by
      rw [List.dropLast_eq_take, List.dropLast_eq_take, hd.1]
      exact ena_take _ hd
    split at p
    · rename_i d he
      have e1 : es[es.length - 1]? = some (.dt d) := by rw [← List.getLast?_eq_getElem?]; exact he
      obtain ⟨v, hv, w, ew, hw⟩ := ena_get hd e1
      cases ew
      obtain ⟨n1, s1⟩ := put_cell (c' := .lse es.dropLast) s ha hm (by nofun) ⟨_, rfl, ht⟩
      exact ⟨a, ws, v, rfl, rfl, ho, by rw [hd.1]; exact hv, p _ _ _ _ (n.trans n1) s1 hw⟩
    · rename_i k he
      have e1 : es[es.length - 1]? = some (.mu k) := by rw [← List.getLast?_eq_getElem?]; exact he
      obtain ⟨v, hv, b, eb, hb⟩ := ena_get hd e1
      cases eb
      obtain ⟨n1, s1⟩ := put_cell (c' := .lse es.dropLast) s ha hm (by nofun) ⟨_, rfl, ht⟩
      exact ⟨a, ws, _, rfl, rfl, ho, by rw [hd.1]; exact hv, p _ _ _ _ (n.trans n1) s1 ⟨b, rfl, hb⟩⟩
    · exact p.elim
  · exact p.elim
theorem findD_v {d : D} {v : V} (h1 : Dp K F v d) (f1 : flatD d = true) : ∀ {ds : List D} {vs : List V} {j : Nat}, DpAll K F vs ds → ds.all flatD = true → findD d ds = some j → ∃ z, vs[j]? = some z ∧ eqV z v = true ∧ ∀ (m : Nat) (z' : V), m < j → vs[m]? = some z' → eqV z' v = false
  | [], vs, j, h, _, e => by cases e
  | e0 :: ds, vs, j, h, g, e => by
    cases h with
    | @cons w _ ws _ a b =>
      rw [List.all_cons, Bool.and_eq_true] at g
      have hq := eqV_eqF a h1 g.1 f1
      unfold findD at e
      split at e
      · rename_i hz
        cases e
        exact ⟨w, rfl, by rw [hq]; exact hz, fun m z' hm _ => absurd hm (Nat.not_lt_zero _)⟩
      · rename_i hz
        obtain ⟨k, hk, rfl⟩ := Option.map_eq_some_iff.mp e
        obtain ⟨z, z1, z2, z3⟩ := findD_v h1 f1 b g.2 hk
        refine ⟨z, by simpa using z1, z2, fun m z' hm he => ?_⟩
        cases m with
        | zero =>
          have : w = z' := by simpa using he
          rw [← this, hq]
          simpa using hz
        | succ m => exact z3 m z' (by omega) (by simpa using he)
theorem index_ok {Q : VK} {vs : List V} {rs : List Rv} (n : Nx L0 F0 H0 L F H) (s : SV K cl F H L S) (hx : RV K cl L F Hx H x rx) (hy : RL K cl L F H0 H vs rs) (p : Pst K cl xc (RV K cl) (bmO .index rx rs S) L0 F0 H0 W σ Q) : rIndex K x vs H Q := by
  unfold bmO at p
  split at p
  all_goals try exact p.elim
  all_goals rename_i heq
  all_goals try (cases heq; done)
  rename_i m d
  obtain ⟨v, rfl, h⟩ := rl1 hy
  have h : Dp K F v d := h
  split at p
  · rename_i ds hm
    obtain ⟨a, ws, rfl, ha, ho, hd⟩ := mu_lst s hx hm
    split at p
    · rename_i hf
      split at p
      · rename_i j hj
        obtain ⟨z, z1, z2, z3⟩ := findD_v h hf.1 hd hf.2 hj
        exact ⟨a, ws, v, j, z, rfl, rfl, .inl (.inl ho), flat_v h hf.1, flat_vs hd hf.2, z1, z2, z3, pst_d n s (.int _) p⟩
      · exact p.elim
    · exact p.elim
  · exact p.elim
theorem reverse_ok {Q : VK} (n : Nx L0 F0 H0 L F H) (s : SV K cl F H L S) (hx : RV K cl L F Hx H x rx) (p : Pst K cl xc (RV K cl) (bmO .reverse rx [] S) L0 F0 H0 W σ Q) : rReverse x [] H Q := by
  unfold bmO at p
  split at p
  all_goals try exact p.elim
  all_goals rename_i heq heq2
  all_goals try (cases heq; done)
  all_goals try (cases heq2; done)
  rename_i m _
  split at p
  · rename_i ds hm
    obtain ⟨a, ws, rfl, ha, ho, hd⟩ := mu_lst s hx hm
    obtain ⟨n1, s1⟩ := put_cell (c' := .lst ds.reverse) s ha hm (by nofun) ⟨_, rfl, dpa_rev hd⟩
    exact ⟨a, ws, rfl, rfl, ho, p _ _ _ _ (n.trans n1) s1 (show Dp K F .non .none from .non)⟩
  · exact p.elim
theorem extend_ok {Q : VK} {vs : List V} {rs : List Rv} (n : Nx L0 F0 H0 L F H) (s : SV K cl F H L S) (hx : RV K cl L F Hx H x rx) (hy : RL K cl L F Hy H vs rs) (p : Pst K cl xc (RV K cl) (bmO .extend rx rs S) L0 F0 H0 W σ Q) : rExt K x vs H Q := by
  unfold bmO at p
  split at p
  all_goals try exact p.elim
  all_goals rename_i heq
  all_goals try (cases heq; done)
  rename_i m r _
  obtain ⟨v, rfl, h⟩ := rl1 hy
  split at p
  · rename_i ds es hm he
    obtain ⟨a, ws, rfl, ha, ho, hd⟩ := mu_lst s hx hm
    obtain ⟨b, us, rfl, h1, h2⟩ := sq_rd s h he
    split at p
    · rename_i hz
      obtain ⟨n1, s1⟩ := put_cell (c' := .lst (ds ++ es)) s ha hm (by nofun) ⟨_, rfl, dpa_app hd h2⟩
      have q := p _ _ _ _ (n.trans n1) s1 (show Dp K F .non .none from .non)
      rcases h1 with h1 | h1
      · exact .inl ⟨a, b, ws, us, rfl, rfl, ho, h1, by rw [dpa_len hd, dpa_len h2]; exact bigL hz, q⟩
      · exact .inr ⟨a, b, ws, us, rfl, rfl, ho, h1, by rw [dpa_len hd, dpa_len h2]; exact bigL hz, q⟩
    · exact p.elim
  · exact p.elim
end
section
variable {K : PySem.W.Frag} {cl : ClT} {xc : XCl} {L L0 : List Addr} {F F0 H H0 Hx : Hp} {S : Stv} {x : V} {rx : Rv} {W : WXK} {σ : L2.St}
theorem key_v {d : D} {k : Key} (h : keyK d = some k) : Dp K F (kV k) d := by
  cases d <;> simp only [keyK] at h <;> first | cases h | skip
  · exact .int _
  · exact .str _
theorem its_dp {F2 H' : Hp} {ts : List Addr} {hk : List (Key × V)} {kvs : List (D × D)} (sm : Same F F2) (hF : ∀ t ∈ ts, F2 t = H' t) (hl : Paired (fun (t : Addr) (q : Key × V) => H' t = some (.tup [kV q.1, q.2])) ts hk) (hp : Paired (fun (p : Key × V) (q : D × D) => keyK q.1 = some p.1 ∧ Dp K F p.2 q.2) hk kvs) : DpAll K F2 (ts.map V.ref) (kvs.map fun p => .tuple [p.1, p.2]) := by
  induction hl generalizing kvs with
  | nil => cases hp; exact .nil
  | @cons t q ts hk h1 h2 ih =>
    cases hp with
    | cons a b =>
      refine .cons (.tup (.inl (.inl ((hF t List.mem_cons_self).trans h1))) (.cons (key_v a.1) (.cons (dp_mono sm _ _ a.2) .nil))) (ih (fun t' ht => hF t' (List.mem_cons_of_mem _ ht)) b)
theorem its_ok {Q : VK} (n : Nx L0 F0 H0 L F H) (s : SV K cl F H L S) (hx : RV K cl L F Hx H x rx) (p : Pst K cl xc (RV K cl) (itsO rx S) L0 F0 H0 W σ Q) : LiI.rItemsL x H Q := by
  unfold itsO at p
  split at p
  · rename_i m
    split at p
    · rename_i kvs hm
      obtain ⟨a, rfl, ha⟩ := hx
      obtain ⟨_, h2⟩ := s.st _ a ha
      obtain ⟨_, o, ho, hk, rfl, hpr⟩ := h2 _ hm (by nofun)
      refine ⟨a, hk, rfl, ho, fun H' q ts keep hq hts hqn hql hpl => ?_⟩
      obtain ⟨F2, hF2⟩ : ∃ F2 : Hp, F2 = fun b => if b ∈ ts then H' b else F b := ⟨_, rfl⟩
      have e1 : ∀ b ∈ ts, F2 b = H' b := fun b hb => by rw [hF2]; exact if_pos hb
      have e2 : ∀ b, b ∉ ts → F2 b = F b := fun b hb => by rw [hF2]; exact if_neg hb
      have nts : ∀ b o, H b = some o → b ∉ ts := fun b o e hb => by rw [hts b hb] at e; cases e
      have sm : Same F F2 := fun b o e => by
        rw [e2 b (nts b o (s.sub _ _ e))]
        exact e
      have nx : Nx L F H L F2 H' := ⟨⟨sm, fun a o e _ => keep a o e, fun a h => by
        cases e : H a with
        | none => exact absurd e h
        | some o => rw [keep a o e]; exact nofun, fun a h h0 => by
        cases e : H a with
        | none => exact absurd e h
        | some o => rw [e2 a (nts a o e)]; exact h0⟩, [], by simp, fun a h => by cases h⟩
      have s2 : SV K cl F2 H' L S := by
        refine ⟨fun b o e => ?_, s.len, s.nd, fun n a e => ?_, fun P hP => sm _ _ (s.tb P hP)⟩
        · by_cases hb : b ∈ ts
          · rw [e1 b hb] at e; exact e
          · rw [e2 b hb] at e; exact keep _ _ (s.sub _ _ e)
        · obtain ⟨h1, h3⟩ := s.st n a e
          refine ⟨nx.stp.live a h1, fun c hc hg => ?_⟩
          obtain ⟨f, o, h4, h5⟩ := h3 c hc hg
          have := h5.mono (R := []) sm
          rw [List.append_nil] at this
          exact ⟨nx.stp.nof a (by rw [h4]; exact nofun) f, o, keep _ _ h4, this⟩
      refine p _ _ _ _ (n.trans nx) s2 ?_
      refine RV.back n ?_
      refine ⟨q, .lst (ts.map V.ref), rfl, hq, fr_L s hq, ?_, hql, _, rfl, its_dp sm e1 hpl hpr⟩
      rw [e2 q hqn]
      exact fr_F s hq
    · exact p.elim
  · exact p.elim
/-! what is walked: numbered, backwards -/
theorem enumD_len : ∀ (k : Nat) (ds : List D), (enumD k ds).length = ds.length
  | _, [] => rfl
  | k, d :: ds => by simp [enumD, enumD_len (k + 1) ds]
theorem enumD_get : ∀ (k : Nat) (ds : List D) (i : Nat), (enumD k ds)[i]? = ds[i]?.map fun d => .tuple [.int ((k + i : Nat) : Int), d]
  | _, [], i => by simp [enumD]
  | k, d :: ds, 0 => by simp [enumD]
  | k, d :: ds, i + 1 => by
    simp only [enumD, List.getElem?_cons_succ, enumD_get (k + 1) ds i]
    rw [show k + 1 + i = k + (i + 1) by omega]
end
end VM
end

section
set_option Elab.async false
set_option linter.all false
set_option maxRecDepth 100000
set_option maxHeartbeats 4000000
namespace VM
open PySem PySem.Spec PyProof.Rows L2 DL

/-- a def's promise: it does what G tells -/
def spV (K : PySem.W.Frag) (cl : ClT) (xc : XCl) (n : Nat) (G : List En → Stv → Out Rv) : Sp := fun vs H Q E => vs.length = n ∧ ∃ F L es S, EnA K F L vs es ∧ SV K cl F H L S ∧ Pst K cl xc (RV K cl) (G es S) L F H (fun c d _ H' => E c d H') [] Q

/-! ### other numbers for the cells -/
section
variable {K : PySem.W.Frag} {cl : ClT} {xc : XCl} {L L0 L' : List Addr} {F F0 H H0 Hx Hy : Hp} {S : Stv} {x y : V} {W : WXK} {σ : L2.St} {f : Nat → Nat}
theorem enok_map {e : En} {o : Option V} (h : ∀ k ∈ refE e, ∀ a, L[k]? = some a → L'[f k]? = some a) (q : EnOk K F L e o) : EnOk K F L' (mapE f e) o := by
  cases e with
  | un => trivial
  | dt d => exact q
  | mu n =>
    obtain ⟨a, e, ha⟩ := q
    exact ⟨a, e, h n (by simp [refE]) a ha⟩
theorem EnA.map {vs : List V} {es : List En} (h : ∀ k ∈ es.flatMap refE, ∀ a, L[k]? = some a → L'[f k]? = some a) (q : EnA K F L vs es) : EnA K F L' vs (es.map (mapE f)) := by
  refine ⟨by rw [List.length_map]; exact q.1, fun i e he => ?_⟩
  rw [List.getElem?_map] at he
  obtain ⟨e0, h0, rfl⟩ := Option.map_eq_some_iff.mp he
  obtain ⟨o, ho, hq⟩ := q.2 i e0 h0
  exact ⟨o, ho, enok_map (fun k hk => h k (List.mem_flatMap.mpr ⟨e0, List.mem_of_getElem? h0, hk⟩)) hq⟩
theorem CellOk.map {o : HO} {c : Cell} (h : ∀ k ∈ refC c, ∀ a, L[k]? = some a → L'[f k]? = some a) (q : CellOk K cl F L o c) : CellOk K cl F L' o (mapC f c) := by
  cases c with
  | lst ds => exact q
  | dct t kvs => cases t <;> exact q
  | dcn t kvs => cases t <;> exact q
  | gone => exact q
  | lse es =>
    obtain ⟨vs, e, hq⟩ := q
    exact ⟨vs, e, EnA.map h hq⟩
  | obj c fs =>
    obtain ⟨dx, vs, e, hn, hq⟩ := q
    refine ⟨dx, vs, e, by rw [hn, List.map_map]; rfl, ?_⟩
    have := EnA.map (f := f) (L' := L') (fun k hk => h k (by
      obtain ⟨e, he, hk⟩ := List.mem_flatMap.mp hk
      obtain ⟨p, hp, rfl⟩ := List.mem_map.mp he
      exact List.mem_flatMap.mpr ⟨p, hp, hk⟩)) hq
    rw [List.map_map] at this ⊢
    exact this
theorem mapC_gone {c : Cell} : mapC f c = .gone ↔ c = .gone := by cases c <;> simp [mapC]
theorem RV.map {v : V} {r : Rv} (h : ∀ k a, L[k]? = some a → L'[f k]? = some a) (hn : ∀ a, H a = none → a ∉ L → a ∉ L') (q : RV K cl L F H Hy v r) : RV K cl L' F H Hy v (mapR f r) := by
  cases r with
  | v d => exact q
  | mu n =>
    obtain ⟨a, e, ha⟩ := q
    exact ⟨a, e, h n a ha⟩
  | nw c =>
    obtain ⟨a, o, e, h0, h1, h2, h3, h4⟩ := q
    exact ⟨a, o, e, h0, hn a h0 h1, h2, h3, h4.map fun k _ => h k⟩
theorem mergeC_len {ks : List Nat} {m : Nat} {S' : Stv} : ∀ (i : Nat) (S : Stv), (mergeC ks m S' i S).length = S.length
  | _, [] => rfl
  | i, c :: cs => by simp [mergeC, mergeC_len (i + 1) cs]
theorem mergeC_get {ks : List Nat} {m : Nat} {S' : Stv} : ∀ (i : Nat) (S : Stv) (n : Nat), (mergeC ks m S' i S)[n]? = S[n]?.map fun c => if i + n ∈ ks then mapC (unK ks m) (S'.getD (ks.idxOf (i + n)) .gone) else c
  | _, [], n => by simp [mergeC]
  | i, c :: cs, 0 => by simp [mergeC]
  | i, c :: cs, n + 1 => by
    have := mergeC_get (ks := ks) (m := m) (S' := S') (i + 1) cs n
    simp only [mergeC, List.getElem?_cons_succ, this]
    rw [show i + 1 + n = i + (n + 1) by omega]
theorem nodupB_iff : ∀ {ks : List Nat}, nodupB ks = true → ks.Nodup
  | [], _ => .nil
  | k :: ks, h => by
    unfold nodupB at h
    rw [Bool.and_eq_true] at h
    refine List.nodup_cons.mpr ⟨by simpa using h.1, nodupB_iff h.2⟩
theorem idx_get {ks : List Nat} {k : Nat} (h : k ∈ ks) : ks[ks.idxOf k]? = some k := by
  have hl := List.idxOf_lt_length_of_mem h
  rw [List.getElem?_eq_getElem hl, List.getElem_idxOf]
theorem callK_ok {cb : CB1} {g : Nat} {m : Nat} {ens : List En} {ks : List Nat} {vs : List V} {Q : VK} (har : ∀ es S, cb g es S ≠ .bad → es.length = m) (n : Nx L0 F0 H0 L F H) (s : SV K cl F H L S) (he : EnA K F L vs ens)
    (p : Pst K cl xc (RV K cl) (callK cb g ens S ks) L0 F0 H0 W σ Q) : spV K cl xc m (cb g) vs H Q (fun c d H' => W c d σ H') := by
  unfold callK at p
  split at p
  case isFalse => exact p.elim
  rename_i hok
  obtain ⟨ho, hin⟩ := hok
  unfold subOk at ho
  rw [Bool.and_eq_true, List.all_eq_true] at ho
  have hnd := nodupB_iff ho.1
  have hks : ∀ k ∈ ks, ∃ c, S[k]? = some c ∧ ∀ j ∈ refC c, j ∈ ks := fun k hk => by
    have := ho.2 k hk
    split at this
    · rename_i c hc
      rw [List.all_eq_true] at this
      exact ⟨c, hc, fun j hj => by simpa using this j hj⟩
    · cases this
  have hkL : ∀ k ∈ ks, k < L.length := fun k hk => by
    obtain ⟨c, hc, _⟩ := hks k hk
    rw [s.len]
    exact (List.getElem?_eq_some_iff.mp hc).1
  have hen : ∀ k ∈ ens.flatMap refE, k ∈ ks := fun k hk => by
    obtain ⟨e, h1, h2⟩ := List.mem_flatMap.mp hk
    have := List.all_eq_true.mp hin e h1
    unfold inK at this
    simpa using List.all_eq_true.mp this k h2
  -- the addresses that the call sees
  obtain ⟨Ls, hLs⟩ : ∃ Ls : List Addr, Ls = ks.map fun k => L.getD k 0 := ⟨_, rfl⟩
  have hLl : Ls.length = ks.length := by rw [hLs, List.length_map]
  have hLg : ∀ (j k : Nat), ks[j]? = some k → Ls[j]? = L[k]? := fun j k hj => by
    have hk := hkL k (List.mem_of_getElem? hj)
    rw [hLs, List.getElem?_map, hj]
    simp [List.getD_eq_getElem?_getD, List.getElem?_eq_getElem hk]
  have hre : ∀ k ∈ ks, ∀ a, L[k]? = some a → Ls[ks.idxOf k]? = some a := fun k hk a ha => by
    rw [hLg _ _ (idx_get hk)]
    exact ha
  have hsub : ∀ a ∈ Ls, a ∈ L := fun a ha => by
    rw [hLs] at ha
    obtain ⟨k, hk, rfl⟩ := List.mem_map.mp ha
    have := hkL k hk
    rw [List.getD_eq_getElem?_getD, List.getElem?_eq_getElem this]
    exact List.getElem_mem this
  have hndL : Ls.Nodup := by
    rw [hLs]
    refine List.pairwise_map.mpr (hnd.imp_of_mem ?_)
    intro a b ha hb hab e
    apply hab
    have h1 := hkL a ha
    have h2 := hkL b hb
    rw [List.getD_eq_getElem?_getD, List.getElem?_eq_getElem h1, List.getD_eq_getElem?_getD, List.getElem?_eq_getElem h2] at e
    exact (List.getElem_inj s.nd).mp e
  have sS : SV K cl F H Ls (subS S ks) := by
    refine ⟨s.sub, by rw [hLl]; simp [subS], hndL, fun j a ha => ?_, s.tb⟩
    have hj : j < ks.length := by rw [← hLl]; exact (List.getElem?_eq_some_iff.mp ha).1
    have hkj : ks[j]? = some ks[j] := List.getElem?_eq_getElem hj
    rw [hLg _ _ hkj] at ha
    obtain ⟨hx, hy⟩ := s.st _ a ha
    refine ⟨hx, fun c hc hg => ?_⟩
    unfold subS at hc
    rw [List.getElem?_map, hkj, Option.map_some] at hc
    obtain ⟨c0, h0, hr⟩ := hks _ (List.getElem_mem hj)
    rw [List.getD_eq_getElem?_getD, h0] at hc
    cases hc
    have h0' : c0 ≠ .gone := fun z => hg (mapC_gone.mpr z)
    obtain ⟨f0, o, h1, h2⟩ := hy c0 h0 h0'
    exact ⟨f0, o, h1, h2.map fun k hk => hre k (hr k hk)⟩
  have eA : EnA K F Ls vs (ens.map (mapE fun j => ks.idxOf j)) := EnA.map (fun k hk => hre k (hen k hk)) he
  have hvl : vs.length = m := by
    rw [eA.1]
    refine har _ (subS S ks) fun z => ?_
    rw [z] at p
    exact p.elim
  refine ⟨hvl, F, Ls, _, _, eA, sS, ?_⟩
  -- what is back
  have back : ∀ {F' H' : Hp} {L1 : List Addr} {S' : Stv}, Nx Ls F H L1 F' H' → SV K cl F' H' L1 S' → ks.length ≤ S'.length → ∃ L2, Nx L F H L2 F' H' ∧ SV K cl F' H' L2 (merge S ks S') ∧ (∀ k a, L1[k]? = some a → L2[unK ks S.length k]? = some a) ∧ (∀ a, H a = none → a ∉ L1 → a ∉ L2) := by
    intro F' H' L1 S' n' s' hl
    obtain ⟨st', R, rfl, fr⟩ := n'
    have hRl : S'.length = ks.length + R.length := by rw [← s'.len, List.length_append, hLl]
    have hun : ∀ k a, (Ls ++ R)[k]? = some a → (L ++ R)[unK ks S.length k]? = some a := fun k a ha => by
      unfold unK
      split
      · rename_i hk
        rw [List.getElem?_append_left (by rw [hLl]; exact hk)] at ha
        have hkj : ks[k]? = some ks[k] := List.getElem?_eq_getElem hk
        rw [hLg _ _ hkj] at ha
        rw [List.getD_eq_getElem?_getD, hkj, Option.getD_some, List.getElem?_append_left (hkL _ (List.getElem_mem hk))]
        exact ha
      · rename_i hk
        rw [List.getElem?_append_right (by rw [hLl]; omega), hLl] at ha
        rw [List.getElem?_append_right (by rw [s.len]; omega), s.len]
        rw [show S.length + (k - ks.length) - S.length = k - ks.length by omega]
        exact ha
    have hRn : ∀ a ∈ R, a ∉ L := fun a ha hm => s.memH hm (fr a ha)
    have hstp : Stp L F H F' H' := ⟨st'.fx, fun a o h hn => st'.keep a o h (fun z => hn (hsub a z)), st'.live, st'.nof⟩
    refine ⟨L ++ R, ⟨hstp, R, rfl, fr⟩, ⟨s'.sub, ?_, ?_, fun k a ha => ?_, s'.tb⟩, hun, fun a h0 h1 hm => ?_⟩
    · unfold merge
      rw [List.length_append, List.length_append, mergeC_len, List.length_map, List.length_drop, s.len]
      omega
    · rw [List.nodup_append]
      refine ⟨s.nd, (List.nodup_append.mp s'.nd).2.1, fun a ha b hb z => ?_⟩
      subst z
      exact hRn a hb ha
    · unfold merge
      by_cases hk : k < L.length
      · rw [List.getElem?_append_left hk] at ha
        have hkS : k < S.length := by rw [← s.len]; exact hk
        refine ⟨st'.live a (s.st k a ha).1, fun c hc hg => ?_⟩
        rw [List.getElem?_append_left (by rw [mergeC_len]; exact hkS), mergeC_get, List.getElem?_eq_getElem hkS, Option.map_some, Nat.zero_add] at hc
        split at hc
        · rename_i hm
          have hidx := List.idxOf_lt_length_of_mem hm
          have hidS : ks.idxOf k < S'.length := by omega
          rw [List.getD_eq_getElem?_getD, List.getElem?_eq_getElem hidS, Option.getD_some] at hc
          cases hc
          have hg' : S'[ks.idxOf k] ≠ .gone := fun z => hg (mapC_gone.mpr z)
          have ha' : (Ls ++ R)[ks.idxOf k]? = some a := by
            rw [List.getElem?_append_left (by rw [hLl]; exact hidx)]
            exact hre k hm a ha
          obtain ⟨f0, o, h1, h2⟩ := (s'.st _ a ha').2 _ (List.getElem?_eq_getElem hidS) hg'
          exact ⟨f0, o, h1, h2.map fun j _ => hun j⟩
        · rename_i hm
          cases hc
          obtain ⟨f0, o, h1, h2⟩ := (s.st k a ha).2 _ (List.getElem?_eq_getElem hkS) hg
          have haLs : a ∉ Ls := fun z => by
            obtain ⟨j, hj⟩ := List.getElem?_of_mem z
            have hjl : j < ks.length := by rw [← hLl]; exact (List.getElem?_eq_some_iff.mp hj).1
            have hkj : ks[j]? = some ks[j] := List.getElem?_eq_getElem hjl
            rw [hLg _ _ hkj] at hj
            have e1 := List.getElem?_eq_some_iff.mp hj
            have e2 := List.getElem?_eq_some_iff.mp ha
            have : ks[j] = k := (List.getElem_inj s.nd).mp (e1.2.trans e2.2.symm)
            exact hm (this ▸ List.getElem_mem hjl)
          exact ⟨st'.nof a (by rw [h1]; exact nofun) f0, o, st'.keep a o h1 haLs, h2.mono st'.fx⟩
      · rw [List.getElem?_append_right (by omega)] at ha
        have hj : ks.length + (k - L.length) < S'.length := by
          have := (List.getElem?_eq_some_iff.mp ha).1
          omega
        have ha' : (Ls ++ R)[ks.length + (k - L.length)]? = some a := by
          rw [List.getElem?_append_right (by omega), hLl, Nat.add_sub_cancel_left]
          exact ha
        obtain ⟨h1, h2⟩ := s'.st _ a ha'
        refine ⟨h1, fun c hc hg => ?_⟩
        rw [List.getElem?_append_right (by rw [mergeC_len, ← s.len]; omega), mergeC_len, List.getElem?_map, List.getElem?_drop, ← s.len, List.getElem?_eq_getElem hj, Option.map_some] at hc
        cases hc
        have hg' : S'[ks.length + (k - L.length)] ≠ .gone := fun z => hg (mapC_gone.mpr z)
        obtain ⟨f0, o, h3, h4⟩ := h2 _ (List.getElem?_eq_getElem hj) hg'
        exact ⟨f0, o, h3, h4.map fun j _ => by
          have := hun j
          rw [← s.len] at this
          exact this⟩
    · rcases List.mem_append.mp hm with q | q
      · exact s.memH q h0
      · exact h1 (List.mem_append_right _ q)
  cases hc : cb g (ens.map (mapE fun j => ks.idxOf j)) (subS S ks) with
  | ok r S' =>
    rw [hc] at p
    simp only at p
    split at p
    · rename_i hl
      intro v F' H' L1 n' s' r'
      obtain ⟨L2, n2, s2, hu, hfr⟩ := back n' s' hl
      exact p v F' H' L2 (n.trans n2) s2 ((r'.map hu hfr).back n)
    · exact p.elim
  | ex c fs S' =>
    rw [hc] at p
    simp only at p
    split at p
    · rename_i hl
      intro d F' H' L1 n' s' x'
      obtain ⟨L2, n2, s2, _⟩ := back n' s' hl
      exact p d F' H' L2 (n.trans n2) s2 (x'.back n)
    · exact p.elim
  | bad => rw [hc] at p; exact p.elim
end
end VM
end

section
set_option Elab.async false
set_option linter.all false
set_option maxRecDepth 100000
set_option maxHeartbeats 4000000
namespace VM
open PySem PySem.Spec PyProof.Rows L2 DL
/-! texts' methods, constant dicts, displays, {x:02x}: what is read -/
def rTm : Tmt → V → List V → Hp → VK → Prop
  | .upper => fun x xs H Q => ∃ a, x = .str a ∧ xs = [] ∧ a.length ≤ 5592405 ∧ Q (.str (Txt.upper a)) H
  | .lower => fun x xs H Q => ∃ a, x = .str a ∧ xs = [] ∧ a.length ≤ 5592405 ∧ Q (.str (Txt.lower a)) H
  | .isupper => fun x xs H Q => ∃ a, x = .str a ∧ xs = [] ∧ True ∧ Q (.bl (Txt.isupper a)) H
  | .find => fun x xs H Q => (∃ a b, x = .str a ∧ xs = [.str b] ∧ Q (.int (Txt.find a b)) H) ∨ ∃ (a b : Str) (i : Int), x = .str a ∧ xs = [.str b, .int i] ∧ Q (.int (Txt.find3 a b i)) H
  | .split => fun x xs H Q => ∃ a b, x = .str a ∧ xs = [.str b] ∧ (b.length == 0) = false ∧ a.length + 2 ≤ sizeLine ∧ rNewStrs (Txt.split a b) H Q
  | .splitM => fun x xs H Q => ∃ (a b : Str) (k : Int), x = .str a ∧ xs = [.str b, .int k] ∧ (b.length == 0) = false ∧ -(2 ^ 63) ≤ k ∧ k < 2 ^ 63 ∧ a.length + 2 ≤ sizeLine ∧ rNewStrs (Txt.splitMax a b k) H Q
  | .part => fun x xs H Q => ∃ a b, x = .str a ∧ xs = [.str b] ∧ (b.length == 0) = false ∧ a.length ≤ sizeLine ∧ ∀ p, H p = none → Q (.ref p) (upd H p (.tup [.str (Txt.partition a b).1, .str (Txt.partition a b).2.1, .str (Txt.partition a b).2.2]))
  | .index => fun x xs H Q => ∃ a b i rest, x = .str a ∧ xs = [.str b] ∧ Builtin.Str.occurrences a b 0 a.length 1 = i :: rest ∧ Q (.int (i : Nat)) H
def tTm (te : TE) (ta : TA) (m : Tmt) : TE := fun σ H Q => te σ H fun x H1 => (∃ a, x = .str a) ∧ ta σ H1 fun ys H2 => rTm m x ys H2 Q
theorem mt_tm {X : Cx} : ∀ m : Tmt, MtR X (match m with | .upper => "str.upper" | .lower => "str.lower" | .isupper => "str.isupper" | .find => "str.find" | .split => "str.split" | .splitM => "str.split" | .part => "str.partition" | .index => "str.index") (rTm m)
  | .upper => mt_upper
  | .lower => mt_lower
  | .isupper => mt_isupper
  | .find => MtR.or mt_find mt_find3
  | .split => mt_split
  | .splitM => mt_splitMax
  | .part => mt_partition
  | .index => mt_sindex
/-- a dict of the module, by its entries -/
def CDk (K : PySem.W.Frag) (w : World) (v : V) (kvs : List (Str × D)) : Prop :=
  ∃ a es n, v = .ref a ∧ (a == sysModules) = false ∧ K.lookup a = some ⟨.type "dict", none, .dict es n, #[]⟩ ∧ PySem.W.KeysLit w.params es.toList ∧ Paired (fun (e : DictEntry) (p : Str × D) => (∃ t, e.key = .str p.1 t) ∧ ∃ v', RelV v' e.val ∧ KDat K v' p.2) es.toList kvs
theorem cdk_find {K : PySem.W.Frag} {z : Str} : ∀ {es : List DictEntry} {kvs : List (Str × D)}, Paired (fun (e : DictEntry) (p : Str × D) => (∃ t, e.key = .str p.1 t) ∧ ∃ v', RelV v' e.val ∧ KDat K v' p.2) es kvs →
    (∀ d, kvs.lookup z = some d → ∃ e, es.find? (·.key.isStr z) = some e ∧ ∃ v', RelV v' e.val ∧ KDat K v' d) ∧ (kvs.lookup z = none → es.find? (·.key.isStr z) = none ∧ es.any (·.refKey) = false)
  | _, _, .nil => ⟨fun d h => (by cases h), fun _ => ⟨rfl, rfl⟩⟩
  | e :: es, p :: kvs, .cons ⟨⟨t, hk⟩, v', hv, hd⟩ r => by
    obtain ⟨h1, h2⟩ := cdk_find (z := z) r
    have hi : e.key.isStr z = (p.1 == z) := by rw [hk]; rfl
    have hr : e.refKey = false := by unfold DictEntry.refKey; rw [hk]
    by_cases hz : p.1 = z
    · have hb : (z == p.1) = true := by rw [hz]; exact beq_self_eq_true _
      have hi' : e.key.isStr z = true := by rw [hi, hz]; exact beq_self_eq_true _
      refine ⟨fun d h => ?_, fun h => ?_⟩
      · rw [List.lookup_cons, hb] at h
        cases h
        exact ⟨e, by rw [List.find?_cons, hi'], v', hv, hd⟩
      · rw [List.lookup_cons, hb] at h
        cases h
    · have hb : (z == p.1) = false := beq_false_of_ne fun q => hz q.symm
      have hi' : e.key.isStr z = false := by rw [hi]; exact beq_false_of_ne hz
      refine ⟨fun d h => ?_, fun h => ?_⟩
      · rw [List.lookup_cons, hb] at h
        obtain ⟨e', he', q⟩ := h1 d h
        exact ⟨e', by rw [List.find?_cons, hi']; exact he', q⟩
      · rw [List.lookup_cons, hb] at h
        obtain ⟨g1, g2⟩ := h2 h
        exact ⟨by rw [List.find?_cons, hi']; exact g1, by rw [List.any_cons, hr, g2]; rfl⟩
theorem cdk_ns {K : PySem.W.Frag} {w : World} {v : V} {kvs : List (Str × D)} (h : CDk K w v kvs) : ∃ a es n, v = .ref a ∧ KDict K w a es n ∧ ∀ z, (∀ d, kvs.lookup z = some d → ∃ u v', PySem.W.nsIn K a z = some (some u) ∧ RelV v' u ∧ KDat K v' d) ∧ (kvs.lookup z = none → PySem.W.nsIn K a z = some none) := by
  obtain ⟨a, es, n, ev, hlow, hat, hlit, hp⟩ := h
  refine ⟨a, es, n, ev, ⟨hat, hlit, hlow⟩, fun z => ?_⟩
  obtain ⟨h1, h2⟩ := cdk_find (z := z) hp
  refine ⟨fun d hd => ?_, fun hd => ?_⟩
  · obtain ⟨e, he, v', hv, hk⟩ := h1 d hd
    refine ⟨e.val, v', ?_, hv, hk⟩
    unfold PySem.W.nsIn
    rw [hat]
    dsimp only
    rw [he]
  · obtain ⟨g1, g2⟩ := h2 hd
    unfold PySem.W.nsIn
    rw [hat]
    dsimp only
    rw [g1]
    dsimp only
    rw [g2]
    rfl
def tCdn (K : PySem.W.Frag) (w : World) (v : V) (kvs : List (Str × D)) (neg : Bool) (te : TE) : TE := fun σ H Q => CDk K w v kvs → te σ H fun x H1 => ∃ z, x = .str z ∧ Q (.bl (if neg = true then !(kvs.lookup z).isSome else (kvs.lookup z).isSome)) H1
def tCdi (K : PySem.W.Frag) (w : World) (v : V) (kvs : List (Str × D)) (te : TE) : TE := fun σ H Q => CDk K w v kvs → te σ H fun x H1 => ∃ z d, x = .str z ∧ kvs.lookup z = some d ∧ ∀ v', KDat K v' d → Q v' H1
def tGlb (K : PySem.W.Frag) (v : V) (d : D) : TE := fun _ H Q => KDat K v d → Q v H
/-! {x:02x} -/
section
open Builtin Builtin.Str Builtin.Int Builtin.Float
def spec02x : Str := "02x"
def fs02x : FormatSpec := ⟨48, 61, none, false, false, some 2, none, none, some 120⟩
theorem parse02x : parseFormatSpec spec02x.cps.toList "int" 62 = .ok fs02x := by rfl
theorem hex_text : ∀ a : Nat, a < 256 → intField' fs02x (decide ((a : Int) < 0)) [] ((Nat.toDigits 16 (a : Int).natAbs).map fun c => (if (120 : Nat) == 88 then c.toUpper else c).toNat) [] 4 = hexS (a : Int) := by decide +kernel
theorem hexS_len (i : Int) : (hexS i).length = 2 := rfl
theorem formatField_hex {prog : Program} {w : World} {A : Around} {E : Value → Shared → Prop} {s : Shared} {a : Int} {t : Tok} {spec : Str} {f : FormatSpec} {Q : Value → Shared → Prop}
    (hp : parseFormatSpec spec.cps.toList "int" 62 = .ok f) (hne : (spec.length == 0) = false)
    (hasc : ((spec.cps.toList.drop 1).any (· ≥ 128) || (spec.cps.getD 0 0 ≥ 128 && !([60, 62, 61, 94] : List Nat).contains (spec.cps.getD 1 0))) = false)
    (hty : f.type.getD (if spec.cps.back? == some 0 then 0 else 100) = 120) (hpr : f.precision = none) (hz : f.noNeg0 = false) (hal : f.alt = false) (hgr : f.grouping = none) (hsg : f.sign = none) (hw : f.width.getD 0 ≤ 100000)
    (hlen : (intField' f (decide (a < 0)) [] ((Nat.toDigits 16 a.natAbs).map fun c => (if (120 : Nat) == 88 then c.toUpper else c).toNat) [] 4).length ≤ sizeLine)
    (h : Q (.str (intField' f (decide (a < 0)) [] ((Nat.toDigits 16 a.natAbs).map fun c => (if (120 : Nat) == 88 then c.toUpper else c).toNat) [] 4) (s.toks + 1)) { s with toks := s.toks + 1 + 1 }) (hsz : spec.length ≤ sizeLine) :
    wpAny (model prog w) A (formatField (.int a t) spec) Q E s := by
  show wpAny _ _ (holding [.int a t] (pyFormat (.int a t) spec)) Q E s
  refine wpAny_holding ?_
  unfold pyFormat
  refine wpAny_bind (wpAny_mkStr ?_ hsz)
  refine wpAny_bind (m := callSpecial? (.int a t) (Str.ofString "__format__") [.str spec s.toks]) (wpAny_callSpecial?_slot (name := Str.ofString "__format__") (typeIs_int _ a t) slot_int_format ?_)
  refine wpAny_call (codeAny_call_builtin slot_int_format.plain entry_int_format (slot_int_format.check _ _ _ _ _ _ _ _ (typeIs_int _ a t) (args_int_format _ _) ?_))
  unfold Builtin.«int.__format__»
  simp only [selfAndOne, noKeywords, Int.intOfSelf, asInt?, asStr?, List.isEmpty_nil, if_true, pure_bind, bind_pure, bind_assoc, hne, hasc, Bool.false_eq_true, if_false,
    show (Value.str spec s.toks == Value.none) = false from rfl]
  refine wpAny_bind (wpAny_typeNameOf (T := "str") (typeIs_str _ _ _) (by decide) fun _ => ?_)
  first | refine wpAny_bind (wpAny_typeNameOfCut_int ?_) | refine wpAny_bind (wpAny_typeNameOf_int ?_)
  simp only [hp, hty]
  rw [if_pos (by decide)]
  show wpAny _ _ (if _ then _ else _) _ _ _
  rw [if_neg (by simp [hpr])]
  show wpAny _ _ (if _ then _ else _) _ _ _
  rw [if_neg (by simp [hz])]
  show wpAny _ _ (if _ then _ else _) _ _ _
  rw [if_neg (by decide)]
  show wpAny _ _ (if _ then _ else _) _ _ _
  rw [if_neg (by decide)]
  have hw' : ¬ (f.width.getD 0 > 100000) := by omega
  show wpAny _ _ (if _ then _ else _) _ _ _
  rw [if_neg hw']
  show wpAny _ _ (retStr _) _ _ _
  unfold retStr
  refine wpAny_bind (wpAny_mkStr (wpAny_pure ?_) ?hs2)
  case hs2 =>
    simp only [hal, Bool.false_eq_true, if_false, show ((16 : Nat) == 10) = false by decide]
    conv => lhs; arg 1; whnf
    simp only [intField', hgr, hsg, hal, Bool.false_eq_true, if_false] at hlen ⊢
    exact hlen
  dsimp only
  refine wpAny_bind (wpAny_isInstance (typeIs_str _ _ _) isSubtype_str_str (wpAny_pure ?_))
  simp only [hal, Bool.false_eq_true, if_false, show ((16 : Nat) == 10) = false by decide]
  conv => arg 1; arg 1; whnf
  simp only [intField', hgr, hsg, hal, Bool.false_eq_true, if_false] at h ⊢
  exact h
theorem formatField_02x {prog : Program} {w : World} {A : Around} {E : Value → Shared → Prop} {s : Shared} {a : Int} {t : Tok} {Q : Value → Shared → Prop} (h0 : 0 ≤ a) (h1 : a < 256) (h : Q (.str (hexS a) (s.toks + 1)) { s with toks := s.toks + 1 + 1 }) :
    wpAny (model prog w) A (formatField (.int a t) spec02x) Q E s := by
  obtain ⟨n, rfl⟩ : ∃ n : Nat, a = (n : Int) := ⟨a.toNat, by omega⟩
  have ht := hex_text n (by omega)
  exact formatField_hex parse02x rfl (by decide) rfl rfl rfl rfl rfl rfl (by decide) (by rw [ht]; show 2 ≤ sizeLine; decide) (by rw [ht]; exact h) (by decide)
end
def tHx2 (te : TE) : TE := fun σ H Q => te σ H fun x H1 => ∃ i : Int, x = .int i ∧ 0 ≤ i ∧ i < 256 ∧ Q (.str (hexS i)) H1
theorem pe_hx2 {X : Cx} {e : Expr} {te : TE} {pos p1 p2 p3 : Pos} {k : Nat} (he : PE X e te) : PE X (.JoinedStr [.FormattedValue e (-1) (some (.JoinedStr [.Constant (.str "02x") k p1] p2)) p3] pos) (tHx2 te) := by
  refine pe_joined1 ⟨fun pins s σ H Q I h => ?_⟩
  refine wpAny_FormattedValue_spec (thn (he.run pins s σ H _ I h) fun v s1 ⟨x, H1, I1, r1, i, ex, h0, h1, q⟩ => ?_)
  subst ex
  obtain ⟨t, rfl⟩ := r1
  refine thn ((pe_joined1 (pe_str (X := X) (x := "02x") (j := k) (pos := p1))).run pins s1 σ H1 (fun y H' => y = .str "02x" ∧ H' = H1) I1 (show _ ∧ _ from ⟨rfl, rfl⟩)) fun u s2 ⟨y, H2, I2, r2, ey, eH⟩ => ?_
  subst ey eH
  obtain ⟨t2, rfl⟩ := r2
  exact ⟨_, t2, rfl, formatField_02x h0 h1 ⟨.str (hexS i), _, (I2.tok _).tok _, ⟨_, rfl⟩, q⟩⟩
section
variable {K : PySem.W.Frag} {cl : ClT} {xc : XCl} {L L0 : List Addr} {F F0 H H0 Hx Hy : Hp} {S : Stv} {x y : V} {rx ry : Rv} {W : WXK} {σ : L2.St}
theorem dpa_strL : ∀ (xs : List Str), DpAll K F (xs.map V.str) (xs.map PyData.str)
  | [] => .nil
  | x :: xs => .cons (.str x) (dpa_strL xs)
theorem tm_lst {Q : VK} {xs : List Str} (n : Nx L0 F0 H0 L F H) (s : SV K cl F H L S) (p : Pst K cl xc (RV K cl) (.ok (.nw (.lst (xs.map .str))) S) L0 F0 H0 W σ Q) : rNewStrs xs H Q := fun q hq => by
  obtain ⟨n2, s2⟩ := nx_lay s hq (.lst (xs.map V.str))
  exact p _ _ _ _ (n.trans n2) s2 ((rv_new (c := .lst (xs.map .str)) s hq ⟨_, rfl, dpa_strL xs⟩).back n)
theorem tm_tup {Q : VK} {ds : List D} {vs : List V} (n : Nx L0 F0 H0 L F H) (s : SV K cl F H L S) (hd : DpAll K F vs ds) (p : Pst K cl xc (RV K cl) (okD (.tuple ds) S) L0 F0 H0 W σ Q) {q : Addr} (hq : H q = none) : Q (.ref q) (upd H q (.tup vs)) := by
  obtain ⟨n2, s2, d2⟩ := nx_tup s hq hd
  exact p _ _ _ _ (n.trans n2) s2 d2
theorem tm_ok (m : Tmt) {Q : VK} {vs : List V} {rs : List Rv} (n : Nx L0 F0 H0 L F H) (s : SV K cl F H L S) (hx : RV K cl L F Hx H x rx) (hy : RL K cl L F Hy H vs rs) (p : Pst K cl xc (RV K cl) (tmO m rx rs S) L0 F0 H0 W σ Q) : rTm m x vs H Q := by
  unfold tmO at p
  split at p
  · cases dp_str hx
    cases hy
    split at p
    · rename_i h; exact ⟨_, rfl, rfl, h, pst_d n s (.str _) p⟩
    · exact p.elim
  · cases dp_str hx
    cases hy
    split at p
    · rename_i h; exact ⟨_, rfl, rfl, h, pst_d n s (.str _) p⟩
    · exact p.elim
  · cases dp_str hx
    cases hy
    exact ⟨_, rfl, rfl, trivial, pst_d n s (.bl _) p⟩
  · cases dp_str hx
    obtain ⟨v, rfl, h⟩ := rl1 hy
    cases dp_str h
    exact .inl ⟨_, _, rfl, rfl, pst_d n s (.int _) p⟩
  · cases dp_str hx
    cases hy with
    | cons h1 hy =>
      obtain ⟨v, rfl, h⟩ := rl1 hy
      cases dp_str h1
      cases dp_int h
      exact .inr ⟨_, _, _, rfl, rfl, pst_d n s (.int _) p⟩
  · cases dp_str hx
    obtain ⟨v, rfl, h⟩ := rl1 hy
    cases dp_str h
    split at p
    · rename_i g; exact ⟨_, _, rfl, rfl, g.1, g.2, tm_lst n s p⟩
    · exact p.elim
  · cases dp_str hx
    cases hy with
    | cons h1 hy =>
      obtain ⟨v, rfl, h⟩ := rl1 hy
      cases dp_str h1
      cases dp_int h
      split at p
      · rename_i g; exact ⟨_, _, _, rfl, rfl, g.1, g.2.1, g.2.2.1, g.2.2.2, tm_lst n s p⟩
      · exact p.elim
  · cases dp_str hx
    obtain ⟨v, rfl, h⟩ := rl1 hy
    cases dp_str h
    split at p
    · rename_i g; exact ⟨_, _, rfl, rfl, g.1, g.2, fun q hq => tm_tup n s (.cons (.str _) (.cons (.str _) (.cons (.str _) .nil))) p hq⟩
    · exact p.elim
  · cases dp_str hx
    obtain ⟨v, rfl, h⟩ := rl1 hy
    cases dp_str h
    split at p
    · rename_i i rest g
      exact ⟨_, _, i, rest, rfl, rfl, g, pst_d n s (.int _) p⟩
    · exact p.elim
  · exact p.elim
end
end VM
end

section
set_option Elab.async false
set_option linter.all false
set_option maxRecDepth 100000
set_option maxHeartbeats 4000000
namespace VM
open PySem PySem.Spec PyProof.Rows L2 DL

/-! ## what the machine is asked, term by term -/
def vD : D → V
  | .int i => .int i
  | .bool b => .bl b
  | .str s => .str s
  | _ => .non
def dG (K : PySem.W.Frag) : Tgt → TG
  | .nm i => gName i
  | .tp is => gTup K is.length (is.foldr (fun i t => gCons (gName i) t) gNil)
def iAll (K : PySem.W.Frag) (te : TE) : TI := fun σ H R => iSeq K te σ H R ∨ iStr te σ H R
structure Env0 where
  K : PySem.W.Frag
  cl : ClT
  xc : XCl
  V0 : Nat → V
  ar : Nat → Nat
  cb : CB
abbrev Env0.sp (E : Env0) (g : Nat) : Sp := spV E.K E.cl E.xc (E.ar g) (E.cb false g)
abbrev Env0.spm (E : Env0) (g : Nat) : Sp := spV E.K E.cl E.xc (E.ar g) (E.cb true g)
def tFldV (cl : ClT) (ta : TE) (f : Str) : TE := fun σ H Q => ta σ H fun x H1 => ∃ a c dx fs v, x = .ref a ∧ H1 a = some (.ins (cl c) dx fs) ∧ fs.lookup f = some v ∧ Q v H1
def rXB (K : PySem.W.Frag) (cl : ClT) : Xmt → V → Hp → Prop
  | .nget, x, H => GDict.GIs cl.pr cl.w K H x
  | .nget2, x, H => GDict.GIs cl.pr cl.w K H x
  | _, _, _ => True
def rXm (K : PySem.W.Frag) (cl : ClT) : Xmt → V → List V → Hp → VK → Prop
  | .nin neg, x, [y], H, Q => GDict.rGin cl.pr cl.w K neg x y H Q
  | .nix, x, [y], H, Q => ∃ v, GDict.GGet cl.pr cl.w K H x y (some v) ∧ Q v H
  | .nget, x, [y], H, Q => ∃ o, GDict.GGet cl.pr cl.w K H x y o ∧ Q (o.getD .non) H
  | .nget2, x, [y, z], H, Q => ∃ o, GDict.GGet cl.pr cl.w K H x y o ∧ Q (o.getD z) H
  | .nkeys, x, [], H, Q => ∃ vs, GDict.GKeys cl.pr cl.w K H x vs ∧ ∀ p, H p = none → Q (.ref p) (upd H p (.lst vs))
  | .nvals, x, [], H, Q => ∃ vs, GDict.GVals cl.pr cl.w K H x vs ∧ ∀ p, H p = none → Q (.ref p) (upd H p (.lst vs))
  | .nlen, x, [], H, Q => ∃ vs, GDict.GVals cl.pr cl.w K H x vs ∧ Q (.int vs.length) H
  | _, _, _, _, _ => False
def tXm (K : PySem.W.Frag) (cl : ClT) (m : Xmt) (te : TE) (ta : TA) : TE := fun σ H Q => te σ H fun x H1 => rXB K cl m x H1 ∧ ta σ H1 fun ys H2 => rXm K cl m x ys H2 Q
section
variable (E : Env0)
/-- sum(f(a, b) for a, b in t) -/
def tSpr (K : PySem.W.Frag) (cl : ClT) (k : Nat) (te : TE) : TE := GSum.tSumG K cl.t (spF k) te
mutual
def dE : Ex → WXK → TE
  | .var i, _ => tVar i
  | .con d, _ => tC (vD d)
  | .glb k d, _ => tGlb E.K (E.V0 k) d
  | .bin o a b, W => tOp (rBin E.K o) (dE a W) (dE b W)
  | .neg a, W => tUn (rU fun i => .int (-i)) (dE a W)
  | .not a, W => tNotT E.K (dE a W)
  | .and a b, W => tAndT E.K (dE a W) (dE b W)
  | .or a b, W => tOrT E.K (dE a W) (dE b W)
  | .ife c a b, W => tIf (dT c W) (dE a W) (dE b W)
  | .cmp o a b, W => tOp (rCmp E.K o) (dE a W) (dE b W)
  | .chn o o' a b c, W => tChain (rCmp E.K o) (rCmp E.K o') (dE a W) (dE b W) (dE c W)
  | .tup es, W => tTup (dA es W)
  | .lst es, W => tLst (dA es W)
  | .dnw t, _ => if t = true then tDNewT else tDNewK
  | .idx a i, W => tOp (rIdx E.K) (dE a W) (dE i W)
  | .slc a lo hi, W => tSl (rSl E.K) (dE a W) (dO lo W) (dO hi W)
  | .call f es, W => fun σ H Q => dA es W σ H fun vs H1 => E.sp f (vs ++ []) H1 Q (fun c d H' => W c d σ H')
  | .mth c f m o es, W => fun σ H Q => dE o W σ H fun x H1 => ∃ a dx fs, x = .ref a ∧ H1 a = some (.ins (E.cl c) dx fs) ∧ fs.lookup m = none ∧ dA es W σ H1 fun vs H2 => E.sp f (x :: (vs ++ [])) H2 Q (fun c d H' => W c d σ H')
  | .mak c f es, W => fun σ H Q => dA es W σ H fun vs H1 => ∀ x dx, H1 x = none → H1 dx = none → dx ≠ x → E.spm f (.ref x :: (vs ++ [])) (upd (upd H1 dx (.own x)) x (.ins (E.cl c) dx [])) (fun v H2 => v = .non ∧ Q (.ref x) H2) (fun c d H' => W c d σ H')
  | .fld m o, W => tFldV E.cl (dE o W) m
  | .isi T a, W => tCB (rIsi E.K) (tCons (dE a W) (tCons (tC (.ty T)) tNil))
  | .bi b es, W => tCB (rBi E.K b) (dA es W)
  | .bm b o es, W => match b with
    | .append => tBM E.K "list" rAppend (dE o W) (dA es W)
    | .extend => tBM E.K "list" (rExt E.K) (dE o W) (dA es W)
    | .pop => tBM0 E.K "list" rPop (dE o W)
    | .reverse => tBM0 E.K "list" rReverse (dE o W)
    | .join => tM1 (rJoin E.K) (dE o W) (dH es W)
    | .index => tBM E.K "list" (rIndex E.K) (dE o W) (dA es W)
    | _ => fun σ H _ => dE o W σ H fun _ _ => False
  | .lc ws g it c e, W => tLc (dI it W) (dG E.K g) (dC c W) (dE e W) ws
  | .lrg a b t, W => match a with
    | .none => if t = true then tTupRg (tRg1 (dE b W)) else tLstRg (tRg1 (dE b W))
    | .some a => if t = true then tTupRg (tRg2 (dE a W) (dE b W)) else tLstRg (tRg2 (dE a W) (dE b W))
  | .own e, W => dE e W
  | .bad, _ => fun _ _ _ => False
  | .its e, W => LiI.tListItems (dE e W)
  | .fst es, W => fun σ H Q => tJs (dJ es W) Str.empty σ H fun out H1 => Q (.str out) H1
  | .spr k a, W => tSpr E.K E.cl k (dE a W)
  | .rsl a, W => tRsl E.K (dE a W) (tPart (tUn (rU fun i => .int (-i)) (tC (.int 1))))
  | .ddc kvs, _ => tDisp (kvs.map fun p => (tC (.str p.1), tC (.str p.2)))
  | .dgt o k x, W => tDGet2 (dE o W) (dE k W) (dE x W)
  | .ndw t, _ => GDict.tGnew E.cl.pr E.cl.w t
  | .xm m e es, W => tXm E.K E.cl m (dE e W) (dA es W)
  | .tm m o es, W => tTm (dE o W) (dA es W) m
  | .cdn neg k kvs e, W => tCdn E.K E.cl.w (E.V0 k) kvs neg (dE e W)
  | .cdi k kvs e, W => tCdi E.K E.cl.w (E.V0 k) kvs (dE e W)
  | .ddg kvs, _ => tDisp (kvs.map fun p => (tC (.str p.1), match p.2.1 with | some i => tGlb E.K (E.V0 i) p.2.2 | none => tC (vD p.2.2)))
  | .dg1 o k, W => tDGet1 (dE o W) (dE k W)
  | .hx2 e, W => tHx2 (dE e W)
def dA : Exs → WXK → TA
  | .nil, _ => tNil
  | .cons e es, W => tCons (dE e W) (dA es W)
  | .star e es, W => GDict.tStr E.K (dE e W) (dA es W)
def dJ : Exs → WXK → List TE
  | .nil, _ => []
  | .cons e es, W => (if isCS e = true then dE e W else tFmt (dE e W)) :: dJ es W
  | .star _ _, _ => [fun _ _ _ => False]
def dH : Exs → WXK → TE
  | .nil, _ => fun _ _ _ => False
  | .cons e _, W => dE e W
  | .star _ _, _ => fun _ _ _ => False
def dO : Exo → WXK → TO
  | .none, _ => tNoPart
  | .some e, W => tPart (dE e W)
def dI : Itr → WXK → TI
  | .sq e, W => iAll E.K (dE e W)
  | .rg1 a, W => iRng1 (tCons (dE a W) tNil)
  | .rrg a, W => iRevR (tRg1 (dE a W))
  | .rg2 a b, W => iRng2 (tCons (dE a W) (tCons (dE b W) tNil))
  | .enu e, W => iEnB E.K (tCons (dE e W) tNil)
  | .rev e, W => RT.iRevA E.K (dE e W)
def dT : Tx → WXK → TT
  | .val e, W => fun σ H Q => dE e W σ H fun x H' => ∃ k, TruV E.K x H' k ∧ Q k H'
  | .not a, W => tNot (dT a W)
  | .and a b, W => tAnd (dT a W) (dT b W)
  | .or a b, W => tOr (dT a W) (dT b W)
  | .cmp o a b, W => tTest (tOp (rCmp E.K o) (dE a W) (dE b W))
  | .chn o o' a b c, W => tTest (tChain (rCmp E.K o) (rCmp E.K o') (dE a W) (dE b W) (dE c W))
def dC : Txo → WXK → TT
  | .none, _ => tYes
  | .some t, W => dT t W
end
end

/-! ## what is walked -/
structure JV (K : PySem.W.Frag) (cl : ClT) (F : Hp) (L : List Addr) (J : It) (is : Items) : Prop where
  go : ∀ F2 H2 R S2 (i : Nat), Same F F2 → SV K cl F2 H2 (L ++ R) S2 → chk is.2 S2 → i < is.1.length → J.go i H2 ∧ ∀ x H', J.yld i H2 x H' → ∃ F3 e, Nx (L ++ R) F2 H2 (L ++ R) F3 H' ∧ SV K cl F3 H' (L ++ R) S2 ∧ is.1[i]? = some e ∧ EnOk K F3 (L ++ R) e (some x)
  stop : ∀ F2 H2 R S2, Same F F2 → SV K cl F2 H2 (L ++ R) S2 → chk is.2 S2 → J.stop is.1.length H2
def RJ (K : PySem.W.Frag) (cl : ClT) : List Addr → Hp → Hp → Hp → It → Items → Prop := fun L' F' _ _ J is => JV K cl F' L' J is
theorem bkJ {K : PySem.W.Frag} {cl : ClT} : Bk (RJ K cl) := fun _ _ _ _ _ _ _ _ _ _ _ _ r => r
section
variable {K : PySem.W.Frag} {cl : ClT} {xc : XCl} {L L0 : List Addr} {F F0 H H0 Hx Hy : Hp} {S : Stv} {x y : V} {rx ry : Rv} {W : WXK} {σ : L2.St} {ρ : Rho}
theorem ena_dp {vs : List V} {ds : List D} (h : DpAll K F vs ds) : EnA K F L vs (ds.map .dt) := by
  refine ⟨by rw [List.length_map]; exact dpa_len h, fun i e he => ?_⟩
  rw [List.getElem?_map] at he
  obtain ⟨d, hd, rfl⟩ := Option.map_eq_some_iff.mp he
  obtain ⟨v, hv, hq⟩ := dpa_get h hd
  exact ⟨some v, by rw [List.getElem?_map, hv]; rfl, v, rfl, hq⟩
theorem jv_l {a : Addr} {is : Items} (h : ∀ F2 H2 R S2, Same F F2 → SV K cl F2 H2 (L ++ R) S2 → chk is.2 S2 → ∃ vs, SqL K H2 a vs ∧ EnA K F2 (L ++ R) vs is.1) : JV K cl F L (Itl K a) is where
  go := fun F2 H2 R S2 i sm s c hi => by
    obtain ⟨vs, h1, h2⟩ := h F2 H2 R S2 sm s c
    obtain ⟨v, hv, hd⟩ := ena_get h2 (List.getElem?_eq_getElem hi)
    exact ⟨⟨vs, v, h1, hv⟩, fun x H' y => by
      obtain ⟨rfl, y⟩ := y
      have := y vs h1
      rw [hv] at this
      cases this
      exact ⟨F2, _, .refl _ _ _, s, List.getElem?_eq_getElem hi, hd⟩⟩
  stop := fun F2 H2 R S2 sm s c => by
    obtain ⟨vs, h1, h2⟩ := h F2 H2 R S2 sm s c
    exact ⟨vs, h1, by rw [h2.1]; exact Nat.le_refl _⟩
theorem jv_t {a : Addr} {is : Items} (h : ∀ F2 H2 R S2, Same F F2 → SV K cl F2 H2 (L ++ R) S2 → chk is.2 S2 → ∃ vs, SqT K H2 a vs ∧ EnA K F2 (L ++ R) vs is.1) : JV K cl F L (Itt K a) is where
  go := fun F2 H2 R S2 i sm s c hi => by
    obtain ⟨vs, h1, h2⟩ := h F2 H2 R S2 sm s c
    obtain ⟨v, hv, hd⟩ := ena_get h2 (List.getElem?_eq_getElem hi)
    exact ⟨⟨vs, v, h1, hv⟩, fun x H' y => by
      obtain ⟨rfl, y⟩ := y
      have := y vs h1
      rw [hv] at this
      cases this
      exact ⟨F2, _, .refl _ _ _, s, List.getElem?_eq_getElem hi, hd⟩⟩
  stop := fun F2 H2 R S2 sm s c => by
    obtain ⟨vs, h1, h2⟩ := h F2 H2 R S2 sm s c
    exact ⟨vs, h1, by rw [h2.1]; exact Nat.le_refl _⟩
theorem jv_s {z : Str} {c : Option (Nat × Cell)} : JV K cl F L (Its z) (z.cps.toList.map fun c => .dt (.str ⟨#[c]⟩), c) where
  go := fun F2 H2 R S2 i sm s c hi => by
    simp only [List.length_map, Array.length_toList] at hi
    refine ⟨hi, fun x H' y => ?_⟩
    obtain ⟨rfl, c, hc, rfl⟩ := y
    refine ⟨F2, .dt (.str ⟨#[c]⟩), .refl _ _ _, s, ?_, _, rfl, .str _⟩
    rw [List.getElem?_map, Array.getElem?_toList, hc]
    rfl
  stop := fun F2 H2 R S2 sm s c => by
    show z.cps.size ≤ _
    simp
theorem jv_r {lo : Int} {n : Nat} : JV K cl F L (L2.Itr lo n) ((rngD lo n).map .dt, none) where
  go := fun F2 H2 R S2 i sm s _ hi => by
    simp only [List.length_map, rngD_len] at hi
    exact ⟨hi, fun x H' y => by
      obtain ⟨rfl, rfl⟩ := y
      exact ⟨F2, .dt (.int (lo + (i : Int))), .refl _ _ _, s, by rw [List.getElem?_map, rngD_get hi]; rfl, _, rfl, .int _⟩⟩
  stop := fun F2 H2 R S2 sm s _ => by
    show n ≤ _
    simp [rngD_len]
theorem jv_c {lo : Int} {n : Nat} (hlo : lo = (n : Int) - 1) : JV K cl F L (L2.Itc lo (-1) n) ((rngD 0 n).reverse.map .dt, none) where
  go := fun F2 H2 R S2 i sm s _ hi => by
    simp only [List.length_map, List.length_reverse, rngD_len] at hi
    exact ⟨hi, fun x H' y => by
      obtain ⟨rfl, rfl⟩ := y
      refine ⟨F2, .dt (.int (lo + (i : Int) * (-1))), .refl _ _ _, s, ?_, _, rfl, .int _⟩
      have e : (0 : Int) + ((n - 1 - i : Nat) : Int) = (n : Int) - 1 + (i : Int) * (-1) := by omega
      rw [List.getElem?_map, List.getElem?_reverse (by rw [rngD_len]; exact hi), rngD_len, rngD_get (by omega), hlo, e]
      rfl⟩
  stop := fun F2 H2 R S2 sm s _ => by
    show n ≤ _
    simp [rngD_len]
theorem app_get {R : List Addr} {n : Nat} {a : Addr} (h : L[n]? = some a) : (L ++ R)[n]? = some a := by
  rw [List.getElem?_append_left (List.getElem?_eq_some_iff.mp h).1]
  exact h
/-- the items of a value: the way of a list, a tuple; the way of a text -/
theorem items_ok {R : It → Hp → Prop} (n : Nx L0 F0 H0 L F H) (s : SV K cl F H L S) (hx : RV K cl L F H0 H x rx) (p : Pst K cl xc (RJ K cl) (itemsO rx S) L0 F0 H0 W σ R) :
    (∃ z, rx = .v (.str z) ∧ ∃ z, x = .str z ∧ R (Its z) H) ∨ ∃ a, x = .ref a ∧ (((∃ xs, SqL K H a xs) ∧ R (Itl K a) H) ∨ ((∃ xs, SqT K H a xs) ∧ R (Itt K a) H)) := by
  have lst : ∀ (ds : List D) (c : Option (Nat × Cell)) (F2 : Hp), Nx L0 F0 H0 L F2 H → SV K cl F2 H L S → Dp K F2 x (.list ds) → Pst K cl xc (RJ K cl) (.ok (ds.map .dt, none) S) L0 F0 H0 W σ R → ∃ a, x = .ref a ∧ (((∃ xs, SqL K H a xs) ∧ R (Itl K a) H) ∨ ((∃ xs, SqT K H a xs) ∧ R (Itt K a) H)) := by
    intro ds c F2 n2 s2 hd p
    cases hd with
    | lst h1 h2 =>
      rename_i a vs
      exact ⟨a, rfl, .inl ⟨⟨vs, s2.sub.seq h1⟩, p _ _ _ _ n2 s2 (jv_l fun F3 H3 R S3 sm s3 _ => ⟨vs, s3.sub.seq (sm.seq h1), ena_dp (dpa_mono sm _ _ h2)⟩)⟩⟩
  unfold itemsO at p
  split at p
  · rename_i ds
    exact .inr (lst ds none F n s hx p)
  · rename_i ds
    have hx' : Dp K F x (.tuple ds) := hx
    cases hx' with
    | tup h1 h2 =>
      rename_i a vs
      exact .inr ⟨a, rfl, .inr ⟨⟨vs, sqt_mono s.sub h1⟩, p _ _ _ _ n s (jv_t fun F3 H3 R S3 sm s3 _ => ⟨vs, sqt_mono s3.sub (sqt_mono sm h1), ena_dp (dpa_mono sm _ _ h2)⟩)⟩⟩
  · rename_i ds
    obtain ⟨F2, n2, s2, d2, sm⟩ := rv_frz n s hx (rfl : rvD (.nw (.lst ds)) = some (.list ds))
    exact .inr (lst ds none F2 n2 s2 d2 p)
  · rename_i z
    cases dp_str hx
    exact .inl ⟨z, rfl, z, rfl, p _ _ _ _ n s jv_s⟩
  · rename_i m
    split at p
    · rename_i ds hm
      obtain ⟨a, ws, rfl, ha, ho, hd⟩ := mu_lst s hx hm
      refine .inr ⟨a, rfl, .inl ⟨⟨ws, .inl (.inl ho)⟩, p _ _ _ _ n s (jv_l fun F3 H3 R S3 sm s3 c => ?_)⟩⟩
      obtain ⟨a', ws', e1, ha', ho', hd'⟩ := mu_lst (Hx := H3) s3 ⟨a, rfl, app_get ha⟩ c
      cases e1
      exact ⟨ws', .inl (.inl ho'), ena_dp hd'⟩
    · rename_i es hm
      obtain ⟨a, ws, rfl, ha, ho, hd⟩ := mu_lse s hx hm
      refine .inr ⟨a, rfl, .inl ⟨⟨ws, .inl (.inl ho)⟩, p _ _ _ _ n s (jv_l fun F3 H3 R S3 sm s3 c => ?_)⟩⟩
      obtain ⟨a', ws', e1, ha', ho', hd'⟩ := mu_lse (Hx := H3) s3 ⟨a, rfl, app_get ha⟩ c
      cases e1
      exact ⟨ws', .inl (.inl ho'), hd'⟩
    · exact p.elim
  · exact p.elim
theorem jv_e {a : Addr} {ds : List D} {c : Option (Nat × Cell)} (h : ∀ F2 H2 R S2, Same F F2 → SV K cl F2 H2 (L ++ R) S2 → chk c S2 → ∃ vs, SqL K H2 a vs ∧ DpAll K F2 vs ds) : JV K cl F L (Ite K a) ((enumD 0 ds).map .dt, c) where
  go := fun F2 H2 R S2 i sm s c hi => by
    obtain ⟨vs, h1, h2⟩ := h F2 H2 R S2 sm s c
    simp only [List.length_map, enumD_len] at hi
    obtain ⟨v, hv, hd⟩ := dpa_get h2 (List.getElem?_eq_getElem hi)
    refine ⟨⟨vs, v, h1, hv⟩, fun x H' y => ?_⟩
    obtain ⟨T, w, rfl, hT, rfl, y⟩ := y
    have := y vs h1
    rw [hv] at this
    cases this
    obtain ⟨n1, s1, d1⟩ := nx_tup s hT (vs := [.int ((i : Nat) : Int), v]) (ds := [.int ((i : Nat) : Int), ds[i]]) (.cons (.int _) (.cons hd .nil))
    refine ⟨_, .dt (.tuple [.int ((i : Nat) : Int), ds[i]]), n1, s1, ?_, _, rfl, d1⟩
    rw [List.getElem?_map, enumD_get, List.getElem?_eq_getElem hi]
    simp
  stop := fun F2 H2 R S2 sm s c => by
    obtain ⟨vs, h1, h2⟩ := h F2 H2 R S2 sm s c
    refine ⟨vs, h1, ?_⟩
    simp only [List.length_map, enumD_len, dpa_len h2]
    exact Nat.le_refl _
theorem jv_eT {a : Addr} {ds : List D} {c : Option (Nat × Cell)} (h : ∀ F2 H2 R S2, Same F F2 → SV K cl F2 H2 (L ++ R) S2 → chk c S2 → ∃ vs, SqT K H2 a vs ∧ DpAll K F2 vs ds) : JV K cl F L (Iet K a) ((enumD 0 ds).map .dt, c) where
  go := fun F2 H2 R S2 i sm s c hi => by
    obtain ⟨vs, h1, h2⟩ := h F2 H2 R S2 sm s c
    simp only [List.length_map, enumD_len] at hi
    obtain ⟨v, hv, hd⟩ := dpa_get h2 (List.getElem?_eq_getElem hi)
    refine ⟨⟨vs, v, h1, hv⟩, fun x H' y => ?_⟩
    obtain ⟨T, w, rfl, hT, rfl, y⟩ := y
    have := y vs h1
    rw [hv] at this
    cases this
    obtain ⟨n1, s1, d1⟩ := nx_tup s hT (vs := [.int ((i : Nat) : Int), v]) (ds := [.int ((i : Nat) : Int), ds[i]]) (.cons (.int _) (.cons hd .nil))
    refine ⟨_, .dt (.tuple [.int ((i : Nat) : Int), ds[i]]), n1, s1, ?_, _, rfl, d1⟩
    rw [List.getElem?_map, enumD_get, List.getElem?_eq_getElem hi]
    simp
  stop := fun F2 H2 R S2 sm s c => by
    obtain ⟨vs, h1, h2⟩ := h F2 H2 R S2 sm s c
    refine ⟨vs, h1, ?_⟩
    simp only [List.length_map, enumD_len, dpa_len h2]
    exact Nat.le_refl _
theorem enu_ok {R : It → Hp → Prop} (n : Nx L0 F0 H0 L F H) (s : SV K cl F H L S) (hx : RV K cl L F H0 H x rx) (p : Pst K cl xc (RJ K cl) (enuO rx S) L0 F0 H0 W σ R) : ∃ a, x = .ref a ∧ ((∃ xs, SqL K H a xs) ∧ R (Ite K a) H ∨ (∃ xs, SqT K H a xs) ∧ R (Iet K a) H) := by
  have lst : ∀ (ds : List D) (F2 : Hp), Nx L0 F0 H0 L F2 H → SV K cl F2 H L S → Dp K F2 x (.list ds) → Pst K cl xc (RJ K cl) (.ok ((enumD 0 ds).map .dt, none) S) L0 F0 H0 W σ R → ∃ a, x = .ref a ∧ ((∃ xs, SqL K H a xs) ∧ R (Ite K a) H ∨ (∃ xs, SqT K H a xs) ∧ R (Iet K a) H) := by
    intro ds F2 n2 s2 hd p
    cases hd with
    | lst h1 h2 =>
      rename_i a vs
      exact ⟨a, rfl, .inl ⟨⟨vs, s2.sub.seq h1⟩, p _ _ _ _ n2 s2 (jv_e fun F3 H3 R S3 sm s3 _ => ⟨vs, s3.sub.seq (sm.seq h1), dpa_mono sm _ _ h2⟩)⟩⟩
  unfold enuO at p
  split at p
  · rename_i ds
    exact lst ds F n s hx p
  · rename_i ds
    have hx' : Dp K F x (.tuple ds) := hx
    cases hx' with
    | tup h1 h2 =>
      rename_i a vs
      exact ⟨a, rfl, .inr ⟨⟨vs, sqt_mono s.sub h1⟩, p _ _ _ _ n s (jv_eT fun F3 H3 R S3 sm s3 _ => ⟨vs, sqt_mono s3.sub (sqt_mono sm h1), dpa_mono sm _ _ h2⟩)⟩⟩
  · rename_i ds
    obtain ⟨F2, n2, s2, d2, sm⟩ := rv_frz n s hx (rfl : rvD (.nw (.lst ds)) = some (.list ds))
    exact lst ds F2 n2 s2 d2 p
  · rename_i m
    split at p
    · rename_i ds hm
      obtain ⟨a, ws, rfl, ha, ho, hd⟩ := mu_lst s hx hm
      refine ⟨a, rfl, .inl ⟨⟨ws, .inl (.inl ho)⟩, p _ _ _ _ n s (jv_e fun F3 H3 R S3 sm s3 c => ?_)⟩⟩
      obtain ⟨a', ws', e1, ha', ho', hd'⟩ := mu_lst (Hx := H3) s3 ⟨a, rfl, app_get ha⟩ c
      cases e1
      exact ⟨ws', .inl (.inl ho'), hd'⟩
    · exact p.elim
  · exact p.elim
theorem rev_get {ds : List D} {i : Nat} (hi : i < ds.length) : ds.reverse[i]? = ds[ds.length - 1 - i]? := List.getElem?_reverse hi
theorem jv_v {a : Addr} {ds : List D} {m : Nat} {c : Option (Nat × Cell)} (hm : m = ds.length) (h : ∀ F2 H2 R S2, Same F F2 → SV K cl F2 H2 (L ++ R) S2 → chk c S2 → ∃ vs, SqL K H2 a vs ∧ DpAll K F2 vs ds) : JV K cl F L (Itv K a m) (ds.reverse.map .dt, c) where
  go := fun F2 H2 R S2 i sm s c hi => by
    subst hm
    obtain ⟨vs, h1, h2⟩ := h F2 H2 R S2 sm s c
    simp only [List.length_map, List.length_reverse] at hi
    obtain ⟨v, hv, hd⟩ := dpa_get h2 (List.getElem?_eq_getElem (show ds.length - 1 - i < ds.length by omega))
    refine ⟨⟨hi, vs, v, h1, hv⟩, fun x H' y => ?_⟩
    obtain ⟨rfl, y⟩ := y
    have := y vs h1
    rw [hv] at this
    cases this
    refine ⟨F2, .dt ds[ds.length - 1 - i], .refl _ _ _, s, ?_, _, rfl, hd⟩
    rw [List.getElem?_map, rev_get hi, List.getElem?_eq_getElem (show ds.length - 1 - i < ds.length by omega)]
    rfl
  stop := fun F2 H2 R S2 sm s c => by
    subst hm
    show ds.length ≤ _
    simp
theorem jv_vt {a : Addr} {ds : List D} {m : Nat} {c : Option (Nat × Cell)} (hm : m = ds.length) (h : ∀ F2 H2 R S2, Same F F2 → SV K cl F2 H2 (L ++ R) S2 → chk c S2 → ∃ vs, SqT K H2 a vs ∧ DpAll K F2 vs ds) : JV K cl F L (RT.ItvT K a m) (ds.reverse.map .dt, c) where
  go := fun F2 H2 R S2 i sm s c hi => by
    subst hm
    obtain ⟨vs, h1, h2⟩ := h F2 H2 R S2 sm s c
    simp only [List.length_map, List.length_reverse] at hi
    obtain ⟨v, hv, hd⟩ := dpa_get h2 (List.getElem?_eq_getElem (show ds.length - 1 - i < ds.length by omega))
    refine ⟨⟨hi, vs, v, h1, hv⟩, fun x H' y => ?_⟩
    obtain ⟨rfl, y⟩ := y
    have := y vs h1
    rw [hv] at this
    cases this
    refine ⟨F2, .dt ds[ds.length - 1 - i], .refl _ _ _, s, ?_, _, rfl, hd⟩
    rw [List.getElem?_map, rev_get hi, List.getElem?_eq_getElem (show ds.length - 1 - i < ds.length by omega)]
    rfl
  stop := fun F2 H2 R S2 sm s c => by
    subst hm
    show ds.length ≤ _
    simp
theorem rev_ok {R : It → Hp → Prop} (n : Nx L0 F0 H0 L F H) (s : SV K cl F H L S) (hx : RV K cl L F H0 H x rx) (p : Pst K cl xc (RJ K cl) (revO rx S) L0 F0 H0 W σ R) : ∃ (a : Addr) (xs : List V), x = .ref a ∧ ((SqL K H a xs ∧ R (Itv K a xs.length) H) ∨ (SqT K H a xs ∧ R (RT.ItvT K a xs.length) H)) := by
  have lst : ∀ (ds : List D) (F2 : Hp), Nx L0 F0 H0 L F2 H → SV K cl F2 H L S → Dp K F2 x (.list ds) → Pst K cl xc (RJ K cl) (.ok (ds.reverse.map .dt, none) S) L0 F0 H0 W σ R → ∃ (a : Addr) (xs : List V), x = .ref a ∧ ((SqL K H a xs ∧ R (Itv K a xs.length) H) ∨ (SqT K H a xs ∧ R (RT.ItvT K a xs.length) H)) := by
    intro ds F2 n2 s2 hd p
    cases hd with
    | lst h1 h2 =>
      rename_i a vs
      exact ⟨a, vs, rfl, .inl ⟨s2.sub.seq h1, p _ _ _ _ n2 s2 (jv_v (dpa_len h2) fun F3 H3 R S3 sm s3 _ => ⟨vs, s3.sub.seq (sm.seq h1), dpa_mono sm _ _ h2⟩)⟩⟩
  unfold revO at p
  split at p
  · rename_i ds
    exact lst ds F n s hx p
  · rename_i ds
    have hx' : Dp K F x (.tuple ds) := hx
    cases hx' with
    | tup h1 h2 =>
      rename_i a vs
      exact ⟨a, vs, rfl, .inr ⟨sqt_mono s.sub h1, p _ _ _ _ n s (jv_vt (dpa_len h2) fun F3 H3 R S3 sm s3 _ => ⟨vs, sqt_mono s3.sub (sqt_mono sm h1), dpa_mono sm _ _ h2⟩)⟩⟩
  · rename_i ds
    obtain ⟨F2, n2, s2, d2, sm⟩ := rv_frz n s hx (rfl : rvD (.nw (.lst ds)) = some (.list ds))
    exact lst ds F2 n2 s2 d2 p
  · rename_i m
    split at p
    · rename_i ds hm
      obtain ⟨a, ws, rfl, ha, ho, hd⟩ := mu_lst s hx hm
      refine ⟨a, ws, rfl, .inl ⟨.inl (.inl ho), p _ _ _ _ n s (jv_v (dpa_len hd) fun F3 H3 R S3 sm s3 c => ?_)⟩⟩
      obtain ⟨a', ws', e1, ha', ho', hd'⟩ := mu_lst (Hx := H3) s3 ⟨a, rfl, app_get ha⟩ c
      cases e1
      exact ⟨ws', .inl (.inl ho'), hd'⟩
    · exact p.elim
  · exact p.elim
/-! ## targets -/
theorem tgs_ok : ∀ {is : List Nat} {ds : List D} {vs : List V} {σ : L2.St} {ρ : Rho} {Q : L2.St → Hp → Prop}, ds.length = is.length → EOk K F L σ ρ → DpAll K F vs ds → (∀ σ', EOk K F L σ' (bindL is ds ρ) → Q σ' H) → (is.foldr (fun i t => gCons (gName i) t) gNil) vs σ H Q
  | [], [], vs, σ, ρ, Q, _, E, h, q => by
    cases h
    exact ⟨rfl, q σ E⟩
  | i :: is, d :: ds, vs, σ, ρ, Q, hl, E, h, q => by
    cases h with
    | cons h1 h2 => exact ⟨_, _, rfl, tgs_ok (by simpa using hl) (E.set i (e := .dt d) ⟨_, rfl, h1⟩) h2 q⟩
theorem tgt_ok {g : Tgt} {e : En} {ρ1 : Rho} {v : V} {Q : L2.St → Hp → Prop} (hb : bindE g e ρ = some ρ1) (sm : Same F H) (E : EOk K F L σ ρ) (he : EnOk K F L e (some v)) (q : ∀ σ', EOk K F L σ' ρ1 → Q σ' H) : dG K g v σ H Q := by
  cases g with
  | nm i =>
    cases hb
    exact q _ (E.set i he)
  | tp is =>
    cases e with
    | un => cases hb
    | mu n => cases hb
    | dt d =>
      cases d with
      | tuple ds =>
        simp only [bindE] at hb
        split at hb
        · rename_i hl
          cases hb
          obtain ⟨w, ew, hd⟩ := he
          cases ew
          cases hd with
          | tup h1 h2 => exact ⟨_, _, rfl, sqt_mono sm h1, by rw [dpa_len h2]; exact hl, tgs_ok hl E h2 q⟩
        · cases hb
      | none => cases hb
      | bool _ => cases hb
      | int _ => cases hb
      | str _ => cases hb
      | list _ => cases hb
      | dict _ => cases hb
end
end VM
end

section
set_option Elab.async false
set_option linter.all false
set_option maxRecDepth 100000
set_option maxHeartbeats 4000000
namespace VM
open PySem PySem.Spec PyProof.Rows L2 DL

section
variable {K : PySem.W.Frag} {cl : ClT} {xc : XCl} {L L0 L1 : List Addr} {F F0 F1 H H0 H1 Hx Hy : Hp} {S : Stv} {x y : V} {rx ry : Rv} {W : WXK} {σ : L2.St} {ρ : Rho}
/-! ## cells that nothing knows are let go -/
theorem take_get {n k : Nat} {a : Addr} (h : L[k]? = some a) (hk : k < n) : (L.take n)[k]? = some a := by
  rw [List.getElem?_take, if_pos hk]
  exact h
theorem fit_en {n : Nat} {e : En} {o : Option V} (h : fitE n e = true) (q : EnOk K F L e o) : EnOk K F (L.take n) e o := by
  cases e with
  | un => trivial
  | dt d => exact q
  | mu k =>
    obtain ⟨a, e, ha⟩ := q
    exact ⟨a, e, take_get ha (by simpa [fitE] using h)⟩
theorem fit_eok {n : Nat} (h : ρ.all (fitE n) = true) (q : EOk K F L σ ρ) : EOk K F (L.take n) σ ρ := fun i e he => by
  obtain ⟨o, ho, hq⟩ := q i e he
  exact ⟨o, ho, fit_en (List.all_eq_true.mp h e (List.mem_of_getElem? he)) hq⟩
theorem fit_ena {n : Nat} {vs : List V} {es : List En} (h : es.all (fitE n) = true) (q : EnA K F L vs es) : EnA K F (L.take n) vs es := ⟨q.1, fit_eok h q.2⟩
theorem fit_cell {n : Nat} {o : HO} {c : Cell} (h : fitC n c = true) (q : CellOk K cl F L o c) : CellOk K cl F (L.take n) o c := by
  cases c with
  | lst ds => exact q
  | dct t kvs => cases t <;> exact q
  | dcn t kvs => cases t <;> exact q
  | gone => exact q
  | lse es =>
    obtain ⟨vs, e, hq⟩ := q
    exact ⟨vs, e, fit_ena h hq⟩
  | obj c fs =>
    obtain ⟨dx, vs, e, hn, hq⟩ := q
    refine ⟨dx, vs, e, hn, fit_ena ?_ hq⟩
    rw [List.all_map]
    exact h
theorem take_sv {n : Nat} (h : fitS n (S.take n) = true) (s : SV K cl F H L S) : SV K cl F H (L.take n) (S.take n) := by
  refine ⟨s.sub, by rw [List.length_take, List.length_take, s.len], s.nd.sublist (List.take_sublist _ _), fun k a ha => ?_, s.tb⟩
  rw [List.getElem?_take] at ha
  split at ha
  · rename_i hk
    obtain ⟨h1, h2⟩ := s.st k a ha
    refine ⟨h1, fun c hc hg => ?_⟩
    have hc' := hc
    rw [List.getElem?_take, if_pos hk] at hc
    obtain ⟨f0, o, h3, h4⟩ := h2 c hc hg
    exact ⟨f0, o, h3, fit_cell (List.all_eq_true.mp h c (List.mem_of_getElem? hc')) h4⟩
  · cases ha
theorem nx_take (n : Nx L0 F0 H0 L F H) : Nx L0 F0 H0 (L.take L0.length) F H := by
  obtain ⟨st, R, rfl, fr⟩ := n
  rw [List.take_left' rfl]
  exact ⟨st, [], by simp, fun a h => by cases h⟩
theorem trim_ok (n : Nx L0 F0 H0 L F H) (e : EOk K F L σ ρ) (s : SV K cl F H L S) : ∃ L', Nx L0 F0 H0 L' F H ∧ EOk K F L' σ ρ ∧ SV K cl F H L' (trim L0.length ρ S) ∧ ∀ a ∈ L', a ∈ L := by
  unfold trim
  split
  · exact ⟨L, n, e, s, fun _ h => h⟩
  · split
    · rename_i h
      rw [Bool.and_eq_true] at h
      exact ⟨_, nx_take n, fit_eok h.1 e, take_sv h.2 s, fun a h => List.mem_of_mem_take h⟩
    · exact ⟨L, n, e, s, fun _ h => h⟩
theorem kill_ok : ∀ {ks : List Nat} {ρ : Rho}, EOk K F L σ ρ → EOk K F L σ (kill ks ρ)
  | [], ρ, e => e
  | k :: ks, ρ, e => by
    have e1 : EOk K F L σ (ρ.set k .un) := fun i en hi => by
      by_cases hk : k = i
      · subst hk
        have hl : k < ρ.length := by
          have := (List.getElem?_eq_some_iff.mp hi).1
          rw [List.length_set] at this
          exact this
        rw [List.getElem?_set_self hl] at hi
        cases hi
        obtain ⟨o, ho, _⟩ := e k _ (List.getElem?_eq_getElem hl)
        exact ⟨o, ho, trivial⟩
      · rw [List.getElem?_set_ne hk] at hi
        exact e i en hi
    exact kill_ok (ks := ks) e1
theorem tgIn_w {g : Tgt} {ws : List Nat} (h : tgIn g ws = true) : TgW (dG K g) ws := by
  cases g with
  | nm i => exact tgw_name (by simpa [tgIn] using h)
  | tp is =>
    refine tgw_tup ?_
    unfold tgIn at h
    induction is with
    | nil => exact tgsw_nil
    | cons i is ih =>
      have h : (decide (i ∈ ws) && is.all fun i => decide (i ∈ ws)) = true := h
      rw [Bool.and_eq_true] at h
      exact tgsw_cons (tgw_name (by simpa using h.1)) (ih h.2)
theorem lcF_ex {t : Rho → Stv → Out Bool} {f : Rho → Stv → Out Rv} {b : En → Rho → Option Rho} {ch : Option (Nat × Cell)} {n0 : Nat} {c : Nat} {fs : List (Str × D)} {S2 : Stv} : ∀ {es : List En} {acc : List D} {S : Stv}, lcF t f b ch n0 ρ es acc S ≠ .ex c fs S2
  | [], acc, S => by unfold lcF; nofun
  | e :: es, acc, S => by
    unfold lcF
    split
    · nofun
    · split
      · split
        · split
          · split
            · split
              · exact lcF_ex
              · nofun
            · nofun
          · nofun
        · split
          · exact lcF_ex
          · nofun
      · nofun
theorem lc_ok {g : Tgt} {ws : List Nat} {t : WXK → TT} {f : WXK → TE} {tF : Rho → Stv → Out Bool} {fF : Rho → Stv → Out Rv} {is : Items} {J : It} {Q : VK} {S1 : Stv} (ht : ∀ ρ S, ET K cl xc ρ S t (tF ρ S)) (hf : ∀ ρ S, EV K cl xc ρ S f (fF ρ S)) (hg : tgIn g ws = true) (hl : is.1.length ≤ big) (hc : chk is.2 S1)
    (n0 : Nx L0 F0 H0 L1 F1 H1) (e1 : EOk K F1 L1 σ ρ) (s1 : SV K cl F1 H1 L1 S1) (hJ : JV K cl F1 L1 J is) (p : Pst K cl xc (RV K cl) ((lcF tF fF (bindE g) is.2 S1.length (wipeR ρ ws) is.1 [] S1).bind fun ds S2 => .ok (.nw (.lst ds)) S2) L0 F0 H0 W σ Q) :
    ∀ Da, H1 Da = none → ∃ Wi : Nat → Nat → Hp → Prop, (∃ m, Wi 0 m (upd H1 Da (.lst []))) ∧ ∀ i m H, Wi i m H →
      (J.stop i H ∧ Q (.ref Da) H) ∨ (J.go i H ∧ ∃ Nx : Hp → Prop, (∀ H', Nx H' → ∃ m', m' < m ∧ Wi (i + 1) m' H') ∧ ∀ x H', J.yld i H x H' → dG K g x (wipe σ ws) H' fun σ2 H2 => wipe σ2 ws = wipe σ ws ∧ t W σ2 H2 fun b H3 =>
        if b = true then f W σ2 H3 fun y H4 => ∃ acc, H4 Da = some (.lst acc) ∧ acc.length < sizeLine ∧ Nx (upd H4 Da (.lst (acc ++ [y]))) else Nx H3) := by
  intro Da hDa
  obtain ⟨out, S2, hout⟩ : ∃ out S2, lcF tF fF (bindE g) is.2 S1.length (wipeR ρ ws) is.1 [] S1 = .ok out S2 := by
    cases h : lcF tF fF (bindE g) is.2 S1.length (wipeR ρ ws) is.1 [] S1 with
    | ok out S2 => exact ⟨out, S2, rfl⟩
    | ex c fs S2 => exact absurd h lcF_ex
    | bad => rw [h] at p; exact p.elim
  rw [hout] at p
  have hlen : L1.length = S1.length := s1.len
  -- storing to Da
  have put : ∀ {F' H' : Hp} {L' : List Addr} {S' : Stv} {xs : List V}, Nx L1 F1 H1 L' F' H' → SV K cl F' H' L' S' → Da ∉ L' → F' Da = none → Nx L1 F1 H1 L' F' (upd H' Da (.lst xs)) ∧ SV K cl F' (upd H' Da (.lst xs)) L' S' := fun {F' H' L' S' xs} n' s' hL hF => by
    refine ⟨⟨⟨n'.stp.fx, fun a o ea na => ?_, fun a ha => ?_, n'.stp.nof⟩, n'.ex⟩, ⟨fun a o ea => ?_, s'.len, s'.nd, fun n a ea => ?_, s'.tb⟩⟩
    · rw [upd_ne (ne_of_none ea hDa)]
      exact n'.stp.keep a o ea na
    · by_cases z : a = Da
      · rw [z, upd_same]; exact nofun
      · rw [upd_ne z]; exact n'.stp.live a ha
    · rw [upd_ne (ne_of_none ea hF)]
      exact s'.sub _ _ ea
    · have : a ≠ Da := fun z => hL (z ▸ List.mem_of_getElem? ea)
      rw [upd_ne this]
      exact s'.st n a ea
  obtain ⟨n00, s0⟩ := put (xs := []) (.refl _ _ _) s1 (fr_L s1 hDa) (fr_F s1 hDa)
  refine ⟨fun i m H' => m = is.1.length - i ∧ i ≤ is.1.length ∧ ∃ F' L' S' xs acc, Nx L1 F1 H1 L' F' H' ∧ EOk K F' L' (wipe σ ws) (wipeR ρ ws) ∧ SV K cl F' H' L' S' ∧ Da ∉ L' ∧ F' Da = none ∧ H' Da = some (.lst xs) ∧ DpAll K F' xs acc ∧ chk is.2 S' ∧ lcF tF fF (bindE g) is.2 S1.length (wipeR ρ ws) (is.1.drop i) acc S' = .ok out S2,
    ⟨_, rfl, Nat.zero_le _, F1, L1, S1, [], [], n00, wipe_ok e1 ws, s0, fr_L s1 hDa, fr_F s1 hDa, upd_same, .nil, hc, hout⟩, ?_⟩
  rintro i m H' ⟨rfl, hi, F', L', S', xs, acc, n', e', s', hDL, hF', hD', hx, ck, lc⟩
  obtain ⟨R, eL, fR⟩ := n'.ex
  subst eL
  by_cases hlt : i < is.1.length
  · obtain ⟨go, yl⟩ := hJ.go F' H' R S' i n'.fx s' ck hlt
    rw [List.drop_eq_getElem_cons hlt] at lc
    unfold lcF at lc
    split at lc
    case h_1 => cases lc
    rename_i ρ1 hb
    refine .inr ⟨go, fun H' => ∃ F' L' S' xs acc, Nx L1 F1 H1 L' F' H' ∧ EOk K F' L' (wipe σ ws) (wipeR ρ ws) ∧ SV K cl F' H' L' S' ∧ Da ∉ L' ∧ F' Da = none ∧ H' Da = some (.lst xs) ∧ DpAll K F' xs acc ∧ chk is.2 S' ∧ lcF tF fF (bindE g) is.2 S1.length (wipeR ρ ws) (is.1.drop (i + 1)) acc S' = .ok out S2,
      fun H'' n2 => ⟨_, by omega, rfl, by omega, n2⟩, fun x H2 y => ?_⟩
    obtain ⟨F3, e, n3, s3, he, hxe⟩ := yl x H2 y
    rw [List.getElem?_eq_getElem hlt] at he
    cases he
    have e3 := n3.eok e'
    refine tgIn_w hg x _ _ _ _ (tgt_ok (Q := fun σ2 H2' => H2' = H2 ∧ EOk K F3 (L1 ++ R) σ2 ρ1) hb s3.sub e3 hxe fun σ4 e4 => ⟨rfl, e4⟩) fun σ2 H2' ⟨eH, e4⟩ ew => ?_
    subst eH
    rw [wipe_wipe] at ew
    refine ⟨ew, ?_⟩
    have h1 : H2' Da = some (.lst xs) := n3.stp.keep _ _ hD' hDL
    have f1 : F3 Da = none := n3.stp.nof _ (by rw [hD']; exact nofun) hF'
    -- behind the turn
    have keepD : ∀ {F5 H5 L5}, Nx (L1 ++ R) F3 H2' L5 F5 H5 → Da ∉ L5 ∧ F5 Da = none ∧ H5 Da = some (.lst xs) ∧ DpAll K F5 xs acc := fun {F5 H5 L5} n5 => by
      refine ⟨?_, n5.stp.nof _ (by rw [h1]; exact nofun) f1, n5.stp.keep _ _ h1 hDL, dpa_mono (n3.fx.trans n5.fx) _ _ hx⟩
      obtain ⟨_, R5, rfl, f5⟩ := n5
      intro hm
      rcases List.mem_append.mp hm with q | q
      · exact hDL q
      · rw [f5 Da q] at h1; cases h1
    have n13 : Nx L1 F1 H1 (L1 ++ R) F3 H2' := n'.trans n3
    refine (ht ρ1 S').at bkB e4 (.refl _ _ _) s3 ?_
    cases ht1 : tF ρ1 S' with
    | bad => rw [ht1] at lc; cases lc
    | ex c fs S4 => rw [ht1] at lc; cases lc
    | ok k S4 =>
      rw [ht1] at lc
      simp only at lc
      rintro b F4 H4 L4 n4 s4 rfl
      cases b with
      | false =>
        rw [if_neg Bool.false_ne_true] at lc ⊢
        split at lc
        · rename_i hck
          obtain ⟨k0, k1, k2, k3⟩ := keepD n4
          obtain ⟨L5, n5, e5, s5, hs5⟩ := trim_ok (n13.trans n4) (n4.eok e3) s4
          rw [hlen] at s5
          have hD5 : Da ∉ L5 := fun m => k0 (hs5 _ m)
          exact ⟨F4, L5, _, xs, acc, n5, e5, s5, hD5, k1, k2, k3, hck, lc⟩
        · cases lc
      | true =>
        rw [if_pos rfl] at lc ⊢
        refine (hf ρ1 S4).at bkV (n4.eok e4) (.refl _ _ _) s4 ?_
        cases hf1 : fF ρ1 S4 with
        | bad => rw [hf1] at lc; cases lc
        | ex c fs S4 => rw [hf1] at lc; cases lc
        | ok r S5 =>
          rw [hf1] at lc
          simp only at lc
          split at lc
          case h_2 => cases lc
          rename_i d hd
          split at lc
          case isFalse => cases lc
          rename_i hck
          intro v F5 H5 L5 n5 s5 r5
          obtain ⟨F6, n6, s6, d6, _⟩ := rv_frz n5 s5 r5 hd
          obtain ⟨k0, k1, k2, k3⟩ := keepD (n4.trans n6)
          obtain ⟨L7, n7, e7, s7, hs7⟩ := trim_ok ((n13.trans n4).trans n6) ((n4.trans n6).eok e3) s6
          rw [hlen] at s7
          have hD7 : Da ∉ L7 := fun m => k0 (hs7 _ m)
          obtain ⟨n8, s8⟩ := put (xs := xs ++ [v]) n7 s7 hD7 k1
          exact ⟨xs, k2, by rw [dpa_len hx]; exact bigL' hck.2, F6, L7, _, _, _, n8, e7, s8, hD7, k1, upd_same, dpa_app k3 (.cons d6 .nil), hck.1, lc⟩
  · have ei : i = is.1.length := by omega
    subst ei
    rw [List.drop_length] at lc
    unfold lcF at lc
    cases lc
    exact .inl ⟨hJ.stop F' H' R S2 n'.fx s' ck, p _ _ _ _ (n0.trans n') s' ⟨Da, _, rfl, n0.stp.fresh hDa, hDL, hF', hD', _, rfl, hx⟩⟩
end
end VM
end

section
set_option Elab.async false
set_option linter.all false
set_option maxRecDepth 100000
set_option maxHeartbeats 4000000
namespace VM
open PySem PySem.Spec PyProof.Rows L2 DL
/-! dicts with keys of any kind: what the machine says of them, by the cells -/
section
variable {K : PySem.W.Frag} {cl : ClT} {xc : XCl} {L L0 L1 : List Addr} {F F0 F1 H H0 H1 Hx Hy Hz : Hp} {S : Stv} {x y : V} {rx ry : Rv} {W : WXK} {σ : L2.St} {ρ : Rho}
theorem gkT_nk {d : D} {k : NestedKey} (h : gkT d = some k) : ∃ ds, d = .tuple ds ∧ GDict.nkD (.tuple ds) = some k ∧ k.depth ≤ 8 := by
  unfold gkT at h
  split at h
  · rename_i ds
    split at h
    · rename_i k' hk
      split at h
      · rename_i hd
        cases h
        exact ⟨ds, rfl, hk, hd⟩
      · cases h
    · cases h
  · cases h
theorem nkv_of {d : D} {k : NestedKey} {v : V} (h : gkT d = some k) (hd : Dp K F v d) (sm : Same F H) : GDict.NkV K H v k ∧ ∃ b, v = .ref b := by
  obtain ⟨ds, rfl, hk, hz⟩ := gkT_nk h
  refine ⟨⟨ds, dp_mono sm _ _ hd, hk, hz⟩, ?_⟩
  cases hd with
  | tup h1 h2 => exact ⟨_, rfl⟩
theorem lfv_of {d : D} {k : Leaf} {v : V} (h : lfD d = some k) (hd : Dp K F v d) : GDict.LfV v k := by
  cases hd <;> cases h <;> first | rfl | trivial
abbrev PN (K : PySem.W.Frag) (F : Hp) : GDict.Ent → D × D → Prop := fun e q => gkT q.1 = some e.1 ∧ Dp K F (.ref e.2.1) q.1 ∧ Dp K F e.2.2 q.2
abbrev PL (K : PySem.W.Frag) (F : Hp) : Leaf × V → D × D → Prop := fun e q => lfD q.1 = some e.1 ∧ Dp K F e.2 q.2
theorem prd_mem {α β : Type} {P : α → β → Prop} : ∀ {xs : List α} {ys : List β}, Paired P xs ys → ∀ x ∈ xs, ∃ y ∈ ys, P x y
  | _, _, .nil, x, h => absurd h (by simp)
  | _, _, .cons a t, x, h => by
    rcases List.mem_cons.mp h with rfl | h
    · exact ⟨_, List.mem_cons_self, a⟩
    · obtain ⟨y, hy, q⟩ := prd_mem t x h
      exact ⟨y, List.mem_cons_of_mem _ hy, q⟩
theorem pn_keys {ks : List GDict.Ent} {kvs : List (D × D)} (h : Paired (PN K F) ks kvs) (sm : Same F H) : ∀ e ∈ ks, GDict.NkV K H (.ref e.2.1) e.1 := fun e he => by
  obtain ⟨q, _, hq⟩ := prd_mem h e he
  exact (nkv_of hq.1 hq.2.1 sm).1
theorem leaf_key {d : D} {k : Leaf} : ((lfD d).map Leaf.key = some k.key) ↔ lfD d = some k := by
  constructor
  · intro h
    obtain ⟨k', h1, h2⟩ := Option.map_eq_some_iff.mp h
    rw [h1, Leaf.key_inj h2]
  · intro h
    rw [h]
    rfl
theorem gfind_rd {t : Bool} {kvs : List (D × D)} {a : Addr} {o : HO} {d : D} {v : V} {r : Option D} (hc : CellOk K cl F L o (.dcn t kvs)) (ho : H a = some o) (sm : Same F H) (hd : Dp K F v d) (e : gfind t kvs d = some r) :
    ∃ r', GDict.GGet cl.pr cl.w K H (.ref a) v r' ∧ (∀ z, r = some z → ∃ w, r' = some w ∧ Dp K F w z) ∧ (r = none → r' = none) := by
  unfold gfind at e
  obtain ⟨x, ex, er⟩ := Option.map_eq_some_iff.mp e
  cases t with
  | true =>
    obtain ⟨d', ks, rfl, hp⟩ := hc
    have ex : gkT d = some x := ex
    obtain ⟨hk, b, rfl⟩ := nkv_of ex hd sm
    have hf := prd_find (p := fun (e : GDict.Ent) => decide (e.1 = x)) (q := fun (p : D × D) => decide (gkD true p.1 = some x)) (fun a b h => by
      have h1 : gkD true b.1 = some a.1 := h.1
      rw [h1, Bool.eq_iff_iff]
      simp) hp
    refine ⟨_, .inl ⟨a, d', ks, b, x, rfl, rfl, ho, pn_keys hp sm, hk, rfl⟩, ?_⟩
    unfold GDict.atK
    subst er
    constructor
    · intro z hz
      obtain ⟨p, hp1, rfl⟩ := Option.map_eq_some_iff.mp hz
      obtain ⟨e, he, h⟩ := hf.1 p hp1
      exact ⟨e.2.2, by rw [he]; rfl, h.2.2⟩
    · intro hz
      rw [hf.2 (Option.map_eq_none_iff.mp hz)]
      rfl
  | false =>
    obtain ⟨d', ks, rfl, hp⟩ := hc
    have ex : (lfD d).map Leaf.key = some x := ex
    obtain ⟨lf, hl, rfl⟩ := Option.map_eq_some_iff.mp ex
    have hf := prd_find (p := fun (e : Leaf × V) => decide (e.1 = lf)) (q := fun (p : D × D) => decide (gkD false p.1 = some lf.key)) (fun a b h => by
      rw [Bool.eq_iff_iff, decide_eq_true_eq, decide_eq_true_eq]
      show a.1 = lf ↔ (lfD b.1).map Leaf.key = some lf.key
      rw [leaf_key, h.1]
      simp) hp
    refine ⟨_, .inr ⟨a, d', ks, lf, rfl, ho, lfv_of hl hd, rfl⟩, ?_⟩
    unfold valV
    subst er
    constructor
    · intro z hz
      obtain ⟨p, hp1, rfl⟩ := Option.map_eq_some_iff.mp hz
      obtain ⟨e, he, h⟩ := hf.1 p hp1
      exact ⟨e.2, by rw [he]; rfl, h.2⟩
    · intro hz
      rw [hf.2 (Option.map_eq_none_iff.mp hz)]
      rfl
theorem mu_dcn {n : Nat} {t : Bool} {kvs : List (D × D)} (s : SV K cl F H L S) (h : RV K cl L F Hx H x (.mu n)) (e : S[n]? = some (.dcn t kvs)) : ∃ a o, x = .ref a ∧ L[n]? = some a ∧ H a = some o ∧ CellOk K cl F L o (.dcn t kvs) := by
  obtain ⟨a, rfl, ha⟩ := h
  obtain ⟨_, h2⟩ := s.st _ a ha
  obtain ⟨_, o, ho, hc⟩ := h2 _ e (by nofun)
  exact ⟨a, o, rfl, ha, ho, hc⟩
theorem gis_of {t : Bool} {kvs : List (D × D)} {a : Addr} {o : HO} (hc : CellOk K cl F L o (.dcn t kvs)) (ho : H a = some o) (sm : Same F H) : GDict.GIs cl.pr cl.w K H (.ref a) := by
  cases t with
  | true =>
    obtain ⟨d', ks, rfl, hp⟩ := hc
    exact .inl ⟨a, d', ks, rfl, ho, pn_keys hp sm⟩
  | false =>
    obtain ⟨d', ks, rfl, hp⟩ := hc
    exact .inr ⟨a, d', ks, rfl, ho⟩
theorem prd_vals {α : Type} {P : α → D × D → Prop} {f : α → V} (hP : ∀ e q, P e q → Dp K F (f e) q.2) : ∀ {ks : List α} {kvs : List (D × D)}, Paired P ks kvs → DpAll K F (ks.map f) (kvs.map (·.2))
  | _, _, .nil => .nil
  | _, _, .cons a t => .cons (hP _ _ a) (prd_vals hP t)
theorem pn_kdata : ∀ {ks : List GDict.Ent} {kvs : List (D × D)}, Paired (PN K F) ks kvs → DpAll K F (ks.map fun e => V.ref e.2.1) (kvs.map (·.1))
  | _, _, .nil => .nil
  | _, _, .cons a t => .cons a.2.1 (pn_kdata t)
theorem gvals_of {t : Bool} {kvs : List (D × D)} {a : Addr} {o : HO} (hc : CellOk K cl F L o (.dcn t kvs)) (ho : H a = some o) (sm : Same F H) : ∃ vs, GDict.GVals cl.pr cl.w K H (.ref a) vs ∧ DpAll K F vs (kvs.map (·.2)) := by
  cases t with
  | true =>
    obtain ⟨d', ks, rfl, hp⟩ := hc
    exact ⟨_, .inl ⟨a, d', ks, rfl, ho, pn_keys hp sm, rfl⟩, prd_vals (fun e q h => h.2.2) hp⟩
  | false =>
    obtain ⟨d', ks, rfl, hp⟩ := hc
    exact ⟨_, .inr ⟨a, d', ks, rfl, ho, rfl⟩, prd_vals (fun e q h => h.2) hp⟩
theorem gkeys_of {kvs : List (D × D)} {a : Addr} {o : HO} (hc : CellOk K cl F L o (.dcn true kvs)) (ho : H a = some o) (sm : Same F H) : ∃ vs, GDict.GKeys cl.pr cl.w K H (.ref a) vs ∧ DpAll K F vs (kvs.map (·.1)) := by
  obtain ⟨d', ks, rfl, hp⟩ := hc
  exact ⟨_, ⟨a, d', ks, rfl, ho, pn_keys hp sm, rfl⟩, pn_kdata hp⟩
theorem xmB_ok {m : Xmt} (s : SV K cl F H L S) (h : RV K cl L F Hx H x rx) (e : xmB m rx S = true) : rXB K cl m x H := by
  have main : (∃ n t kvs, rx = .mu n ∧ S[n]? = some (.dcn t kvs)) → GDict.GIs cl.pr cl.w K H x := by
    rintro ⟨n, t, kvs, rfl, hm⟩
    obtain ⟨a, o, rfl, _, ho, hc⟩ := mu_dcn s h hm
    exact gis_of hc ho s.sub
  have get : (m = .nget ∨ m = .nget2) → ∃ n t kvs, rx = .mu n ∧ S[n]? = some (.dcn t kvs) := by
    intro hm
    rcases hm with rfl | rfl <;> unfold xmB at e <;> simp only at e <;> split at e
    all_goals first | (cases e; done) | skip
    all_goals
      rename_i n
      split at e
      · rename_i t kvs hh
        exact ⟨n, t, kvs, rfl, hh⟩
      · cases e
  cases m <;> first
    | exact trivial
    | exact main (get (.inl rfl))
    | exact main (get (.inr rfl))
theorem xm_ok {Q : VK} {vs : List V} {rs : List Rv} (m : Xmt) (n : Nx L0 F0 H0 L F H) (s : SV K cl F H L S) (hx : RV K cl L F Hx H x rx) (hy : RL K cl L F Hy H vs rs) (p : Pst K cl xc (RV K cl) (xmO m rx rs S) L0 F0 H0 W σ Q) : rXm K cl m x vs H Q := by
  unfold xmO at p
  split at p
  · -- in
    rename_i neg k n0
    cases hy with | cons hy1 hy2 => cases hy2 with | nil =>
    split at p
    · rename_i t kvs hm
      obtain ⟨a, o, rfl, _, ho, hc⟩ := mu_dcn s hy1 hm
      split at p
      · rename_i r hr
        obtain ⟨r', g, g1, g2⟩ := gfind_rd hc ho s.sub hx hr
        have er : r'.isSome = r.isSome := by
          cases r with
          | none => rw [g2 rfl]; rfl
          | some z => obtain ⟨w, e, _⟩ := g1 z rfl; rw [e]; rfl
        refine ⟨r', g, ?_⟩
        rw [er]
        exact pst_d n s (.bl _) p
      · exact p.elim
    · exact p.elim
  · rename_i n0 k
    cases hy with | cons hy1 hy2 => cases hy2 with | nil =>
    split at p
    · rename_i t kvs hm
      obtain ⟨a, o, rfl, _, ho, hc⟩ := mu_dcn s hx hm
      split at p
      · rename_i e hr
        obtain ⟨r', g, g1, g2⟩ := gfind_rd hc ho s.sub hy1 hr
        obtain ⟨w, rfl, hw⟩ := g1 e rfl
        exact ⟨w, g, pst_d n s hw p⟩
      · exact p.elim
    · exact p.elim
  · rename_i n0 k
    cases hy with | cons hy1 hy2 => cases hy2 with | nil =>
    split at p
    · rename_i t kvs hm
      obtain ⟨a, o, rfl, _, ho, hc⟩ := mu_dcn s hx hm
      split at p
      · rename_i r hr
        obtain ⟨r', g, g1, g2⟩ := gfind_rd hc ho s.sub hy1 hr
        refine ⟨r', g, ?_⟩
        cases r with
        | none => rw [g2 rfl]; exact pst_d n s .non p
        | some z => obtain ⟨w, e, hw⟩ := g1 z rfl; rw [e]; exact pst_d n s hw p
      · exact p.elim
    · exact p.elim
  · rename_i n0 k z0
    cases hy with | cons hy1 hy2 => cases hy2 with | cons hy2 hy3 => cases hy3 with | nil =>
    split at p
    · rename_i t kvs hm
      obtain ⟨a, o, rfl, _, ho, hc⟩ := mu_dcn s hx hm
      split at p
      · rename_i r hr
        obtain ⟨r', g, g1, g2⟩ := gfind_rd hc ho s.sub hy1 hr
        refine ⟨r', g, ?_⟩
        cases r with
        | none => rw [g2 rfl]; exact pst_d n s hy2 p
        | some z => obtain ⟨w, e, hw⟩ := g1 z rfl; rw [e]; exact pst_d n s hw p
      · exact p.elim
    · exact p.elim
  · rename_i n0
    cases hy with | nil =>
    split at p
    · rename_i kvs hm
      obtain ⟨a, o, rfl, _, ho, hc⟩ := mu_dcn s hx hm
      obtain ⟨ws, g, hw⟩ := gkeys_of hc ho s.sub
      refine ⟨ws, g, fun q hq => ?_⟩
      obtain ⟨n2, s2⟩ := nx_lay s hq (.lst ws)
      exact p _ _ _ _ (n.trans n2) s2 ((rv_new (c := .lst (kvs.map (·.1))) s hq ⟨_, rfl, hw⟩).back n)
    · exact p.elim
  · rename_i n0
    cases hy with | nil =>
    split at p
    · rename_i t kvs hm
      obtain ⟨a, o, rfl, _, ho, hc⟩ := mu_dcn s hx hm
      obtain ⟨ws, g, hw⟩ := gvals_of hc ho s.sub
      refine ⟨ws, g, fun q hq => ?_⟩
      obtain ⟨n2, s2⟩ := nx_lay s hq (.lst ws)
      exact p _ _ _ _ (n.trans n2) s2 ((rv_new (c := .lst (kvs.map (·.2))) s hq ⟨_, rfl, hw⟩).back n)
    · exact p.elim
  · rename_i n0
    cases hy with | nil =>
    split at p
    · rename_i t kvs hm
      obtain ⟨a, o, rfl, _, ho, hc⟩ := mu_dcn s hx hm
      obtain ⟨ws, g, hw⟩ := gvals_of hc ho s.sub
      refine ⟨ws, g, ?_⟩
      have := dpa_len hw
      rw [List.length_map] at this
      rw [this]
      exact pst_d n s (.int _) p
    · exact p.elim
  · exact p.elim
theorem prd_kdata : ∀ {hk : List (Key × V)} {kvs : List (D × D)}, Paired (fun (p : Key × V) (q : D × D) => keyK q.1 = some p.1 ∧ Dp K F p.2 q.2) hk kvs → DpAll K F (hk.map fun kv => kV kv.1) (kvs.map (·.1))
  | _, _, .nil => .nil
  | p :: _, q :: _, .cons a t => by
    refine .cons ?_ (prd_kdata t)
    obtain ⟨e, _⟩ := a
    show Dp K F (kV p.1) q.1
    unfold keyK at e
    split at e
    · rename_i h
      rw [h]
      rw [← Option.some.inj e]
      exact .int _
    · rename_i h
      rw [h]
      rw [← Option.some.inj e]
      exact .str _
    · cases e
theorem str_rd {ys : List En} (s : SV K cl F H L S) (hx : RV K cl L F Hx H x rx) (h : strO rx S = some ys) : ∃ vs ds, ys = ds.map .dt ∧ GDict.StarV K H x vs ∧ DpAll K F vs ds := by
  have other : (sqR S rx).map (fun ds => ds.map En.dt) = some ys → ∃ vs ds, ys = ds.map .dt ∧ GDict.StarV K H x vs ∧ DpAll K F vs ds := fun h => by
    obtain ⟨ds, hd, rfl⟩ := Option.map_eq_some_iff.mp h
    obtain ⟨a, vs1, rfl, h2, h3⟩ := sq_rd s hx hd
    exact ⟨vs1, ds, rfl, .inl ⟨a, rfl, h2.symm⟩, h3⟩
  unfold strO at h
  split at h
  · rename_i n
    split at h
    · rename_i ds hm
      refine other ?_
      unfold sqR lstR
      simp only [hm]
      exact h
    · rename_i kvs hm
      cases h
      obtain ⟨a, rfl, ha⟩ := hx
      obtain ⟨_, h2⟩ := s.st _ a ha
      obtain ⟨_, o, ho, hk, rfl, hp⟩ := h2 _ hm (by nofun)
      exact ⟨_, kvs.map (·.1), by rw [List.map_map]; rfl, .inr ⟨a, hk, rfl, ho, rfl⟩, prd_kdata hp⟩
    · cases h
  · exact other h
/-! ### stores -/
theorem prd_appN {α β : Type} {P : α → β → Prop} : ∀ {xs xs' : List α} {ys ys' : List β}, Paired P xs ys → Paired P xs' ys' → Paired P (xs ++ xs') (ys ++ ys')
  | _, _, _, _, .nil, h => h
  | _, _, _, _, .cons a t, h => .cons a (prd_appN t h)
theorem prd_mapN {α β : Type} {P : α → β → Prop} {f : α → α} {g : β → β} (h : ∀ a b, P a b → P (f a) (g b)) : ∀ {xs : List α} {ys : List β}, Paired P xs ys → Paired P (xs.map f) (ys.map g)
  | _, _, .nil => .nil
  | _, _, .cons a t => .cons (h _ _ a) (prd_mapN h t)
theorem prd_filter {α β : Type} {P : α → β → Prop} {p : α → Bool} {q : β → Bool} (h : ∀ a b, P a b → p a = q b) : ∀ {xs : List α} {ys : List β}, Paired P xs ys → Paired P (xs.filter p) (ys.filter q)
  | _, _, .nil => .nil
  | x :: xs, y :: ys, .cons a t => by
    have ih := prd_filter h t
    have e := h _ _ a
    by_cases hp : p x = true
    · rw [List.filter_cons_of_pos hp, List.filter_cons_of_pos (by rw [← e]; exact hp)]
      exact .cons a ih
    · rw [List.filter_cons_of_neg hp, List.filter_cons_of_neg (by rw [← e]; exact hp)]
      exact ih
theorem prd_lenN {α β : Type} {P : α → β → Prop} : ∀ {xs : List α} {ys : List β}, Paired P xs ys → xs.length = ys.length
  | _, _, .nil => rfl
  | _, _, .cons _ t => by simp [prd_lenN t]
theorem prd_any {α β : Type} {P : α → β → Prop} {p : α → Bool} {q : β → Bool} (h : ∀ a b, P a b → p a = q b) : ∀ {xs : List α} {ys : List β}, Paired P xs ys → xs.any p = ys.any q
  | _, _, .nil => rfl
  | _, _, .cons a t => by rw [List.any_cons, List.any_cons, prd_any h t, h _ _ a]
theorem find_any {α : Type} {p : α → Bool} : ∀ {xs : List α}, (xs.find? p).isSome = xs.any p
  | [] => rfl
  | x :: xs => by
    rw [List.find?_cons, List.any_cons]
    cases h : p x with
    | true => simp
    | false => simp [find_any (xs := xs)]
theorem pn_is {x : NestedKey} (a : GDict.Ent) (b : D × D) (h : PN K F a b) : decide (a.1 = x) = decide (gkD true b.1 = some x) := by
  have h1 : gkD true b.1 = some a.1 := h.1
  rw [h1, Bool.eq_iff_iff]
  simp
theorem pl_is {lf : Leaf} (a : Leaf × V) (b : D × D) (h : PL K F a b) : decide (a.1 = lf) = decide (gkD false b.1 = some lf.key) := by
  rw [Bool.eq_iff_iff, decide_eq_true_eq, decide_eq_true_eq]
  show a.1 = lf ↔ (lfD b.1).map Leaf.key = some lf.key
  rw [leaf_key, h.1]
  simp
theorem gput_ok {n : Nat} {t : Bool} {kvs kvs' : List (D × D)} {d e : D} {v w : V} {Q : Hp → Prop} (s : SV K cl F H L S) (hx : RV K cl L F Hx H x (.mu n)) (hm : S[n]? = some (.dcn t kvs)) (hd : Dp K F v d) (hw : Dp K F w e) (hl : kvs.length < big) (hp : gput t kvs d e = some kvs')
    (q : ∀ H', Nx L F H L F H' → SV K cl F H' L (S.set n (.dcn t kvs')) → Q H') : ∃ H4, GDict.GPut cl.pr cl.w K H x v w H4 ∧ Q H4 := by
  obtain ⟨a, o, rfl, ha, ho, hc⟩ := mu_dcn s hx hm
  unfold gput at hp
  obtain ⟨k, ek, rfl⟩ := Option.map_eq_some_iff.mp hp
  cases t with
  | true =>
    obtain ⟨d', ks, rfl, hpr⟩ := hc
    have ek' : gkT d = some k := ek
    obtain ⟨hk, b, rfl⟩ := nkv_of ek' hd s.sub
    have hq : Paired (PN K F) (GDict.stK ks k b w) (if kvs.any (fun p => decide (gkD true p.1 = some k)) = true then kvs.map (fun p => if gkD true p.1 = some k then (p.1, e) else p) else kvs ++ [(d, e)]) := by
      unfold GDict.stK GDict.atK
      rw [Option.isSome_map, find_any, prd_any (pn_is (x := k)) hpr]
      split
      · refine prd_mapN (fun a b h => ?_) hpr
        have := pn_is (x := k) a b h
        rw [Bool.eq_iff_iff, decide_eq_true_eq, decide_eq_true_eq] at this
        by_cases hak : a.1 = k
        · rw [if_pos hak, if_pos (this.mp hak)]
          exact ⟨h.1, h.2.1, hw⟩
        · rw [if_neg hak, if_neg (fun z => hak (this.mpr z))]
          exact h
      · exact prd_appN hpr (.cons ⟨ek', hd, hw⟩ .nil)
    obtain ⟨n1, s1⟩ := put_cell s ha hm (by nofun) (show CellOk K cl F L (GDict.DnO cl.pr cl.w d' (GDict.stK ks k b w)) (.dcn true _) from ⟨d', _, rfl, hq⟩)
    exact ⟨_, .inl ⟨a, d', ks, b, k, rfl, rfl, ho, pn_keys hpr s.sub, hk, by rw [prd_lenN hpr]; exact bigL' hl, rfl⟩, q _ n1 s1⟩
  | false =>
    obtain ⟨d', ks, rfl, hpr⟩ := hc
    have ek' : (lfD d).map Leaf.key = some k := ek
    obtain ⟨lf, hlf, rfl⟩ := Option.map_eq_some_iff.mp ek'
    have hq : Paired (PL K F) (putK ks lf w) (if kvs.any (fun p => decide (gkD false p.1 = some lf.key)) = true then kvs.map (fun p => if gkD false p.1 = some lf.key then (p.1, e) else p) else kvs ++ [(d, e)]) := by
      unfold putK
      rw [prd_any (pl_is (lf := lf)) hpr]
      split
      · refine prd_mapN (fun a b h => ?_) hpr
        have := pl_is (lf := lf) a b h
        rw [Bool.eq_iff_iff, decide_eq_true_eq, decide_eq_true_eq] at this
        by_cases hak : a.1 = lf
        · rw [if_pos hak, if_pos (this.mp hak)]
          exact ⟨h.1, hw⟩
        · rw [if_neg hak, if_neg (fun z => hak (this.mpr z))]
          exact h
      · exact prd_appN hpr (.cons ⟨hlf, hw⟩ .nil)
    obtain ⟨n1, s1⟩ := put_cell s ha hm (by nofun) (show CellOk K cl F L (GDict.DvO cl.pr cl.w d' (putK ks lf w)) (.dcn false _) from ⟨d', _, rfl, hq⟩)
    exact ⟨_, .inr ⟨a, d', ks, lf, rfl, ho, lfv_of hlf hd, by rw [prd_lenN hpr]; exact bigL' hl, rfl⟩, q _ n1 s1⟩
theorem gdel_ok {n : Nat} {t : Bool} {kvs kvs' : List (D × D)} {d : D} {v : V} {Q : Hp → Prop} (s : SV K cl F H L S) (hx : RV K cl L F Hx H x (.mu n)) (hm : S[n]? = some (.dcn t kvs)) (hd : Dp K F v d) (hp : gdel t kvs d = some kvs')
    (q : ∀ H', Nx L F H L F H' → SV K cl F H' L (S.set n (.dcn t kvs')) → Q H') : ∃ H4, GDict.GDel cl.pr cl.w K H x v H4 ∧ Q H4 := by
  obtain ⟨a, o, rfl, ha, ho, hc⟩ := mu_dcn s hx hm
  unfold gdel at hp
  obtain ⟨k, ek, hp⟩ := Option.bind_eq_some_iff.mp hp
  split at hp
  case isFalse => cases hp
  rename_i hany
  cases hp
  cases t with
  | true =>
    obtain ⟨d', ks, rfl, hpr⟩ := hc
    have ek' : gkT d = some k := ek
    obtain ⟨hk, b, rfl⟩ := nkv_of ek' hd s.sub
    have hq : Paired (PN K F) (GDict.woK ks k) (kvs.filter fun p => decide (gkD true p.1 ≠ some k)) := by
      unfold GDict.woK
      refine prd_filter (fun a b h => ?_) hpr
      have := pn_is (x := k) a b h
      rw [Bool.eq_iff_iff, decide_eq_true_eq, decide_eq_true_eq] at this
      rw [Bool.eq_iff_iff, decide_eq_true_eq, decide_eq_true_eq, Ne, Ne, this]
    obtain ⟨n1, s1⟩ := put_cell s ha hm (by nofun) (show CellOk K cl F L (GDict.DnO cl.pr cl.w d' (GDict.woK ks k)) (.dcn true _) from ⟨d', _, rfl, hq⟩)
    refine ⟨_, .inl ⟨a, d', ks, b, k, rfl, rfl, ho, pn_keys hpr s.sub, hk, ?_, rfl⟩, q _ n1 s1⟩
    unfold GDict.atK
    rw [Option.isSome_map, find_any, prd_any (pn_is (x := k)) hpr]
    exact hany
  | false =>
    obtain ⟨d', ks, rfl, hpr⟩ := hc
    have ek' : (lfD d).map Leaf.key = some k := ek
    obtain ⟨lf, hlf, rfl⟩ := Option.map_eq_some_iff.mp ek'
    have hq : Paired (PL K F) (dropK ks lf) (kvs.filter fun p => decide (gkD false p.1 ≠ some lf.key)) := by
      unfold dropK
      refine prd_filter (fun a b h => ?_) hpr
      have := pl_is (lf := lf) a b h
      rw [Bool.eq_iff_iff, decide_eq_true_eq, decide_eq_true_eq] at this
      rw [Bool.eq_iff_iff, decide_eq_true_eq]
      by_cases hak : a.1 = lf
      · simp [hak, this.mp hak]
      · simp only [hak, not_false_eq_true, true_iff, decide_eq_true_eq, Ne, iff_true, if_true]
        exact fun z => hak (this.mpr z)
    obtain ⟨n1, s1⟩ := put_cell s ha hm (by nofun) (show CellOk K cl F L (GDict.DvO cl.pr cl.w d' (dropK ks lf)) (.dcn false _) from ⟨d', _, rfl, hq⟩)
    refine ⟨_, .inr ⟨a, d', ks, lf, rfl, ho, lfv_of hlf hd, ?_, rfl⟩, q _ n1 s1⟩
    unfold valV
    rw [Option.isSome_map, find_any, prd_any (pl_is (lf := lf)) hpr]
    exact hany
end
end VM
end

section
set_option Elab.async false
set_option linter.all false
set_option maxRecDepth 100000
set_option maxHeartbeats 4000000
namespace VM
open PySem PySem.Spec PyProof.Rows L2 DL

section
variable {α β γ δ : Type} {K : PySem.W.Frag} {cl : ClT} {xc : XCl} {Ra : List Addr → Hp → Hp → Hp → γ → δ → Prop} {Rb : List Addr → Hp → Hp → Hp → β → α → Prop} {ρ : Rho} {S S1 : Stv} {W : WXK} {σ : L2.St} {L L1 L0 : List Addr} {F F0 F1 H H0 H1 Hx : Hp} {Q : β → Hp → Prop} {x y : V} {rx ry : Rv}
/-- one part, then the rest -/
theorem Evs.thn {ta : WXK → L2.St → Hp → (γ → Hp → Prop) → Prop} {o : Out δ} {f : δ → Stv → Out α} {Q1 : γ → Hp → Prop} (h : Evs K cl xc Ra ρ S1 ta o) (E : EOk K F1 L1 σ ρ) (s : SV K cl F1 H1 L1 S1) (n : Nx L F H L1 F1 H1) (p : Pst K cl xc Rb (o.bind f) L F H W σ Q)
    (k : ∀ r S2, o = .ok r S2 → ∀ v F2 H2 L2, Nx L1 F1 H1 L2 F2 H2 → SV K cl F2 H2 L2 S2 → EOk K F2 L2 σ ρ → Ra L2 F2 H1 H2 v r → Pst K cl xc Rb (f r S2) L F H W σ Q → Q1 v H2) : ta W σ H1 Q1 := by
  refine h σ F1 H1 L1 E s W Q1 ?_
  cases o with
  | ok r S2 => exact fun v F2 H2 L2 n2 s2 r2 => k r S2 rfl v F2 H2 L2 n2 s2 (n2.eok E) r2 p
  | ex c fs S' => exact fun d F' H' L' n' s' x' => p d F' H' L' (n.trans n') s' (x'.back n)
  | bad => exact p.elim
theorem tru_thn {f : Bool → Stv → Out α} (s : SV K cl F H L S) (h : RV K cl L F Hx H x rx) (p : Pst K cl xc Rb ((truO rx S).bind f) L0 F0 H0 W σ Q) : ∃ k, truR S rx = some k ∧ TruV K x H k ∧ Pst K cl xc Rb (f k S) L0 F0 H0 W σ Q := by
  unfold truO at p
  cases e : truR S rx with
  | none => rw [e] at p; exact p.elim
  | some k =>
    rw [e] at p
    exact ⟨k, rfl, tru_rd s h e, p⟩
theorem cmp_thn {o : Cop} {f : Bool → Stv → Out α} (p : Pst K cl xc Rb ((cmpO o rx ry S).bind f) L0 F0 H0 W σ Q) : ∃ k, cmpR o rx ry S = some k ∧ Pst K cl xc Rb (f k S) L0 F0 H0 W σ Q := by
  unfold cmpO at p
  cases e : cmpR o rx ry S with
  | none => rw [e] at p; exact p.elim
  | some k =>
    rw [e] at p
    exact ⟨k, rfl, p⟩
theorem ena_dps : ∀ {es : List En} {ds : List D} {vs : List V}, EnA K F L vs es → enDs es = some ds → DpAll K F vs ds
  | [], ds, vs, h, e => by
    cases e
    have : vs = [] := List.length_eq_zero_iff.mp h.1
    rw [this]
    exact .nil
  | en :: es, ds, vs, h, e => by
    cases en with
    | dt d =>
      obtain ⟨ds', hd, rfl⟩ := Option.map_eq_some_iff.mp e
      cases vs with
      | nil => cases h.1
      | cons v vs =>
        obtain ⟨o, ho, w, ew, hw⟩ := h.2 0 _ rfl
        cases ho
        cases ew
        exact .cons hw (ena_dps ⟨by simpa using h.1, fun i e he => h.2 (i + 1) e he⟩ hd)
    | un => cases e
    | mu n => cases e
theorem ena_nil : EnA K F L [] [] := ⟨rfl, fun i e h => by cases i <;> cases h⟩
theorem ena_cons {v : V} {e : En} {vs : List V} {es : List En} (h : EnOk K F L e (some v)) (t : EnA K F L vs es) : EnA K F L (v :: vs) (e :: es) := ena_app (ena_one h) t
theorem enDs_len : ∀ {es : List En} {ds : List D}, enDs es = some ds → ds.length = es.length
  | [], ds, e => by cases e; rfl
  | .dt d :: es, ds, e => by
    obtain ⟨ds', hd, rfl⟩ := Option.map_eq_some_iff.mp e
    simp [enDs_len hd]
  | .un :: es, ds, e => by cases e
  | .mu _ :: es, ds, e => by cases e
theorem fs_lookup {m : Str} : ∀ {vs : List (Str × V)} {fs : List (Str × En)}, vs.map (·.1) = fs.map (·.1) → EnA K F L (vs.map (·.2)) (fs.map (·.2)) → (∀ e, fs.lookup m = some e → ∃ v, vs.lookup m = some v ∧ EnOk K F L e (some v)) ∧ (fs.lookup m = none → vs.lookup m = none)
  | [], [], _, _ => ⟨fun e h => (by cases h), fun _ => rfl⟩
  | (a, v) :: vs, (b, e) :: fs, hn, h => by
    simp only [List.map_cons, List.cons.injEq] at hn
    obtain ⟨rfl, hn⟩ := hn
    have ht : EnA K F L (vs.map (·.2)) (fs.map (·.2)) := ⟨by have := h.1; simpa using this, fun i e he => h.2 (i + 1) e he⟩
    obtain ⟨i1, i2⟩ := fs_lookup (m := m) hn ht
    simp only [List.lookup_cons]
    cases hm : m == a with
    | true =>
      refine ⟨fun e' he => ?_, fun he => by cases he⟩
      cases he
      obtain ⟨o, ho, hq⟩ := h.2 0 e rfl
      cases ho
      exact ⟨v, rfl, hq⟩
    | false => exact ⟨i1, i2⟩
  | [], _ :: _, hn, _ => by cases hn
  | _ :: _, [], hn, _ => by cases hn
theorem mu_obj {n c : Nat} {fs : List (Str × En)} (s : SV K cl F H L S) (h : RV K cl L F Hx H x (.mu n)) (e : S[n]? = some (.obj c fs)) : ∃ a dx vs, x = .ref a ∧ L[n]? = some a ∧ H a = some (.ins (cl c) dx vs) ∧ vs.map (·.1) = fs.map (·.1) ∧ EnA K F L (vs.map (·.2)) (fs.map (·.2)) := by
  obtain ⟨a, rfl, ha⟩ := h
  obtain ⟨_, h2⟩ := s.st _ a ha
  obtain ⟨_, o, ho, dx, vs, rfl, hn, hd⟩ := h2 _ e (by nofun)
  exact ⟨a, dx, vs, rfl, ha, ho, hn, hd⟩
theorem dpa_rg {f : Nat → Int} : ∀ l : List Nat, DpAll K F (l.map fun i => V.int (f i)) (l.map fun i => PyData.int (f i))
  | [] => .nil
  | i :: l => .cons (.int _) (dpa_rg l)
theorem rg_new {i j : Int} {t : Bool} {Q : VK} (hi : -1000000 ≤ i ∧ i ≤ 1000000 ∧ -1000000 ≤ j ∧ j ≤ 1000000) (n : Nx L0 F0 H0 L F H) (s : SV K cl F H L S) (p : Pst K cl xc (RV K cl) (if t = true then okD (.tuple (rngD i (j - i).toNat)) S else .ok (.nw (.lst (rngD i (j - i).toNat))) S) L0 F0 H0 W σ Q) :
    RgOk i j ∧ (t = true → ∀ q, H q = none → Q (.ref q) (upd H q (.tup (rgV i j)))) ∧ (t ≠ true → ∀ q, H q = none → Q (.ref q) (upd H q (.lst (rgV i j)))) := by
  have hd : DpAll K F (rgV i j) (rngD i (j - i).toNat) := dpa_rg _
  refine ⟨⟨by omega, by omega, by omega, by omega, by omega⟩, fun ht q hq => ?_, fun ht q hq => ?_⟩
  · rw [if_pos ht] at p
    obtain ⟨n1, s1, d1⟩ := nx_tup s hq hd
    exact p _ _ _ _ (n.trans n1) s1 d1
  · rw [if_neg ht] at p
    obtain ⟨n1, s1⟩ := nx_lay s hq (.lst (rgV i j))
    exact p _ _ _ _ (n.trans n1) s1 ((rv_new (c := .lst (rngD i (j - i).toNat)) s hq ⟨_, rfl, hd⟩).back n)
theorem bmT_l {b : Bmt} (hb : b ≠ .join) (s : SV K cl F H L S) (h : RV K cl L F Hx H x rx) (e : bmT b rx S = true) : tyV K "list" x H ∧ ∃ n, rx = .mu n := by
  unfold bmT at e
  split at e
  · exact absurd rfl hb
  all_goals first | (cases e; done) | skip
  all_goals
    split at e
    · rename_i ds hm
      obtain ⟨a, ws, rfl, ha, ho, hd⟩ := mu_lst s h hm
      exact ⟨.inl ⟨rfl, ws, .inl (.inl ho)⟩, _, rfl⟩
    · rename_i es hm
      obtain ⟨a, ws, rfl, ha, ho, hd⟩ := mu_lse s h hm
      exact ⟨.inl ⟨rfl, ws, .inl (.inl ho)⟩, _, rfl⟩
    · cases e
end
theorem bmT_j {r : Rv} {S : Stv} (h : bmT .join r S = true) : ∃ z, r = .v (.str z) := by
  cases r with
  | v d => cases d <;> first | exact ⟨_, rfl⟩ | cases h
  | mu n => cases h
  | nw c => cases h
theorem items_chk {rx : Rv} {S S1 : Stv} {is : Items} (h : itemsO rx S = .ok is S1) : chk is.2 S1 := by
  unfold itemsO at h
  split at h
  all_goals first | (cases h; done) | (cases h; trivial) | skip
  split at h
  · rename_i hm
    cases h
    exact hm
  · rename_i hm
    cases h
    exact hm
  · cases h
theorem enu_chk {rx : Rv} {S S1 : Stv} {is : Items} (h : enuO rx S = .ok is S1) : chk is.2 S1 := by
  unfold enuO at h
  split at h
  all_goals first | (cases h; done) | (cases h; trivial) | skip
  split at h
  · rename_i hm
    cases h
    exact hm
  · cases h
theorem rev_chk {rx : Rv} {S S1 : Stv} {is : Items} (h : revO rx S = .ok is S1) : chk is.2 S1 := by
  unfold revO at h
  split at h
  all_goals first | (cases h; done) | (cases h; trivial) | skip
  split at h
  · rename_i hm
    cases h
    exact hm
  · cases h
theorem evI_chk {cb : CB} {ρ : Rho} {S S1 : Stv} {it : Itr} {is : Items} (h : evI cb ρ S it = .ok is S1) : chk is.2 S1 := by
  cases it with
  | sq e =>
    unfold evI at h
    cases h1 : evE cb ρ S e with
    | ok x S2 => rw [h1] at h; exact items_chk h
    | ex c fs S2 => rw [h1] at h; cases h
    | bad => rw [h1] at h; cases h
  | rg1 a =>
    unfold evI at h
    cases h1 : evE cb ρ S a with
    | ok x S2 =>
      rw [h1] at h
      simp only [Out.bind_ok] at h
      split at h
      · split at h
        · cases h; trivial
        · cases h
      · cases h
    | ex c fs S2 => rw [h1] at h; cases h
    | bad => rw [h1] at h; cases h
  | rrg a =>
    unfold evI at h
    cases h1 : evE cb ρ S a with
    | ok x S2 =>
      rw [h1] at h
      simp only [Out.bind_ok] at h
      split at h
      · split at h
        · cases h; trivial
        · cases h
      · cases h
    | ex c fs S2 => rw [h1] at h; cases h
    | bad => rw [h1] at h; cases h
  | rg2 a b =>
    unfold evI at h
    cases h1 : evE cb ρ S a with
    | ok x S2 =>
      rw [h1] at h
      simp only [Out.bind_ok] at h
      cases h2 : evE cb ρ S2 b with
      | ok y S3 =>
        rw [h2] at h
        simp only [Out.bind_ok] at h
        split at h
        · split at h
          · cases h; trivial
          · cases h
        · cases h
      | ex c fs S2 => rw [h2] at h; cases h
      | bad => rw [h2] at h; cases h
    | ex c fs S2 => rw [h1] at h; cases h
    | bad => rw [h1] at h; cases h
  | enu e =>
    unfold evI at h
    cases h1 : evE cb ρ S e with
    | ok x S2 => rw [h1] at h; exact enu_chk h
    | ex c fs S2 => rw [h1] at h; cases h
    | bad => rw [h1] at h; cases h
  | rev e =>
    unfold evI at h
    cases h1 : evE cb ρ S e with
    | ok x S2 => rw [h1] at h; exact rev_chk h
    | ex c fs S2 => rw [h1] at h; cases h
    | bad => rw [h1] at h; cases h

/-! texts out of parts -/
theorem txt_s {z : Str} {S : Stv} (h : z.length ≤ sizeLine) : txtO (.v (.str z)) S = .ok z S := by
  show (if z.length ≤ sizeLine then _ else _) = _
  rw [if_pos h]
theorem txt_sb {z : Str} {S : Stv} (h : ¬ z.length ≤ sizeLine) : txtO (.v (.str z)) S = .bad := by
  show (if z.length ≤ sizeLine then _ else _) = _
  rw [if_neg h]
theorem txt_i {z : Int} {S : Stv} (h : z.natAbs.log2 < 1920) : txtO (.v (.int z)) S = .ok (toString z : String) S := by
  show (if z.natAbs.log2 < 1920 then _ else _) = _
  rw [if_pos h]
theorem txt_ib {z : Int} {S : Stv} (h : ¬ z.natAbs.log2 < 1920) : txtO (.v (.int z)) S = .bad := by
  show (if z.natAbs.log2 < 1920 then _ else _) = _
  rw [if_neg h]
theorem txt_any (r : Rv) (S : Stv) : (∃ z, r = .v (.str z)) ∨ (∃ z, r = .v (.int z)) ∨ txtO r S = .bad := by
  cases r with
  | v d => cases d <;> first | exact .inl ⟨_, rfl⟩ | exact .inr (.inl ⟨_, rfl⟩) | exact .inr (.inr rfl)
  | mu n => exact .inr (.inr rfl)
  | nw c => exact .inr (.inr rfl)
/-! dicts of constants; get -/
def ddgT (K : PySem.W.Frag) (V0 : Nat → V) (p : Str × Option Nat × D) : TE × TE := (tC (.str p.1), match p.2.1 with | some i => tGlb K (V0 i) p.2.2 | none => tC (vD p.2.2))
theorem tPairs_glb {K : PySem.W.Frag} {V0 : Nat → V} {σ : L2.St} {H : Hp} : ∀ {kvs : List (Str × Option Nat × D)} {Q : List (V × V) → Hp → Prop}, (kvs.all fun p => p.2.1.isSome || isC p.2.2) = true →
    (∀ us : List V, (∀ F : Hp, DpAll K F us (kvs.map (·.2.2))) → kvs.length = us.length → Q ((kvs.zip us).map fun p => (V.str p.1.1, p.2)) H) → tPairs (kvs.map fun p => (tC (.str p.1), match p.2.1 with | some i => tGlb K (V0 i) p.2.2 | none => tC (vD p.2.2))) σ H Q
  | [], Q, _, q => q [] (fun _ => .nil) rfl
  | p :: kvs, Q, h, q => by
    rw [List.all_cons, Bool.and_eq_true] at h
    obtain ⟨k, o, d⟩ := p
    have go : ∀ v, (∀ F : Hp, Dp K F v d) → tPairs (kvs.map fun p => (tC (.str p.1), match p.2.1 with | some i => tGlb K (V0 i) p.2.2 | none => tC (vD p.2.2))) σ H (fun ps H3 => Q ((V.str k, v) :: ps) H3) := fun v hv => by
      refine tPairs_glb h.2 fun us hu hl => ?_
      exact q (v :: us) (fun F => .cons (hv F) (hu F)) (by rw [List.length_cons, List.length_cons, hl])
    cases o with
    | some i => exact fun hk => go _ fun F => hk.dp F
    | none =>
      refine go (vD d) fun F => ?_
      have hc : isC d = true := by simpa using h.1
      cases d <;> first | (cases hc; done) | skip
      · exact (.non : Dp K F .non .none)
      · exact (.bl _ : Dp K F (.bl _) (.bool _))
      · exact (.int _ : Dp K F (.int _) (.int _))
      · exact (.str _ : Dp K F (.str _) (.str _))
theorem mergeK_appG : ∀ (kvs acc : List (Str × V)), (acc.map (·.1) ++ kvs.map (·.1)).Nodup → mergeK (acc.map fun p => ((.inr p.1 : Key), p.2)) (kvs.map fun p => ((.inr p.1 : Key), p.2)) = (acc ++ kvs).map fun p => ((.inr p.1 : Key), p.2)
  | [], acc, _ => by simp [mergeK]
  | p :: kvs, acc, h => by
    have hp : p.1 ∉ acc.map (·.1) := fun z => by
      rw [List.nodup_append] at h
      exact h.2.2 _ z _ (by simp) rfl
    have e : putK (acc.map fun p => ((.inr p.1 : Key), p.2)) (.inr p.1) p.2 = (acc ++ [p]).map fun p => ((.inr p.1 : Key), p.2) := by
      unfold putK
      rw [if_neg]
      · simp
      · intro z
        rw [List.any_eq_true] at z
        obtain ⟨q, hq, hz⟩ := z
        obtain ⟨r, hr, rfl⟩ := List.mem_map.mp hq
        have : r.1 = p.1 := by simpa using hz
        exact hp (List.mem_map.mpr ⟨r, hr, this⟩)
    have ih := mergeK_appG kvs (acc ++ [p]) (by simpa using h)
    rw [List.append_assoc] at ih
    rw [List.map_cons, mergeK, List.foldl_cons]
    dsimp only
    rw [e]
    exact ih
theorem mergeK_newG {kvs : List ((Str × Option Nat × D) × V)} (h : (kvs.map fun p => p.1.1).Nodup) : mergeK [] (kvs.map fun p => ((.inr p.1.1 : Key), p.2)) = kvs.map fun p => ((.inr p.1.1 : Key), p.2) := by
  have := mergeK_appG (kvs.map fun p => (p.1.1, p.2)) [] (by rw [List.map_nil, List.nil_append, List.map_map]; exact h)
  simpa [List.map_map, Function.comp_def] using this
theorem zip_nodup {kvs : List (Str × Option Nat × D)} {us : List V} (hl : kvs.length = us.length) (h : (kvs.map (·.1)).Nodup) : ((kvs.zip us).map fun p => p.1.1).Nodup := by
  have e : (kvs.zip us).map (fun p => p.1.1) = kvs.map (·.1) := by
    rw [show (fun p : (Str × Option Nat × D) × V => p.1.1) = (fun q : Str × Option Nat × D => q.1) ∘ Prod.fst from rfl, ← List.map_map, List.map_fst_zip (Nat.le_of_eq hl)]
  rw [e]
  exact h
theorem prd_glb {K : PySem.W.Frag} {F : Hp} : ∀ {kvs : List (Str × Option Nat × D)} {us : List V}, (∀ F : Hp, DpAll K F us (kvs.map (·.2.2))) → kvs.length = us.length → Paired (fun (p : Key × V) (q : D × D) => keyK q.1 = some p.1 ∧ Dp K F p.2 q.2) ((kvs.zip us).map fun p => ((.inr p.1.1 : Key), p.2)) (kvs.map fun p => (.str p.1, p.2.2))
  | [], [], _, _ => .nil
  | p :: kvs, u :: us, h, hl => .cons ⟨rfl, by cases h F with | cons a b => exact a⟩ (prd_glb (fun F => by cases h F with | cons a b => exact b) (by simpa using hl))
  | [], _ :: _, _, hl => by cases hl
  | _ :: _, [], _, hl => by cases hl
theorem tPairs_con {σ : L2.St} {H : Hp} {Q : List (V × V) → Hp → Prop} : ∀ {kvs : List (Str × Str)}, tPairs (kvs.map fun p => (tC (.str p.1), tC (.str p.2))) σ H Q = Q (kvs.map fun p => (V.str p.1, V.str p.2)) H
  | [] => rfl
  | p :: kvs => by
    show tPairs (kvs.map fun p => (tC (.str p.1), tC (.str p.2))) σ H (fun ps H3 => Q ((V.str p.1, V.str p.2) :: ps) H3) = _
    rw [tPairs_con]
    rfl
theorem mergeK_app : ∀ (kvs : List (Str × Str)) (acc : List (Str × Str)), (acc.map (·.1) ++ kvs.map (·.1)).Nodup → mergeK (acc.map fun p => ((.inr p.1 : Key), V.str p.2)) (kvs.map fun p => ((.inr p.1 : Key), V.str p.2)) = (acc ++ kvs).map fun p => ((.inr p.1 : Key), V.str p.2)
  | [], acc, _ => by simp [mergeK]
  | p :: kvs, acc, h => by
    have hp : p.1 ∉ acc.map (·.1) := fun z => by
      rw [List.nodup_append] at h
      exact h.2.2 _ z _ (by simp) rfl
    have e : putK (acc.map fun p => ((.inr p.1 : Key), V.str p.2)) (.inr p.1) (.str p.2) = (acc ++ [p]).map fun p => ((.inr p.1 : Key), V.str p.2) := by
      unfold putK
      rw [if_neg]
      · simp
      · intro z
        rw [List.any_eq_true] at z
        obtain ⟨q, hq, hz⟩ := z
        obtain ⟨r, hr, rfl⟩ := List.mem_map.mp hq
        have : r.1 = p.1 := by simpa using hz
        exact hp (List.mem_map.mpr ⟨r, hr, this⟩)
    have := mergeK_app kvs (acc ++ [p]) (by simpa using h)
    unfold mergeK at this ⊢
    rw [List.map_cons, List.foldl_cons, e, this]
    simp
theorem mergeK_new {kvs : List (Str × Str)} (h : (kvs.map (·.1)).Nodup) : mergeK [] (kvs.map fun p => ((.inr p.1 : Key), V.str p.2)) = kvs.map fun p => ((.inr p.1 : Key), V.str p.2) := by
  have := mergeK_app kvs [] (by simpa using h)
  simpa using this
theorem prd_con {K : PySem.W.Frag} {F : Hp} : ∀ (kvs : List (Str × Str)), Paired (fun (p : Key × V) (q : D × D) => keyK q.1 = some p.1 ∧ Dp K F p.2 q.2) (kvs.map fun p => ((.inr p.1 : Key), V.str p.2)) (kvs.map fun p => ((.str p.1 : D), (.str p.2 : D)))
  | [] => .nil
  | p :: kvs => .cons ⟨rfl, .str _⟩ (prd_con kvs)
theorem dctB_mu {r : Rv} {S : Stv} (h : dctB r S = true) : ∃ n kvs, r = .mu n ∧ S[n]? = some (.dct false kvs) := by
  unfold dctB at h
  split at h
  · rename_i n
    split at h
    · rename_i kvs hm
      exact ⟨n, _, rfl, hm⟩
    · cases h
  · cases h
theorem dgt_ok {K : PySem.W.Frag} {cl : ClT} {xc : XCl} {L L0 : List Addr} {F F0 H H0 Hx Hy Hz : Hp} {S : Stv} {a : Addr} {y z : V} {m : Nat} {ry rz : Rv} {W : WXK} {σ : L2.St} {Q : VK} (n : Nx L0 F0 H0 L F H) (s : SV K cl F H L S) (hx : RV K cl L F Hx H (.ref a) (.mu m)) (hy : RV K cl L F Hy H y ry) (hz : RV K cl L F Hz H z rz) (p : Pst K cl xc (RV K cl) (dgtO (.mu m) ry rz S) L0 F0 H0 W σ Q) :
    ∃ o, DGet H a y o ∧ Q (o.getD z) H := by
  unfold dgtO at p
  split at p
  · rename_i m' d h1
    cases h1
    split at p
    · rename_i kvs hm
      have hx' := hx
      obtain ⟨b, eb, ha⟩ := hx'
      cases eb
      obtain ⟨_, h2⟩ := s.st _ a ha
      obtain ⟨_, o0, ho, hc⟩ := h2 _ hm (by nofun)
      have key : ∀ r : Option D, dgetD false kvs d = some r → ∃ r', DGet H a y r' ∧ (∀ z, r = some z → ∃ w, r' = some w ∧ Dp K F w z) ∧ (r = none → r' = none) := fun r hr => by
        obtain ⟨r', g, g1, g2⟩ := dget_rd hc ho s.sub hy hr
        refine ⟨r', ?_, g1, g2⟩
        obtain ⟨hk, rfl, _⟩ := hc
        rcases g with ⟨kv, k, e1, e2, e3⟩ | ⟨kv, k, b, e1, _⟩
        · exact .inl ⟨kv, k, e1, e2, e3⟩
        · rcases e1 with e1 | ⟨u, e1⟩
          · rw [ho] at e1; cases e1
          · rw [ho] at e1; cases e1
      split at p
      · rename_i e he
        obtain ⟨r', g, g1, _⟩ := key _ he
        obtain ⟨w, rfl, hw⟩ := g1 e rfl
        exact ⟨_, g, pst_d n s hw p⟩
      · rename_i he
        obtain ⟨r', g, _, g2⟩ := key _ he
        rw [g2 rfl] at g
        split at p
        · rename_i e
          exact ⟨none, g, pst_d n s hz p⟩
        · exact p.elim
      · exact p.elim
    · exact p.elim
  · exact p.elim

/-! ## the machine does what the term computes -/
structure Har (E : Env0) : Prop where
  ar : ∀ b g es S, E.cb b g es S ≠ .bad → es.length = E.ar g
mutual
theorem sE {E : Env0} (hE : Har E) : ∀ (e : Ex) (ρ : Rho) (S : Stv), EV E.K E.cl E.xc ρ S (dE E e) (evE E.cb ρ S e)
  | .var i, ρ, S => fun σ F H L e s W Q p => by
    unfold evE at p
    split at p
    · rename_i d hd
      obtain ⟨o, ho, v, rfl, hv⟩ := e i _ hd
      exact ⟨v, ho, p v F H L (.refl _ _ _) s hv⟩
    · rename_i m hm
      obtain ⟨o, ho, a, rfl, ha⟩ := e i _ hm
      exact ⟨_, ho, p _ F H L (.refl _ _ _) s ⟨a, rfl, ha⟩⟩
    · exact p.elim
  | .con d, ρ, S => fun σ F H L e s W Q p => by
    unfold evE at p
    split at p
    · rename_i hc
      refine p _ F H L (.refl _ _ _) s ?_
      cases d <;> first | (cases hc; done) | skip
      · exact (.non : Dp E.K F .non .none)
      · exact (.bl _ : Dp E.K F (.bl _) (.bool _))
      · exact (.int _ : Dp E.K F (.int _) (.int _))
      · exact (.str _ : Dp E.K F (.str _) (.str _))
    · exact p.elim
  | .glb k d, ρ, S => fun σ F H L e s W Q p hk => by
    unfold evE at p
    exact p _ F H L (.refl _ _ _) s (hk.dp F)
  | .bin o a b, ρ, S => fun σ F H L e s W Q p => by
    unfold evE at p
    refine (sE hE a ρ S).thn e s (.refl _ _ _) p fun r1 S1 _ v1 F1 H1 L1 n1 s1 e1 x1 p => ?_
    refine (sE hE b ρ S1).thn e1 s1 n1 p fun r2 S2 _ v2 F2 H2 L2 n2 s2 e2 x2 p => ?_
    exact bin_ok o (n1.trans n2) s2 (x1.fwd n2) x2 p
  | .neg a, ρ, S => fun σ F H L e s W Q p => by
    unfold evE at p
    refine (sE hE a ρ S).thn e s (.refl _ _ _) p fun r1 S1 _ v1 F1 H1 L1 n1 s1 e1 x1 p => ?_
    split at p
    · cases dp_int x1
      exact ⟨_, rfl, pst_d n1 s1 (.int _) p⟩
    · exact p.elim
  | .not a, ρ, S => fun σ F H L e s W Q p => by
    unfold evE at p
    refine (sE hE a ρ S).thn e s (.refl _ _ _) p fun r1 S1 _ v1 F1 H1 L1 n1 s1 e1 x1 p => ?_
    obtain ⟨k, _, tk, p⟩ := tru_thn s1 x1 p
    exact ⟨k, tk, pst_d n1 s1 (.bl _) p⟩
  | .and a b, ρ, S => fun σ F H L e s W Q p => by
    unfold evE at p
    refine (sE hE a ρ S).thn e s (.refl _ _ _) p fun r1 S1 _ v1 F1 H1 L1 n1 s1 e1 x1 p => ?_
    obtain ⟨k, _, tk, p⟩ := tru_thn s1 x1 p
    refine ⟨k, tk, ?_⟩
    split at p
    · rename_i hk
      rw [if_pos hk]
      exact (sE hE b ρ S1).at bkV e1 n1 s1 p
    · rename_i hk
      rw [if_neg hk]
      exact p _ _ _ _ n1 s1 x1
  | .or a b, ρ, S => fun σ F H L e s W Q p => by
    unfold evE at p
    refine (sE hE a ρ S).thn e s (.refl _ _ _) p fun r1 S1 _ v1 F1 H1 L1 n1 s1 e1 x1 p => ?_
    obtain ⟨k, _, tk, p⟩ := tru_thn s1 x1 p
    refine ⟨k, tk, ?_⟩
    split at p
    · rename_i hk
      rw [if_pos hk]
      exact p _ _ _ _ n1 s1 x1
    · rename_i hk
      rw [if_neg hk]
      exact (sE hE b ρ S1).at bkV e1 n1 s1 p
  | .ife c a b, ρ, S => fun σ F H L e s W Q p => by
    unfold evE at p
    refine (sT hE c ρ S).thn e s (.refl _ _ _) p fun k S1 _ k' F1 H1 L1 n1 s1 e1 x1 p => ?_
    have x1 : k' = k := x1
    subst x1
    split at p
    · rename_i hk
      rw [if_pos hk]
      exact (sE hE a ρ S1).at bkV e1 n1 s1 p
    · rename_i hk
      rw [if_neg hk]
      exact (sE hE b ρ S1).at bkV e1 n1 s1 p
  | .cmp o a b, ρ, S => fun σ F H L e s W Q p => by
    unfold evE at p
    refine (sE hE a ρ S).thn e s (.refl _ _ _) p fun r1 S1 _ v1 F1 H1 L1 n1 s1 e1 x1 p => ?_
    refine (sE hE b ρ S1).thn e1 s1 n1 p fun r2 S2 _ v2 F2 H2 L2 n2 s2 e2 x2 p => ?_
    obtain ⟨k, hk, p⟩ := cmp_thn p
    exact cmp_rd o n2 s2 (x1.fwd n2) x2 hk (pst_d (n1.trans n2) s2 (.bl _) p)
  | .chn o o' a b c, ρ, S => fun σ F H L e s W Q p => by
    unfold evE at p
    refine (sE hE a ρ S).thn e s (.refl _ _ _) p fun r1 S1 _ v1 F1 H1 L1 n1 s1 e1 x1 p => ?_
    refine (sE hE b ρ S1).thn e1 s1 n1 p fun r2 S2 _ v2 F2 H2 L2 n2 s2 e2 x2 p => ?_
    obtain ⟨k, hk, p⟩ := cmp_thn p
    refine cmp_rd o n2 s2 (x1.fwd n2) x2 hk ⟨k, rfl, ?_⟩
    split at p
    · rename_i hk
      rw [if_pos hk]
      refine (sE hE c ρ S2).thn e2 s2 (n1.trans n2) p fun r3 S3 _ v3 F3 H3 L3 n3 s3 e3 x3 p => ?_
      obtain ⟨k', hk', p⟩ := cmp_thn p
      exact cmp_rd o' n3 s3 (x2.fwd n3) x3 hk' (pst_d ((n1.trans n2).trans n3) s3 (.bl _) p)
    · rename_i hk
      rw [if_neg hk]
      exact pst_d (n1.trans n2) s2 (.bl _) p
  | .tup es, ρ, S => fun σ F H L e s W Q p => by
    unfold evE at p
    refine (sA hE es ρ S).thn e s (.refl _ _ _) p fun ens S1 _ vs F1 H1 L1 n1 s1 e1 x1 p => ?_
    split at p
    · rename_i hl
      split at p
      · rename_i ds hd
        have hp := ena_dps x1 hd
        refine ⟨by rw [x1.1]; exact bigL hl, fun q hq => ?_⟩
        obtain ⟨n2, s2, d2⟩ := nx_tup s1 hq hp
        exact p _ _ _ _ (n1.trans n2) s2 d2
      · exact p.elim
    · exact p.elim
  | .lst es, ρ, S => fun σ F H L e s W Q p => by
    unfold evE at p
    refine (sA hE es ρ S).thn e s (.refl _ _ _) p fun ens S1 _ vs F1 H1 L1 n1 s1 e1 x1 p => ?_
    split at p
    · rename_i hl
      refine ⟨by rw [x1.1]; exact bigL hl, fun q hq => ?_⟩
      obtain ⟨n2, s2⟩ := nx_lay s1 hq (.lst vs)
      split at p
      · rename_i ds hd
        exact p _ _ _ _ (n1.trans n2) s2 ((rv_new (c := .lst ds) s1 hq ⟨_, rfl, ena_dps x1 hd⟩).back n1)
      · exact p _ _ _ _ (n1.trans n2) s2 ((rv_new (c := .lse ens) s1 hq ⟨_, rfl, x1⟩).back n1)
    · exact p.elim
  | .dnw t, ρ, S => fun σ F H L e s W Q p => by
    unfold evE at p
    cases t with
    | true =>
      intro q hq
      obtain ⟨n2, s2⟩ := nx_lay s hq (.dT [])
      exact p _ _ _ _ n2 s2 (rv_new (c := .dct true []) s hq ⟨_, rfl, .nil⟩)
    | false =>
      intro q hq
      obtain ⟨n2, s2⟩ := nx_lay s hq (.dK [])
      exact p _ _ _ _ n2 s2 (rv_new (c := .dct false []) s hq ⟨_, rfl, .nil⟩)
  | .idx a i, ρ, S => fun σ F H L e s W Q p => by
    unfold evE at p
    refine (sE hE a ρ S).thn e s (.refl _ _ _) p fun r1 S1 _ v1 F1 H1 L1 n1 s1 e1 x1 p => ?_
    refine (sE hE i ρ S1).thn e1 s1 n1 p fun r2 S2 _ v2 F2 H2 L2 n2 s2 e2 x2 p => ?_
    exact idx_ok (n1.trans n2) s2 (x1.fwd n2) x2 p
  | .slc a lo hi, ρ, S => fun σ F H L e s W Q p => by
    unfold evE at p
    refine (sE hE a ρ S).thn e s (.refl _ _ _) p fun r1 S1 _ v1 F1 H1 L1 n1 s1 e1 x1 p => ?_
    refine (sO hE lo ρ S1).thn e1 s1 n1 p fun r2 S2 _ v2 F2 H2 L2 n2 s2 e2 x2 p => ?_
    refine (sO hE hi ρ S2).thn e2 s2 (n1.trans n2) p fun r3 S3 _ v3 F3 H3 L3 n3 s3 e3 x3 p => ?_
    have x2 : v2 = r2 := x2
    have x3 : v3 = r3 := x3
    subst x2 x3
    exact slc_ok ((n1.trans n2).trans n3) s3 ((x1.fwd n2).fwd n3) p
  | .call f es, ρ, S => fun σ F H L e s W Q p => by
    unfold evE at p
    refine (sA hE es ρ S).thn e s (.refl _ _ _) p fun ens S1 _ vs F1 H1 L1 n1 s1 e1 x1 p => ?_
    rw [List.append_nil]
    exact callK_ok (hE.ar false f) n1 s1 x1 p
  | .mth c f m o es, ρ, S => fun σ F H L e s W Q p => by
    unfold evE at p
    refine (sE hE o ρ S).thn e s (.refl _ _ _) p fun r1 S1 _ v1 F1 H1 L1 n1 s1 e1 x1 p => ?_
    split at p
    · split at p
      · split at p
        · rename_i k c' fs hm hc
          obtain ⟨hcc, hl⟩ := hc
          obtain ⟨a, dx, ws, rfl, ha, ho, hn, hd⟩ := mu_obj s1 x1 hm
          rw [hcc] at ho
          refine ⟨a, dx, ws, rfl, ho, (fs_lookup (m := m) hn hd).2 hl, ?_⟩
          refine (sA hE es ρ S1).thn e1 s1 n1 p fun ens S2 _ vs F2 H2 L2 n2 s2 e2 x2 p => ?_
          rw [List.append_nil]
          exact callK_ok (hE.ar false f) (n1.trans n2) s2 (ena_cons (e := .mu _) ⟨a, rfl, n2.get ha⟩ x2) p
        · exact p.elim
      · exact p.elim
    · exact p.elim
  | .mak c f es, ρ, S => fun σ F H L e s W Q p => by
    unfold evE at p
    refine (sA hE es ρ S).thn e s (.refl _ _ _) p fun ens S1 _ vs F1 H1 L1 n1 s1 e1 x1 p => ?_
    intro x dx hx hdx hne
    rw [List.append_nil]
    obtain ⟨na, sa⟩ := nx_lay s1 hdx (.own x)
    have hx2 : upd H1 dx (.own x) x = none := by rw [upd_ne (Ne.symm hne)]; exact hx
    obtain ⟨nb, sb⟩ := nx_lay sa hx2 (.ins (E.cl c) dx [])
    have hL := fr_L sa hx2
    obtain ⟨nc, sc, hg⟩ := own_new (na.trans nb) sb hx hL (fr_F sa hx2) upd_same (show CellOk E.K E.cl F1 L1 (.ins (E.cl c) dx []) (.obj c []) from ⟨dx, [], rfl, rfl, ena_nil⟩)
    have xa : EnA E.K F1 (L1 ++ [x]) vs ens := x1.mono (Same.refl _)
    refine callK_ok (hE.ar true f) (.refl _ _ _) sc (ena_cons (e := .mu S1.length) ⟨x, rfl, hg⟩ xa) ?_ (Q := fun v H2 => v = .non ∧ Q (.ref x) H2) (ks := reach 100 (S1 ++ [.obj c []]) [] ((En.mu S1.length :: ens).flatMap refE))
    unfold callC at p
    cases hr : callK (E.cb true) f (.mu S1.length :: ens) (S1 ++ [.obj c []]) (reach 100 (S1 ++ [.obj c []]) [] ((En.mu S1.length :: ens).flatMap refE)) with
    | bad => rw [hr] at p; exact p.elim
    | ex c fs S2 =>
      rw [hr] at p
      exact fun d F' H' L' n' s' x' => p d F' H' L' ((n1.trans nc).trans n') s' (x'.back (n1.trans nc))
    | ok r S2 =>
      rw [hr] at p
      simp only [Out.bind_ok] at p
      split at p
      · intro v F2 H2 L2 n2 s2 r2
        have r2' : Dp E.K F2 v .none := r2
        cases r2'
        exact ⟨rfl, p _ F2 H2 L2 ((n1.trans nc).trans n2) s2 ⟨x, rfl, n2.get hg⟩⟩
      · exact p.elim
  | .fld m o, ρ, S => fun σ F H L e s W Q p => by
    unfold evE at p
    refine (sE hE o ρ S).thn e s (.refl _ _ _) p fun r1 S1 _ v1 F1 H1 L1 n1 s1 e1 x1 p => ?_
    split at p
    · split at p
      · rename_i c fs hm
        obtain ⟨a, dx, ws, rfl, ha, ho, hn, hd⟩ := mu_obj s1 x1 hm
        obtain ⟨i1, _⟩ := fs_lookup (m := m) hn hd
        split at p
        · rename_i d hl
          obtain ⟨v, hv, w, ew, hw⟩ := i1 _ hl
          cases ew
          exact ⟨a, c, dx, ws, v, rfl, ho, hv, pst_d n1 s1 hw p⟩
        · rename_i k hl
          obtain ⟨v, hv, b, eb, hb⟩ := i1 _ hl
          cases eb
          exact ⟨a, c, dx, ws, _, rfl, ho, hv, p _ _ _ _ n1 s1 ⟨b, rfl, hb⟩⟩
        · exact p.elim
      · exact p.elim
    · exact p.elim
  | .isi T a, ρ, S => fun σ F H L e s W Q p => by
    unfold evE at p
    refine (sE hE a ρ S).thn e s (.refl _ _ _) p fun r1 S1 _ v1 F1 H1 L1 n1 s1 e1 x1 p => ?_
    have lst : ∀ {a : Addr} {ws : List V}, v1 = .ref a → H1 a = some (.lst ws) → Pst E.K E.cl E.xc (RV E.K E.cl) (match kitB "list" T with
      | some b => okD (.bool b) S1
      | none => .bad) L F H W σ Q → rIsi E.K [v1, .ty T] H1 Q := by
      intro a ws ev ho p
      subst ev
      split at p
      · rename_i b hb
        exact ⟨_, _, _, _, b, rfl, .ty T, .base (.lst ho), kit_ty hb, pst_d n1 s1 (.bl _) p⟩
      · exact p.elim
    split at p
    · rename_i d
      split at p
      · rename_i b hb
        exact ⟨v1, _, _, _, b, rfl, .ty T, tyx_mono x1 s1.sub, kit_ty hb, pst_d n1 s1 (.bl _) p⟩
      · exact p.elim
    · obtain ⟨a, o, ev, _, _, _, ho, ws, rfl, _⟩ := x1
      exact lst ev ho p
    · split at p
      · rename_i ds hm
        obtain ⟨a, ws, ev, ha, ho, hd⟩ := mu_lst s1 x1 hm
        exact lst ev ho p
      · exact p.elim
    · exact p.elim
  | .bi b es, ρ, S => fun σ F H L e s W Q p => by
    unfold evE at p
    refine (sR hE es ρ S).thn e s (.refl _ _ _) p fun rs S1 _ vs F1 H1 L1 n1 s1 e1 x1 p => ?_
    exact bi_ok b n1 s1 x1 p
  | .bm b o es, ρ, S => fun σ F H L e s W Q p => by
    unfold evE at p
    cases b with
    | append =>
      refine (sE hE o ρ S).thn e s (.refl _ _ _) p fun r1 S1 _ v1 F1 H1 L1 n1 s1 e1 x1 p => ?_
      split at p
      · rename_i hb
        rw [Bool.and_eq_true] at hb
        refine ⟨(bmT_l (b := .append) nofun s1 x1 hb.1).1, ?_⟩
        refine (sR hE es ρ S1).thn e1 s1 n1 p fun rs S2 _ vs F2 H2 L2 n2 s2 e2 x2 p => ?_
        exact append_ok (n1.trans n2) s2 (x1.fwd n2) (x2.back n1) p
      · exact p.elim
    | extend =>
      refine (sE hE o ρ S).thn e s (.refl _ _ _) p fun r1 S1 _ v1 F1 H1 L1 n1 s1 e1 x1 p => ?_
      split at p
      · rename_i hb
        rw [Bool.and_eq_true] at hb
        refine ⟨(bmT_l (b := .extend) nofun s1 x1 hb.1).1, ?_⟩
        refine (sR hE es ρ S1).thn e1 s1 n1 p fun rs S2 _ vs F2 H2 L2 n2 s2 e2 x2 p => ?_
        exact extend_ok (n1.trans n2) s2 (x1.fwd n2) x2 p
      · exact p.elim
    | pop =>
      refine (sE hE o ρ S).thn e s (.refl _ _ _) p fun r1 S1 _ v1 F1 H1 L1 n1 s1 e1 x1 p => ?_
      split at p
      · rename_i hb
        rw [Bool.and_eq_true] at hb
        cases es with
        | nil =>
          unfold evR at p
          exact ⟨(bmT_l (b := .pop) nofun s1 x1 hb.1).1, pop_ok n1 s1 x1 p⟩
        | cons a es => exact absurd hb.2 nofun
        | star a es => exact absurd hb.2 nofun
      · exact p.elim
    | reverse =>
      refine (sE hE o ρ S).thn e s (.refl _ _ _) p fun r1 S1 _ v1 F1 H1 L1 n1 s1 e1 x1 p => ?_
      split at p
      · rename_i hb
        rw [Bool.and_eq_true] at hb
        cases es with
        | nil =>
          unfold evR at p
          exact ⟨(bmT_l (b := .reverse) nofun s1 x1 hb.1).1, reverse_ok n1 s1 x1 p⟩
        | cons a es => exact absurd hb.2 nofun
        | star a es => exact absurd hb.2 nofun
      · exact p.elim
    | join =>
      refine (sE hE o ρ S).thn e s (.refl _ _ _) p fun r1 S1 _ v1 F1 H1 L1 n1 s1 e1 x1 p => ?_
      split at p
      · rename_i hb
        rw [Bool.and_eq_true] at hb
        have ex := bmT_j hb.1
        obtain ⟨z, rfl⟩ := ex
        have hz := dp_str x1
        refine ⟨⟨z, hz⟩, ?_⟩
        cases es with
        | nil => exact absurd hb.2 nofun
        | star _ _ => exact absurd hb.2 nofun
        | cons a es =>
          cases es with
          | cons _ _ => exact absurd hb.2 nofun
          | star _ _ => exact absurd hb.2 nofun
          | nil =>
            unfold evR at p
            rw [Out.bind_assoc] at p
            refine (sE hE a ρ S1).thn e1 s1 n1 p fun r2 S2 _ v2 F2 H2 L2 n2 s2 e2 x2 p => ?_
            unfold evR at p
            simp only [Out.bind_ok] at p
            obtain ⟨y, ey, h⟩ := join_ok (n1.trans n2) s2 hz (.cons x2 .nil) p
            cases ey
            exact h
      · exact p.elim
    | index =>
      refine (sE hE o ρ S).thn e s (.refl _ _ _) p fun r1 S1 _ v1 F1 H1 L1 n1 s1 e1 x1 p => ?_
      split at p
      · rename_i hb
        rw [Bool.and_eq_true] at hb
        refine ⟨(bmT_l (b := .index) nofun s1 x1 hb.1).1, ?_⟩
        refine (sR hE es ρ S1).thn e1 s1 n1 p fun rs S2 _ vs F2 H2 L2 n2 s2 e2 x2 p => ?_
        exact index_ok (n1.trans n2) s2 (x1.fwd n2) (x2.back n1) p
      · exact p.elim
    | items =>
      refine (sE hE o ρ S).thn e s (.refl _ _ _) p fun r1 S1 _ v1 F1 H1 L1 n1 s1 e1 x1 p => ?_
      rw [if_neg (by cases r1 <;> exact nofun)] at p
      exact p
    | get =>
      refine (sE hE o ρ S).thn e s (.refl _ _ _) p fun r1 S1 _ v1 F1 H1 L1 n1 s1 e1 x1 p => ?_
      rw [if_neg (by cases r1 <;> exact nofun)] at p
      exact p
  | .lc ws g it c el, ρ, S => fun σ F H L e s W Q p => by
    unfold evE at p
    refine (sI hE it ρ S).thn e s (.refl _ _ _) p fun is S1 hi J F1 H1 L1 n1 s1 e1 x1 p => ?_
    split at p
    · rename_i hl
      exact lc_ok (fun ρ S => sC hE c ρ S) (fun ρ S => sE hE el ρ S) hl.2 hl.1 (evI_chk hi) n1 e1 s1 x1 p
    · exact p.elim
  | .lrg a b t, ρ, S => fun σ F H L e s W Q p => by
    unfold evE at p
    cases a with
    | none =>
      unfold evO at p
      rw [Out.bind_ok] at p
      cases t with
      | true =>
        refine (sE hE b ρ S).thn e s (.refl _ _ _) p fun r2 S2 _ v2 F2 H2 L2 n2 s2 e2 x2 p => ?_
        split at p
        · split at p
          · rename_i hi
            cases dp_int x2
            obtain ⟨g1, g2, g3⟩ := rg_new hi n2 s2 p
            exact ⟨_, rfl, g1, g2 rfl⟩
          · exact p.elim
        · exact p.elim
      | false =>
        refine (sE hE b ρ S).thn e s (.refl _ _ _) p fun r2 S2 _ v2 F2 H2 L2 n2 s2 e2 x2 p => ?_
        split at p
        · split at p
          · rename_i hi
            cases dp_int x2
            obtain ⟨g1, g2, g3⟩ := rg_new hi n2 s2 p
            exact ⟨_, rfl, g1, g3 nofun⟩
          · exact p.elim
        · exact p.elim
    | some a =>
      unfold evO at p
      rw [Out.bind_assoc] at p
      cases t with
      | true =>
        refine (sE hE a ρ S).thn e s (.refl _ _ _) p fun r1 S1 _ v1 F1 H1 L1 n1 s1 e1 x1 p => ?_
        cases r1 with
        | mu _ => exact p.elim
        | nw _ => exact p.elim
        | v d1 =>
          cases d1 with
          | int i =>
            rw [Out.bind_ok] at p
            refine (sE hE b ρ S1).thn e1 s1 n1 p fun r2 S2 _ v2 F2 H2 L2 n2 s2 e2 x2 p => ?_
            split at p
            · split at p
              · rename_i hi
                cases dp_int x1
                cases dp_int x2
                obtain ⟨g1, g2, g3⟩ := rg_new hi (n1.trans n2) s2 p
                exact ⟨_, _, rfl, rfl, g1, g2 rfl⟩
              · exact p.elim
            · exact p.elim
          | _ => exact p.elim
      | false =>
        refine (sE hE a ρ S).thn e s (.refl _ _ _) p fun r1 S1 _ v1 F1 H1 L1 n1 s1 e1 x1 p => ?_
        cases r1 with
        | mu _ => exact p.elim
        | nw _ => exact p.elim
        | v d1 =>
          cases d1 with
          | int i =>
            rw [Out.bind_ok] at p
            refine (sE hE b ρ S1).thn e1 s1 n1 p fun r2 S2 _ v2 F2 H2 L2 n2 s2 e2 x2 p => ?_
            split at p
            · split at p
              · rename_i hi
                cases dp_int x1
                cases dp_int x2
                obtain ⟨g1, g2, g3⟩ := rg_new hi (n1.trans n2) s2 p
                exact ⟨_, _, rfl, rfl, g1, g3 nofun⟩
              · exact p.elim
            · exact p.elim
          | _ => exact p.elim
  | .own ex, ρ, S => fun σ F H L e s W Q p => by
    unfold evE at p
    refine (sE hE ex ρ S).thn e s (.refl _ _ _) p fun r1 S1 _ v1 F1 H1 L1 n1 s1 e1 x1 p => ?_
    split at p
    · exact p.elim
    · rename_i c _ _
      obtain ⟨a, o, rfl, h0, hL, hf, hh, hc⟩ := x1
      obtain ⟨n2, s2, hg⟩ := own_new n1 s1 h0 hL hf hh hc
      exact p _ _ _ _ n2 s2 ⟨a, rfl, hg⟩
    · exact p.elim
  | .bad, ρ, S => fun σ F H L e s W Q p => by
    unfold evE at p
    exact p.elim
  | .its ex, ρ, S => fun σ F H L e s W Q p => by
    unfold evE at p
    refine (sE hE ex ρ S).thn e s (.refl _ _ _) p fun r1 S1 _ v1 F1 H1 L1 n1 s1 e1 x1 p => ?_
    exact its_ok n1 s1 x1 p
  | .fst es, ρ, S => fun σ F H L e s W Q p => by
    unfold evE at p
    refine sJ hE es Str.empty ρ S σ F H L e s W _ ?_
    cases h : evJ E.cb ρ Str.empty S es with
    | ok y S1 =>
      rw [h] at p
      intro v F1 H1 L1 n1 s1 ev
      have ev : v = y := ev
      subst ev
      exact pst_d n1 s1 (.str _) p
    | ex c fs S1 => rw [h] at p; exact p
    | bad => rw [h] at p; exact p.elim
  | .spr k a, ρ, S => fun σ F H L e s W Q p => by
    unfold evE at p
    refine (sE hE a ρ S).thn e s (.refl _ _ _) p fun r1 S1 _ v1 F1 H1 L1 n1 s1 e1 x1 p => ?_
    unfold sprO at p
    split at p
    · rename_i ds _
      have x1' : Dp E.K F1 v1 (.tuple ds) := x1
      split at p
      · rename_i ps hps
        rw [prsD_e hps] at x1'
        exact ⟨ps, dp_mono s1.sub _ _ x1', fun P hP => s1.sub _ _ (s1.tb P hP), pst_d n1 s1 (.int _) p⟩
      · exact p.elim
    · exact p.elim
  | .rsl a, ρ, S => fun σ F H L e s W Q p => by
    unfold evE at p
    refine (sE hE a ρ S).thn e s (.refl _ _ _) p fun r1 S1 _ v1 F1 H1 L1 n1 s1 e1 x1 p => ?_
    unfold rslO at p
    split at p
    · rename_i ds hds
      obtain ⟨b, vs, rfl, hq, hd⟩ := lst_rd s1 x1 hds
      refine ⟨1, rfl, -1, rfl, rfl, b, vs, rfl, hq, fun q hqn => ?_⟩
      obtain ⟨n2, s2⟩ := nx_lay s1 hqn (.lst vs.reverse)
      exact p _ _ _ _ (n1.trans n2) s2 ((rv_new (c := .lst ds.reverse) s1 hqn ⟨_, rfl, dpa_rev hd⟩).back n1)
    · exact p.elim
  | .ddc kvs, ρ, S => fun σ F H L e s W Q p => by
    unfold evE at p
    split at p
    · rename_i hk
      intro q hq
      rw [tPairs_con]
      refine ⟨upd_same, kvs.map (fun p => (.inr p.1, .str p.2)), by simp [kV], by simpa using hk.2.1, ?_⟩
      rw [upd_upd, mergeK_new (by simpa using hk.2.2)]
      obtain ⟨n2, s2⟩ := nx_lay s hq (.dK (kvs.map fun p => ((.inr p.1 : Key), V.str p.2)))
      exact p _ _ _ _ n2 s2 (rv_new (c := .dct false (kvs.map fun p => (.str p.1, .str p.2))) s hq ⟨_, rfl, prd_con kvs⟩)
    · exact p.elim
  | .ndw t, ρ, S => fun σ F H L e s W Q p => by
    unfold evE at p
    intro q hq
    obtain ⟨n2, s2⟩ := nx_lay s hq (GDict.gNew E.cl.pr E.cl.w t q)
    refine p _ _ _ _ n2 s2 (rv_new (c := .dcn t []) s hq ?_)
    cases t with
    | true => exact ⟨q, [], rfl, .nil⟩
    | false => exact ⟨q, [], rfl, .nil⟩
  | .xm m e1 es, ρ, S => fun σ F H L e s W Q p => by
    unfold evE at p
    refine (sE hE e1 ρ S).thn e s (.refl _ _ _) p fun r1 S1 _ v1 F1 H1 L1 n1 s1 e1 x1 p => ?_
    split at p
    · rename_i hb
      refine ⟨xmB_ok s1 x1 hb, ?_⟩
      refine (sR hE es ρ S1).thn e1 s1 n1 p fun rs S2 _ vs F2 H2 L2 n2 s2 e2 x2 p => ?_
      exact xm_ok m (n1.trans n2) s2 (x1.fwd n2) x2 p
    · exact p.elim
  | .dgt o k x, ρ, S => fun σ F H L e s W Q p => by
    unfold evE at p
    refine (sE hE o ρ S).thn e s (.refl _ _ _) p fun r1 S1 _ v1 F1 H1 L1 n1 s1 e1 x1 p => ?_
    split at p
    · rename_i hb
      obtain ⟨m, kvs0, rfl, hm0⟩ := dctB_mu hb
      have x1' := x1
      obtain ⟨a, rfl, ha⟩ := x1'
      obtain ⟨_, h2⟩ := s1.st _ a ha
      obtain ⟨_, o0, ho, hk0, rfl, hc0⟩ := h2 _ hm0 (by nofun)
      refine ⟨a, rfl, .inl ⟨_, .inl ho⟩, ?_⟩
      refine (sE hE k ρ S1).thn e1 s1 n1 p fun r2 S2 _ v2 F2 H2 L2 n2 s2 e2 x2 p => ?_
      refine (sE hE x ρ S2).thn e2 s2 (n1.trans n2) p fun r3 S3 _ v3 F3 H3 L3 n3 s3 e3 x3 p => ?_
      exact dgt_ok ((n1.trans n2).trans n3) s3 ((x1.fwd n2).fwd n3) (x2.fwd n3) x3 p
    · exact p.elim
  | .tm m o es, ρ, S => fun σ F H L e s W Q p => by
    unfold evE at p
    refine (sE hE o ρ S).thn e s (.refl _ _ _) p fun r1 S1 _ v1 F1 H1 L1 n1 s1 e1 x1 p => ?_
    split at p
    · rename_i hb
      have hz : ∃ z, r1 = .v (.str z) := by
        unfold isTx at hb
        split at hb
        · exact ⟨_, rfl⟩
        · cases hb
      obtain ⟨z, rfl⟩ := hz
      refine ⟨⟨z, dp_str x1⟩, ?_⟩
      refine (sR hE es ρ S1).thn e1 s1 n1 p fun rs S2 _ vs F2 H2 L2 n2 s2 e2 x2 p => ?_
      exact tm_ok m (n1.trans n2) s2 (x1.fwd n2) x2 p
    · exact p.elim
  | .cdn neg k kvs e1, ρ, S => fun σ F H L e s W Q p => by
    unfold evE at p
    intro hc
    refine (sE hE e1 ρ S).thn e s (.refl _ _ _) p fun r1 S1 _ v1 F1 H1 L1 n1 s1 e1 x1 p => ?_
    unfold cdnO at p
    split at p
    · exact ⟨_, dp_str x1, pst_d n1 s1 (.bl _) p⟩
    · exact p.elim
  | .cdi k kvs e1, ρ, S => fun σ F H L e s W Q p => by
    unfold evE at p
    intro hc
    refine (sE hE e1 ρ S).thn e s (.refl _ _ _) p fun r1 S1 _ v1 F1 H1 L1 n1 s1 e1 x1 p => ?_
    unfold cdiO at p
    split at p
    · split at p
      · rename_i d hd
        exact ⟨_, d, dp_str x1, hd, fun v' hv => pst_d n1 s1 (hv.dp F1) p⟩
      · exact p.elim
    · exact p.elim
  | .hx2 e1, ρ, S => fun σ F H L e s W Q p => by
    unfold evE at p
    refine (sE hE e1 ρ S).thn e s (.refl _ _ _) p fun r1 S1 _ v1 F1 H1 L1 n1 s1 e1 x1 p => ?_
    unfold hx2O at p
    split at p
    · split at p
      · rename_i h
        exact ⟨_, dp_int x1, h.1, h.2, pst_d n1 s1 (.str _) p⟩
      · exact p.elim
    · exact p.elim
  | .dg1 o k, ρ, S => fun σ F H L e s W Q p => by
    unfold evE at p
    refine (sE hE o ρ S).thn e s (.refl _ _ _) p fun r1 S1 _ v1 F1 H1 L1 n1 s1 e1 x1 p => ?_
    split at p
    · rename_i hb
      obtain ⟨m, kvs0, rfl, hm0⟩ := dctB_mu hb
      have x1' := x1
      obtain ⟨a, rfl, ha⟩ := x1'
      obtain ⟨_, h2⟩ := s1.st _ a ha
      obtain ⟨_, o0, ho, hk0, rfl, hc0⟩ := h2 _ hm0 (by nofun)
      refine ⟨a, rfl, .inl ⟨_, .inl ho⟩, ?_⟩
      refine (sE hE k ρ S1).thn e1 s1 n1 p fun r2 S2 _ v2 F2 H2 L2 n2 s2 e2 x2 p => ?_
      exact dgt_ok (rz := .v .none) (z := .non) (Hz := H2) (n1.trans n2) s2 (x1.fwd n2) x2 (show Dp E.K F2 .non .none from .non) p
    · exact p.elim
  | .ddg kvs, ρ, S => fun σ F H L e s W Q p => by
    unfold evE at p
    split at p
    · rename_i hk
      intro q hq
      refine tPairs_glb hk.2.2.2 fun us hu hl => ?_
      refine ⟨upd_same, (kvs.zip us).map (fun p => (.inr p.1.1, p.2)), ?_, ?_, ?_⟩
      · rw [List.map_map]; rfl
      · rw [List.length_map, List.length_zip, hl, Nat.min_self, ← hl]; exact hk.2.1
      rw [upd_upd, mergeK_newG (zip_nodup hl hk.2.2.1)]
      obtain ⟨n2, s2⟩ := nx_lay s hq (.dK ((kvs.zip us).map fun p => ((.inr p.1.1 : Key), p.2)))
      exact p _ _ _ _ n2 s2 (rv_new (c := .dct false (kvs.map fun p => (.str p.1, p.2.2))) s hq ⟨_, rfl, prd_glb hu hl⟩)
    · exact p.elim
theorem sJ {E : Env0} (hE : Har E) : ∀ (es : Exs) (acc : Str) (ρ : Rho) (S : Stv), Evs E.K E.cl E.xc (fun _ _ _ _ (v : Str) (y : Str) => v = y) ρ S (fun W σ H Q => tJs (dJ E es W) acc σ H Q) (evJ E.cb ρ acc S es)
  | .nil, acc, ρ, S => fun σ F H L e s W Q p => by
    unfold evJ at p
    exact p _ F H L (.refl _ _ _) s rfl
  | .star _ _, acc, ρ, S => fun σ F H L e s W Q p => by
    unfold evJ at p
    exact p.elim
  | .cons ex es, acc, ρ, S => fun σ F H L e s W Q p => by
    unfold evJ at p
    have rest : ∀ {y : Str} {S1 S2 : Stv} {F1 H1 L1}, Nx L F H L1 F1 H1 → SV E.K E.cl F1 H1 L1 S2 → EOk E.K F1 L1 σ ρ → Pst E.K E.cl E.xc (fun _ _ _ _ (v : Str) (y : Str) => v = y) (if (acc ++ y).length ≤ sizeLine then evJ E.cb ρ (acc ++ y) S2 es else .bad) L F H W σ Q → (acc ++ y).length ≤ sizeLine ∧ tJs (dJ E es W) (acc ++ y) σ H1 Q := by
      intro y S1 S2 F1 H1 L1 n1 s1 e1 p
      split at p
      · rename_i hl
        refine ⟨hl, (sJ hE es (acc ++ y) ρ S2).at (fun _ _ _ _ _ _ _ _ _ _ _ _ r => r) e1 n1 s1 p⟩
      · exact p.elim
    by_cases hc : isCS ex = true
    · have hc' : ∃ z, ex = .con (.str z) := by
        unfold isCS at hc
        split at hc
        · exact ⟨_, rfl⟩
        · cases hc
      obtain ⟨z, rfl⟩ := hc'
      unfold tJs dJ
      rw [if_pos hc]
      refine (sE hE (.con (.str z)) ρ S).thn e s (.refl _ _ _) p fun r1 S1 hr1 v1 F1 H1 L1 n1 s1 e1 x1 p => ?_
      unfold evE at hr1
      rw [if_pos (show isC (.str z) = true from rfl)] at hr1
      cases hr1
      cases dp_str x1
      by_cases hz : z.length ≤ sizeLine
      · rw [txt_s hz, Out.bind_ok] at p
        obtain ⟨h1, h2⟩ := rest (S1 := S) n1 s1 e1 p
        exact ⟨z, rfl, h1, h2⟩
      · rw [txt_sb hz] at p
        exact p.elim
    · unfold tJs dJ
      rw [if_neg hc]
      refine (sE hE ex ρ S).thn e s (.refl _ _ _) p fun r1 S1 hr1 v1 F1 H1 L1 n1 s1 e1 x1 p => ?_
      rcases txt_any r1 S1 with ⟨z, rfl⟩ | ⟨z, rfl⟩ | hb
      · cases dp_str x1
        by_cases hz : z.length ≤ sizeLine
        · rw [txt_s hz, Out.bind_ok] at p
          obtain ⟨h1, h2⟩ := rest (S1 := S) n1 s1 e1 p
          exact .inl ⟨z, rfl, hz, z, rfl, h1, h2⟩
        · rw [txt_sb hz] at p
          exact p.elim
      · cases dp_int x1
        by_cases hz : z.natAbs.log2 < 1920
        · rw [txt_i hz, Out.bind_ok] at p
          obtain ⟨h1, h2⟩ := rest (S1 := S) n1 s1 e1 p
          exact .inr ⟨z, rfl, hz, _, rfl, h1, h2⟩
        · rw [txt_ib hz] at p
          exact p.elim
      · rw [hb] at p
        exact p.elim
theorem sT {E : Env0} (hE : Har E) : ∀ (e : Tx) (ρ : Rho) (S : Stv), ET E.K E.cl E.xc ρ S (dT E e) (evT E.cb ρ S e)
  | .val e, ρ, S => fun σ F H L e0 s W Q p => by
    unfold evT at p
    refine (sE hE e ρ S).thn e0 s (.refl _ _ _) p fun r1 S1 _ v1 F1 H1 L1 n1 s1 e1 x1 p => ?_
    have p' : Pst E.K E.cl E.xc RB ((truO r1 S1).bind fun b S => .ok b S) L F H W σ Q := by
      cases h : truO r1 S1 <;> rw [h] at p <;> exact p
    obtain ⟨k, _, tk, p⟩ := tru_thn s1 x1 p'
    exact ⟨k, tk, p k _ _ _ n1 s1 rfl⟩
  | .not a, ρ, S => fun σ F H L e s W Q p => by
    unfold evT at p
    refine (sT hE a ρ S).thn e s (.refl _ _ _) p fun k S1 _ k' F1 H1 L1 n1 s1 e1 x1 p => ?_
    have x1 : k' = k := x1
    subst x1
    exact p _ _ _ _ n1 s1 rfl
  | .and a b, ρ, S => fun σ F H L e s W Q p => by
    unfold evT at p
    refine (sT hE a ρ S).thn e s (.refl _ _ _) p fun k S1 _ k' F1 H1 L1 n1 s1 e1 x1 p => ?_
    have x1 : k' = k := x1
    subst x1
    split at p
    · rename_i hk
      rw [if_pos hk]
      exact (sT hE b ρ S1).at bkB e1 n1 s1 p
    · rename_i hk
      rw [if_neg hk]
      exact p _ _ _ _ n1 s1 rfl
  | .or a b, ρ, S => fun σ F H L e s W Q p => by
    unfold evT at p
    refine (sT hE a ρ S).thn e s (.refl _ _ _) p fun k S1 _ k' F1 H1 L1 n1 s1 e1 x1 p => ?_
    have x1 : k' = k := x1
    subst x1
    split at p
    · rename_i hk
      rw [if_pos hk]
      exact p _ _ _ _ n1 s1 rfl
    · rename_i hk
      rw [if_neg hk]
      exact (sT hE b ρ S1).at bkB e1 n1 s1 p
  | .cmp o a b, ρ, S => fun σ F H L e s W Q p => by
    unfold evT at p
    refine (sE hE a ρ S).thn e s (.refl _ _ _) p fun r1 S1 _ v1 F1 H1 L1 n1 s1 e1 x1 p => ?_
    refine (sE hE b ρ S1).thn e1 s1 n1 p fun r2 S2 _ v2 F2 H2 L2 n2 s2 e2 x2 p => ?_
    have p' : Pst E.K E.cl E.xc RB ((cmpO o r1 r2 S2).bind fun b S => .ok b S) L F H W σ Q := by
      cases h : cmpO o r1 r2 S2 <;> rw [h] at p <;> exact p
    obtain ⟨k, hk, p⟩ := cmp_thn p'
    exact cmp_rd o n2 s2 (x1.fwd n2) x2 hk ⟨k, rfl, p k _ _ _ (n1.trans n2) s2 rfl⟩
  | .chn o o' a b c, ρ, S => fun σ F H L e s W Q p => by
    unfold evT at p
    refine (sE hE a ρ S).thn e s (.refl _ _ _) p fun r1 S1 _ v1 F1 H1 L1 n1 s1 e1 x1 p => ?_
    refine (sE hE b ρ S1).thn e1 s1 n1 p fun r2 S2 _ v2 F2 H2 L2 n2 s2 e2 x2 p => ?_
    obtain ⟨k, hk, p⟩ := cmp_thn p
    refine cmp_rd o n2 s2 (x1.fwd n2) x2 hk ⟨k, rfl, ?_⟩
    split at p
    · rename_i hk
      rw [if_pos hk]
      refine (sE hE c ρ S2).thn e2 s2 (n1.trans n2) p fun r3 S3 _ v3 F3 H3 L3 n3 s3 e3 x3 p => ?_
      have p' : Pst E.K E.cl E.xc RB ((cmpO o' r2 r3 S3).bind fun b S => .ok b S) L F H W σ Q := by
        cases h : cmpO o' r2 r3 S3 <;> rw [h] at p <;> exact p
      obtain ⟨k', hk', p⟩ := cmp_thn p'
      exact cmp_rd o' n3 s3 (x2.fwd n3) x3 hk' ⟨k', rfl, p k' _ _ _ ((n1.trans n2).trans n3) s3 rfl⟩
    · rename_i hk
      rw [if_neg hk]
      exact ⟨false, rfl, p false _ _ _ (n1.trans n2) s2 rfl⟩
theorem sA {E : Env0} (hE : Har E) : ∀ (es : Exs) (ρ : Rho) (S : Stv), Evs E.K E.cl E.xc (RE E.K) ρ S (dA E es) (evA E.cb ρ S es)
  | .nil, ρ, S => fun σ F H L e s W Q p => by
    unfold evA at p
    exact p [] F H L (.refl _ _ _) s ena_nil
  | .cons e1 es, ρ, S => fun σ F H L e s W Q p => by
    unfold evA at p
    refine (sE hE e1 ρ S).thn e s (.refl _ _ _) p fun r1 S1 _ v1 F1 H1 L1 n1 s1 e1 x1 p => ?_
    obtain ⟨L2, F2, n2, s2, en⟩ := rv_en n1 s1 x1
    refine (sA hE es ρ _).thn (n2.eok e) s2 n2 p fun rs S3 _ vs F3 H3 L3 n3 s3 e3 x3 p => ?_
    exact p _ _ _ _ (n2.trans n3) s3 (ena_cons (n3.enok en) x3)
  | .star e1 es, ρ, S => fun σ F H L e s W Q p => by
    unfold evA at p
    refine (sE hE e1 ρ S).thn e s (.refl _ _ _) p fun r1 S1 _ v1 F1 H1 L1 n1 s1 e1 x1 p => ?_
    split at p
    · rename_i ys hy
      obtain ⟨vs1, ds, rfl, h2, h3⟩ := str_rd s1 x1 hy
      refine ⟨vs1, h2, ?_⟩
      refine (sA hE es ρ S1).thn e1 s1 n1 p fun rs S3 _ vs F3 H3 L3 n3 s3 e3 x3 p => ?_
      exact p _ _ _ _ (n1.trans n3) s3 (ena_app (ena_dp (dpa_mono n3.fx _ _ h3)) x3)
    · exact p.elim
theorem sR {E : Env0} (hE : Har E) : ∀ (es : Exs) (ρ : Rho) (S : Stv), Evs E.K E.cl E.xc (RL E.K E.cl) ρ S (dA E es) (evR E.cb ρ S es)
  | .nil, ρ, S => fun σ F H L e s W Q p => by
    unfold evR at p
    exact p [] F H L (.refl _ _ _) s .nil
  | .cons e1 es, ρ, S => fun σ F H L e s W Q p => by
    unfold evR at p
    refine (sE hE e1 ρ S).thn e s (.refl _ _ _) p fun r1 S1 _ v1 F1 H1 L1 n1 s1 e1 x1 p => ?_
    refine (sR hE es ρ S1).thn e1 s1 n1 p fun rs S3 _ vs F3 H3 L3 n3 s3 e3 x3 p => ?_
    exact p _ _ _ _ (n1.trans n3) s3 (.cons (x1.fwd n3) (x3.back n1))
  | .star _ _, ρ, S => fun σ F H L e s W Q p => by
    unfold evR at p
    exact p.elim
theorem sO {E : Env0} (hE : Har E) : ∀ (e : Exo) (ρ : Rho) (S : Stv), Evs E.K E.cl E.xc RO ρ S (dO E e) (evO E.cb ρ S e)
  | .none, ρ, S => fun σ F H L e s W Q p => by
    unfold evO at p
    exact p none F H L (.refl _ _ _) s rfl
  | .some e1, ρ, S => fun σ F H L e s W Q p => by
    unfold evO at p
    refine (sE hE e1 ρ S).thn e s (.refl _ _ _) p fun r1 S1 _ v1 F1 H1 L1 n1 s1 e1 x1 p => ?_
    split at p
    · cases dp_int x1
      exact ⟨_, rfl, p _ _ _ _ n1 s1 rfl⟩
    · exact p.elim
theorem sC {E : Env0} (hE : Har E) : ∀ (e : Txo) (ρ : Rho) (S : Stv), ET E.K E.cl E.xc ρ S (dC E e) (evC E.cb ρ S e)
  | .none, ρ, S => fun σ F H L e s W Q p => by
    unfold evC at p
    exact p true F H L (.refl _ _ _) s rfl
  | .some t, ρ, S => by
    unfold evC
    exact sT hE t ρ S
theorem sI {E : Env0} (hE : Har E) : ∀ (it : Itr) (ρ : Rho) (S : Stv), Evs E.K E.cl E.xc (RJ E.K E.cl) ρ S (dI E it) (evI E.cb ρ S it)
  | .sq e1, ρ, S => fun σ F H L e s W R p => by
    unfold evI at p
    have h := sE hE e1 ρ S
    by_cases hs : ∃ z S1, evE E.cb ρ S e1 = .ok (.v (.str z)) S1
    · obtain ⟨z, S1, hz⟩ := hs
      refine .inr (h.thn e s (.refl _ _ _) p fun r1 S1' h1 v1 F1 H1 L1 n1 s1 e1 x1 p => ?_)
      rw [hz] at h1
      cases h1
      cases dp_str x1
      exact ⟨z, rfl, p _ _ _ _ n1 s1 jv_s⟩
    · refine .inl (h.thn e s (.refl _ _ _) p fun r1 S1' h1 v1 F1 H1 L1 n1 s1 e1 x1 p => ?_)
      rcases items_ok n1 s1 x1 p with ⟨z, ez, _⟩ | q
      · rw [ez] at h1
        exact absurd ⟨z, _, h1⟩ hs
      · exact q
  | .rg1 a, ρ, S => fun σ F H L e s W R p => by
    unfold evI at p
    refine (sE hE a ρ S).thn e s (.refl _ _ _) p fun r1 S1 _ v1 F1 H1 L1 n1 s1 e1 x1 p => ?_
    split at p
    · split at p
      · rename_i hi
        cases dp_int x1
        exact ⟨_, rfl, by omega, by omega, p _ _ _ _ n1 s1 jv_r⟩
      · exact p.elim
    · exact p.elim
  | .rrg a, ρ, S => fun σ F H L e s W R p => by
    unfold evI at p
    refine (sE hE a ρ S).thn e s (.refl _ _ _) p fun r1 S1 _ v1 F1 H1 L1 n1 s1 e1 x1 p => ?_
    split at p
    · split at p
      · rename_i i _ hi
        cases dp_int x1
        refine ⟨i, rfl, by decide, by decide, by omega, by omega, ?_⟩
        have e0 : i - 0 = i := Int.sub_zero i
        rw [e0]
        exact p _ _ _ _ n1 s1 (jv_c (by omega))
      · exact p.elim
    · exact p.elim
  | .rg2 a b, ρ, S => fun σ F H L e s W R p => by
    unfold evI at p
    refine (sE hE a ρ S).thn e s (.refl _ _ _) p fun r1 S1 _ v1 F1 H1 L1 n1 s1 e1 x1 p => ?_
    refine (sE hE b ρ S1).thn e1 s1 n1 p fun r2 S2 _ v2 F2 H2 L2 n2 s2 e2 x2 p => ?_
    split at p
    · split at p
      · rename_i hi
        cases dp_int x1
        cases dp_int x2
        exact ⟨_, _, rfl, ⟨by omega, by omega, by omega, by omega⟩, p _ _ _ _ (n1.trans n2) s2 jv_r⟩
      · exact p.elim
    · exact p.elim
  | .enu e1, ρ, S => fun σ F H L e s W R p => by
    unfold evI at p
    refine (sE hE e1 ρ S).thn e s (.refl _ _ _) p fun r1 S1 _ v1 F1 H1 L1 n1 s1 e1 x1 p => ?_
    obtain ⟨a, rfl, h1⟩ := enu_ok n1 s1 x1 p
    exact ⟨a, rfl, h1⟩
  | .rev e1, ρ, S => fun σ F H L e s W R p => by
    unfold evI at p
    refine (sE hE e1 ρ S).thn e s (.refl _ _ _) p fun r1 S1 _ v1 F1 H1 L1 n1 s1 e1 x1 p => ?_
    exact rev_ok n1 s1 x1 p
end
end VM
end

section
set_option Elab.async false
set_option linter.all false
set_option maxRecDepth 100000
set_option maxHeartbeats 4000000
/-! own errors with fields: what their making and their suites ask -/
namespace VM
open PySem PySem.Spec PyProof.Rows L2 DL
mutual
/-- what a suite returns, as the machine is asked -/
def sxE (i : Nat) (a : Addr) (cls : Value) (d : Option Addr) (C : Addr) : Sx → TE
  | .d v => tC (vD v)
  | .f m => tXf a cls d C m (tVar i)
  | .tp xs => tTup (sxA i a cls d C xs)
  | .ls xs => tLst (sxA i a cls d C xs)
def sxA (i : Nat) (a : Addr) (cls : Value) (d : Option Addr) (C : Addr) : Sxs → TA
  | .nil => tNil
  | .cons x xs => tCons (sxE i a cls d C x) (sxA i a cls d C xs)
end
/-- a field whose type is known -/
def TyV (d : Option Addr) (H : Hp) (q : Str × Bool) : Prop := ∃ dd vs v, d = some dd ∧ H dd = some (.xd vs) ∧ vs.lookup q.1 = some v ∧ (if q.2 = true then ∃ y, v = .str y else ∃ n, v = .int n)
/-- what the suite of an except clause does, by the error's class -/
def tsX (xc : Nat → Value) (i : Option Nat) (m : Nat) (cs : List (Nat × List (Str × Bool) × Sx)) : Addr → Value → Option Addr → TS := fun a cls d D σ H =>
  ∃ c ty sx, cs.lookup c = some (ty, sx) ∧ cls = xc c ∧ (∀ j, i = some j → σ[j]? = some (some (.ref a))) ∧ m ≤ σ.length ∧ (∀ q ∈ ty, TyV d H q) ∧ ∀ C, cls = .ref C → sxE (i.getD 0) a cls d C sx σ H D.rt
def wX (K : PySem.W.Frag) (c : Value) (i : Option Nat) (ts : Addr → Value → Option Addr → TS) (D : Ends) : WX := match i with
  | none => wOnly K c ts (fun _ _ _ _ => False) D
  | some j => wAs K c j ts (fun _ _ _ _ => False) D
/-- the promise of an own error's __init__ -/
def spI (K : PySem.W.Frag) (cb : CB) (C : Addr) (fs : List Str) (g : Nat) : Sp := fun vs H Q _ => ∃ (a : Addr) (ws : List V) (ds : List D), vs = .ref a :: ws ∧ ws.length = fs.length ∧ (∃ F, DpAll K F ws ds) ∧ ds.all smallD = true ∧ fs.length ≤ 900 ∧
  (∃ r S', cb true g (.un :: ds.map .dt) [] = .ok r S') ∧ H a = some (exo a C none) ∧ ∀ d, H d = none → d ≠ a → Q .non (upd (upd H d (exd d (fs.zip ws).reverse)) a (exo a C (some d)))
section
variable {K : PySem.W.Frag} {cl : ClT} {xc : XCl} {F F0 F1 H H0 H1 : Hp} {L L1 : List Addr} {S S1 : Stv} {σ : L2.St}
abbrev FPr (K : PySem.W.Frag) (F : Hp) (vs : List (Str × V)) (fs : List (Str × D)) : Prop := Paired (fun (q : Str × V) (f : Str × D) => q.1 = f.1 ∧ Dp K F q.2 f.2) vs fs
theorem fpr_mono (h : Same F F1) {vs : List (Str × V)} {fs : List (Str × D)} (p : FPr K F vs fs) : FPr K F1 vs fs := prd_imp (fun _ _ z => ⟨z.1, dp_mono h _ _ z.2⟩) p
theorem xok_look {fs : List (Str × D)} {vs : List (Str × V)} (h : FPr K F vs fs) (m : Str) {v : D} (hl : fs.lookup m = some v) : ∃ u, vs.lookup m = some u ∧ Dp K F u v := by
  induction h with
  | nil => cases hl
  | @cons q f qs gs a t ih =>
    obtain ⟨q1, q2⟩ := q
    obtain ⟨f1, f2⟩ := f
    obtain ⟨e, hd⟩ := a
    dsimp only at e hd
    subst e
    cases hb : m == q1 with
    | true =>
      rw [List.lookup_cons, hb] at hl ⊢
      cases hl
      exact ⟨_, rfl, hd⟩
    | false =>
      rw [List.lookup_cons, hb] at hl ⊢
      exact ih hl
/-- the fields stand in the error's dict -/
def FO (K : PySem.W.Frag) (F H : Hp) (d : Option Addr) (fs : List (Str × D)) : Prop := fs = [] ∨ ∃ p vs, d = some p ∧ H p = some (.xd vs) ∧ FPr K F vs fs
theorem fo_of {fs : List (Str × D)} {d : Option Addr} (x : XOk K F H0 H fs d) : FO K F H d fs := by
  cases fs with
  | nil => exact .inl rfl
  | cons f fs =>
    obtain ⟨p, vs, e, _, _, h, pr⟩ := x
    exact .inr ⟨p, vs, e, h, pr⟩
theorem fo_upd {fs : List (Str × D)} {d : Option Addr} {q : Addr} {o : HO} (h : Same F F1) (hq : H q = none) (x : FO K F H d fs) : FO K F1 (upd H q o) d fs := by
  rcases x with x | ⟨p, vs, e, hp, pr⟩
  · exact .inl x
  · exact .inr ⟨p, vs, e, by rw [upd_ne (ne_of_none hp hq)]; exact hp, fpr_mono h pr⟩
theorem ty_ok {fs : List (Str × D)} {d : Option Addr} {q : Str × Bool} (x : FO K F H d fs) (h : tyF q.2 (fs.lookup q.1) = true) : TyV d H q := by
  obtain ⟨m, b⟩ := q
  rcases x with x | ⟨p, vs, e, hp, pr⟩
  · subst x
    cases b <;> cases h
  · cases hl : fs.lookup m with
    | none =>
      dsimp only at h
      rw [hl] at h
      cases b <;> cases h
    | some v =>
      obtain ⟨u, hu, du⟩ := xok_look pr m hl
      refine ⟨p, vs, u, e, hp, hu, ?_⟩
      dsimp only at h ⊢
      rw [hl] at h
      cases b with
      | true =>
        rw [if_pos rfl]
        cases v <;> first | (cases h; done) | (cases du; exact ⟨_, rfl⟩)
      | false =>
        rw [if_neg (by decide)]
        cases v <;> first | (cases h; done) | (cases du; exact ⟨_, rfl⟩)
mutual
theorem sxE_ok {io : Option Nat} {a C : Addr} {cls : Value} {d : Option Addr} {fs : List (Str × D)} (hc : cls = .ref C) (hi : ∀ j, io = some j → σ[j]? = some (some (.ref a))) :
    ∀ (sx : Sx) (v : D) (F H : Hp) (Q : VK), sxF io sx = true → sxV fs sx = some v → FO K F H d fs → SV K cl F H L S →
      (∀ u F' H', Nx L F H L F' H' → SV K cl F' H' L S → FO K F' H' d fs → Dp K F' u v → Q u H') → sxE (io.getD 0) a cls d C sx σ H Q
  | .d v0, v, F, H, Q, hf, hv, x, s, k => by
    unfold sxV at hv
    split at hv
    · rename_i h
      cases hv
      refine k _ F H (.refl _ _ _) s x ?_
      cases v0 <;> first | (cases h; done) | exact .int _ | exact .bool _ | exact .bl _ | exact .str _ | exact .non
    · cases hv
  | .f m, v, F, H, Q, hf, hv, x, s, k => by
    unfold sxF at hf
    unfold sxV at hv
    obtain ⟨j, rfl⟩ := Option.isSome_iff_exists.mp hf
    rcases x with x | ⟨p, vs, e, hp, pr⟩
    · subst x
      cases hv
    · obtain ⟨u, hu, du⟩ := xok_look pr m hv
      exact ⟨_, hi j rfl, rfl, hc, p, vs, u, e, hp, hu, k u F H (.refl _ _ _) s (.inr ⟨p, vs, e, hp, pr⟩) du⟩
  | .tp xs, v, F, H, Q, hf, hv, x, s, k => by
    unfold sxF at hf
    unfold sxV at hv
    obtain ⟨ds, hds, hv⟩ := Option.bind_eq_some_iff.mp hv
    split at hv
    case isFalse => cases hv
    rename_i hz
    cases hv
    refine sxA_ok hc hi xs ds F H _ hf hds x s fun us F' H' n' s' x' d' => ⟨by rw [dpa_len d', sizeLine_eq]; omega, fun q hq => ?_⟩
    obtain ⟨n2, s2, d2⟩ := nx_tup s' hq d'
    exact k _ _ _ (n'.trans n2) s2 (fo_upd n2.fx hq x') d2
  | .ls xs, v, F, H, Q, hf, hv, x, s, k => by
    unfold sxV at hv
    cases hv
theorem sxA_ok {io : Option Nat} {a C : Addr} {cls : Value} {d : Option Addr} {fs : List (Str × D)} (hc : cls = .ref C) (hi : ∀ j, io = some j → σ[j]? = some (some (.ref a))) :
    ∀ (xs : Sxs) (ds : List D) (F H : Hp) (Q : List V → Hp → Prop), sxFs io xs = true → sxVs fs xs = some ds → FO K F H d fs → SV K cl F H L S →
      (∀ us F' H', Nx L F H L F' H' → SV K cl F' H' L S → FO K F' H' d fs → DpAll K F' us ds → Q us H') → sxA (io.getD 0) a cls d C xs σ H Q
  | .nil, ds, F, H, Q, hf, hv, x, s, k => by
    unfold sxVs at hv
    cases hv
    exact k [] F H (.refl _ _ _) s x .nil
  | .cons y xs, ds, F, H, Q, hf, hv, x, s, k => by
    unfold sxFs at hf
    unfold sxVs at hv
    obtain ⟨f1, f2⟩ := Bool.and_eq_true_iff.mp hf
    obtain ⟨v, hv1, hv⟩ := Option.bind_eq_some_iff.mp hv
    obtain ⟨vs, hv2, rfl⟩ := Option.map_eq_some_iff.mp hv
    refine sxE_ok hc hi y v F H _ f1 hv1 x s fun u F' H' n' s' x' d' => ?_
    refine sxA_ok hc hi xs vs F' H' _ f2 hv2 x' s' fun us F2 H2 n2 s2 x2 d2 => ?_
    exact k (u :: us) F2 H2 (n'.trans n2) s2 x2 (.cons (dp_mono n2.fx _ _ d') d2)
end
end
end VM
end

section
set_option Elab.async false
set_option linter.all false
set_option maxRecDepth 100000
set_option maxHeartbeats 4000000
namespace VM
open PySem PySem.Spec PyProof.Rows L2 DL

/-! ## statements -/
def sFldV (cl : ClT) (ta tv : TE) (f : Str) : TS := fun D σ H => tv σ H fun y H1 => ta σ H1 fun x H2 => ∃ a c dx fs, x = .ref a ∧ H2 a = some (.ins (cl c) dx fs) ∧ fs.length < 1000 ∧ D.nx σ (upd H2 a (.ins (cl c) dx (putF f y fs)))
def rAug : Bop → V → V → Hp → VK → Prop
  | .add => fun x y H Q => ∃ i j, x = .int i ∧ y = .int j ∧ Q (.int (i + j)) H
  | .sub => fun x y H Q => ∃ i j, x = .int i ∧ y = .int j ∧ Q (.int (i - j)) H
  | _ => fun _ _ _ _ => False
def sFldAugV (cl : ClT) (ta tv : TE) (o : Bop) (f : Str) : TS := fun D σ H => ta σ H fun x H1 => ∃ a c dx fs v, x = .ref a ∧ H1 a = some (.ins (cl c) dx fs) ∧ fs.lookup f = some v ∧
  tv σ H1 fun y H2 => rAug o v y H2 fun z H3 => ∃ dx' fs', H3 a = some (.ins (cl c) dx' fs') ∧ fs'.length < 1000 ∧ D.nx σ (upd H3 a (.ins (cl c) dx' (putF f z fs')))
def tipV : Bop → TIp
  | .add => ipI fun i j => i + j
  | .sub => ipI fun i j => i - j
  | _ => fun _ _ _ _ => False
/-- what the suite of an except clause does: a new list of truths, by the error's class -/
def tsC (xc : XCl) (i m : Nat) (cs : List (Nat × List Bool)) : Addr → Value → Option Addr → TS := fun a cls d D σ H =>
  ∃ c bs, cs.lookup c = some bs ∧ cls = xc c ∧ d = none ∧ σ[i]? = some (some (.ref a)) ∧ m ≤ σ.length ∧ ∀ p, H p = none → D.rt (.ref p) (upd H p (.lst (bs.map V.bl)))
/-- .. and one truth -/
def tsCb (xc : XCl) (i m : Nat) (cs : List (Nat × Bool)) : Addr → Value → Option Addr → TS := fun a cls d D σ H =>
  ∃ c b, cs.lookup c = some b ∧ cls = xc c ∧ d = none ∧ σ[i]? = some (some (.ref a)) ∧ m ≤ σ.length ∧ D.rt (.bl b) H
/-- o.f = .., as one of several targets -/
def gFldV (cl : ClT) (to : TE) (f : Str) : TG := fun v σ H Q => to σ H fun x H1 => ∃ a c dx fs, x = .ref a ∧ H1 a = some (.ins (cl c) dx fs) ∧ fs.length < 1000 ∧ Q σ (upd H1 a (.ins (cl c) dx (putF f v fs)))
def dS (E : Env0) : VM.St → WXK → TS
  | .raf c fs g es, W => fun _ σ H => ∀ C, E.xc c = .ref C → tMkO C (spI E.K E.cb C fs g) [] (dA E es W) σ H (fun cls d H' => W cls d σ H')
  | .trx i m b k cs, W => fun D σ H => (∀ c q, cs.lookup c = some q → PySem.W.exmOne E.K (E.xc c) (E.xc k) = some true) → dS E b (wX E.K (E.xc k) i (tsX E.xc i m cs) D) D σ H
  | .tpf i m o e, W => tAsg (dE E e W) (gTup E.K 2 (gCons (gName i) (gCons (gFldV E.cl (dE E o W) m) gNil)))
  | .rai c m, W => fun _ σ H => dE E m W σ H fun _ H1 => W (E.xc c) none σ H1
  | .tri i m b k cs, W => fun D σ H => (∀ c bs, cs.lookup c = some bs → PySem.W.exmOne E.K (E.xc c) (E.xc k) = some true) → dS E b (wAs E.K (E.xc k) i (tsC E.xc i m cs) (fun _ _ _ _ => False) D) D σ H
  | .trb i m b k cs, W => fun D σ H => (∀ c bs, cs.lookup c = some bs → PySem.W.exmOne E.K (E.xc c) (E.xc k) = some true) → dS E b (wAs E.K (E.xc k) i (tsCb E.xc i m cs) (fun _ _ _ _ => False) D) D σ H
  | .nop, _ => tNext
  | .seq a b, W => tSeq (dS E a W) (dS E b W)
  | .asg g e, W => tAsg (dE E e W) (dG E.K g)
  | .aug i o e, W => tAug i (dE E e W) (tipV o)
  | .ite c a b, W => tIfS (dT E c W) (dS E a W) (dS E b W)
  | .for_ g it b _, W => tFor (dI E it W) (dG E.K g) (dS E b W)
  | .whl c b _, W => tWhile (dT E c W) (dS E b W)
  | .ret e, W => tRet (dE E e W)
  | .retn, _ => tRetN
  | .brk, _ => tBreak
  | .cnt, _ => tCont
  | .exp e, W => tDrop (dE E e W)
  | .seti o i e, W => fun D σ H => tAsg (dE E e W) (gSub (dE E o W) (dE E i W) rSetL) D σ H ∨ sDPut (dE E o W) (dE E i W) (dE E e W) D σ H
  | .setf m o e, W => sFldV E.cl (dE E o W) (dE E e W) m
  | .augf m o b e, W => sFldAugV E.cl (dE E o W) (dE E e W) b m
  | .sett o es e, W => sDPut (dE E o W) (tTup (dA E es W)) (dE E e W)
  | .nput o i e, W => GDict.sGput E.cl.pr E.cl.w E.K (dE E o W) (dE E i W) (dE E e W)
  | .ndel o i, W => GDict.sGdel E.cl.pr E.cl.w E.K (dE E o W) (dE E i W)
  | .bad, _ => fun _ _ _ => False

def PF (K : PySem.W.Frag) (cl : ClT) (xc : XCl) (out : Fl) (L : List Addr) (F H : Hp) (W : WXK) (D : Ends) : Prop := match out with
  | .nx ρ' S' => ∀ σ' F' H' L', Nx L F H L' F' H' → EOk K F' L' σ' ρ' → SV K cl F' H' L' S' → D.nx σ' H'
  | .rt r S' => ∀ v F' H' L', Nx L F H L' F' H' → SV K cl F' H' L' S' → RV K cl L' F' H H' v r → D.rt v H'
  | .bk ρ' S' => ∀ σ' F' H' L', Nx L F H L' F' H' → EOk K F' L' σ' ρ' → SV K cl F' H' L' S' → D.bk σ' H'
  | .ct ρ' S' => ∀ σ' F' H' L', Nx L F H L' F' H' → EOk K F' L' σ' ρ' → SV K cl F' H' L' S' → D.ct σ' H'
  | .ex c fs ρ' S' => ∀ d σ' F' H' L', Nx L F H L' F' H' → EOk K F' L' σ' ρ' → SV K cl F' H' L' S' → XOk K F' H H' fs d → W (xc c) d σ' H'
  | .bad => False
section
variable {α γ δ : Type} {K : PySem.W.Frag} {cl : ClT} {xc : XCl} {Ra : List Addr → Hp → Hp → Hp → γ → δ → Prop} {ρ : Rho} {S S1 : Stv} {W : WXK} {σ : L2.St} {L L1 L0 : List Addr} {F F0 F1 H H0 H1 Hx : Hp} {D : Ends} {x y : V} {rx ry : Rv}
theorem PF.shift {out : Fl} (n : Nx L F H L1 F1 H1) (p : PF K cl xc out L F H W D) : PF K cl xc out L1 F1 H1 W D := by
  cases out with
  | nx ρ' S' => exact fun σ' F' H' L' n' e' s' => p σ' F' H' L' (n.trans n') e' s'
  | rt r S' => exact fun v F' H' L' n' s' r' => p v F' H' L' (n.trans n') s' (r'.back n)
  | bk ρ' S' => exact fun σ' F' H' L' n' e' s' => p σ' F' H' L' (n.trans n') e' s'
  | ct ρ' S' => exact fun σ' F' H' L' n' e' s' => p σ' F' H' L' (n.trans n') e' s'
  | ex c fs ρ' S' => exact fun d σ' F' H' L' n' e' s' x' => p d σ' F' H' L' (n.trans n') e' s' (x'.back n)
  | bad => exact p
theorem Evs.thnS {ta : WXK → L2.St → Hp → (γ → Hp → Prop) → Prop} {o : Out δ} {f : δ → Stv → Fl} {Q1 : γ → Hp → Prop} (h : Evs K cl xc Ra ρ S1 ta o) (E : EOk K F1 L1 σ ρ) (s : SV K cl F1 H1 L1 S1) (n : Nx L F H L1 F1 H1) (p : PF K cl xc (o.fl ρ f) L F H W D)
    (k : ∀ r S2, o = .ok r S2 → ∀ v F2 H2 L2, Nx L1 F1 H1 L2 F2 H2 → SV K cl F2 H2 L2 S2 → EOk K F2 L2 σ ρ → Ra L2 F2 H1 H2 v r → PF K cl xc (f r S2) L F H W D → Q1 v H2) : ta W σ H1 Q1 := by
  refine h σ F1 H1 L1 E s W Q1 ?_
  cases o with
  | ok r S2 => exact fun v F2 H2 L2 n2 s2 r2 => k r S2 rfl v F2 H2 L2 n2 s2 (n2.eok E) r2 p
  | ex c fs S' => exact fun d F' H' L' n' s' x' => p d σ F' H' L' (n.trans n') (n'.eok E) s' (x'.back n)
  | bad => exact p.elim
def ES (K : PySem.W.Frag) (cl : ClT) (xc : XCl) (ρ : Rho) (S : Stv) (ts : WXK → TS) (out : Fl) : Prop := ∀ σ F H L, EOk K F L σ ρ → SV K cl F H L S → ∀ (W : WXK) (D : Ends), PF K cl xc out L F H W D → ts W D σ H
theorem put_fs {m : Str} {v : V} {e : En} : ∀ {vs : List (Str × V)} {fs : List (Str × En)}, vs.map (·.1) = fs.map (·.1) → EnA K F L (vs.map (·.2)) (fs.map (·.2)) → EnOk K F L e (some v) → (putF m v vs).map (·.1) = (putFE m e fs).map (·.1) ∧ EnA K F L ((putF m v vs).map (·.2)) ((putFE m e fs).map (·.2))
  | [], [], _, _, h => ⟨rfl, ena_one h⟩
  | (a, w) :: vs, (b, e') :: fs, hn, h, he => by
    simp only [List.map_cons, List.cons.injEq] at hn
    obtain ⟨rfl, hn⟩ := hn
    have ht : EnA K F L (vs.map (·.2)) (fs.map (·.2)) := ⟨by have := h.1; simpa using this, fun i e he => h.2 (i + 1) e he⟩
    have hh : EnOk K F L e' (some w) := by
      obtain ⟨o, ho, hq⟩ := h.2 0 e' rfl
      cases ho
      exact hq
    unfold putF putFE
    dsimp only
    split
    · exact ⟨by simp [hn], ena_cons he ht⟩
    · obtain ⟨i1, i2⟩ := put_fs (m := m) hn ht he
      exact ⟨by simp [i1], ena_cons hh i2⟩
  | [], _ :: _, hn, _, _ => by cases hn
  | _ :: _, [], hn, _, _ => by cases hn
theorem prd_len {α β : Type} {P : α → β → Prop} : ∀ {xs : List α} {ys : List β}, Paired P xs ys → xs.length = ys.length
  | _, _, .nil => rfl
  | _, _, .cons _ t => by simp [prd_len t]
theorem prd_app {α β : Type} {P : α → β → Prop} : ∀ {xs xs' : List α} {ys ys' : List β}, Paired P xs ys → Paired P xs' ys' → Paired P (xs ++ xs') (ys ++ ys')
  | _, _, _, _, .nil, h => h
  | _, _, _, _, .cons a t, h => .cons a (prd_app t h)
theorem put_prd {κ : Type} [DecidableEq κ] {key : PyData → Option κ} {k : κ} {w : V} {d e : PyData} (hk : key d = some k) (hw : Dp K F w e) {hs : List (κ × V)} {kvs : List (PyData × PyData)} (h : Paired (fun (p : κ × V) (q : PyData × PyData) => key q.1 = some p.1 ∧ Dp K F p.2 q.2) hs kvs) :
    Paired (fun (p : κ × V) (q : PyData × PyData) => key q.1 = some p.1 ∧ Dp K F p.2 q.2) (putK hs k w) (if kvs.any (fun p => decide (key p.1 = some k)) = true then kvs.map (fun p => if key p.1 = some k then (p.1, e) else p) else kvs ++ [(d, e)]) := by
  have e1 : ∀ {hs : List (κ × V)} {kvs : List (PyData × PyData)}, Paired (fun (p : κ × V) (q : PyData × PyData) => key q.1 = some p.1 ∧ Dp K F p.2 q.2) hs kvs → (kvs.any fun p => decide (key p.1 = some k)) = (hs.any fun p => decide (p.1 = k)) := by
    intro hs kvs h
    induction h with
    | nil => rfl
    | cons a t ih =>
      rw [List.any_cons, List.any_cons, ih, a.1]
      congr 1
      rw [Bool.eq_iff_iff]
      simp
  have e2 : ∀ {hs : List (κ × V)} {kvs : List (PyData × PyData)}, Paired (fun (p : κ × V) (q : PyData × PyData) => key q.1 = some p.1 ∧ Dp K F p.2 q.2) hs kvs → Paired (fun (p : κ × V) (q : PyData × PyData) => key q.1 = some p.1 ∧ Dp K F p.2 q.2) (hs.map fun p => if p.1 = k then (p.1, w) else p) (kvs.map fun p => if key p.1 = some k then (p.1, e) else p) := by
    intro hs kvs h
    induction h with
    | nil => exact .nil
    | @cons p q ps qs a t ih =>
      refine .cons ?_ ih
      dsimp only
      by_cases hp : p.1 = k
      · rw [if_pos hp, if_pos (by rw [a.1, hp])]
        exact ⟨a.1, hw⟩
      · rw [if_neg hp, if_neg (by rw [a.1]; simpa using hp)]
        exact a
  unfold putK
  rw [e1 h]
  split
  · exact e2 h
  · exact prd_app h (.cons ⟨hk, hw⟩ .nil)
theorem whileN_more {t : Rho → Stv → Out Bool} {f : Rho → Stv → Fl} {ks : List Nat} {n0 : Nat} (h : whileF t f ks n0 ρ S ≠ .bad) : ∃ n, whileF t f ks n0 ρ S = whileN t f ks n0 n ρ S := by
  unfold whileF at h ⊢
  split
  · rename_i hn
    exact ⟨_, rfl⟩
  · rename_i hn
    rw [dif_neg hn] at h
    exact absurd rfl h
/-! ### stores -/
theorem set_k {n : Nat} {a : Addr} {kvs kvs' : List (PyData × PyData)} {d e : PyData} {v w : V} {Q : Hp → Prop} (s : SV K cl F H L S) (hx : RV K cl L F Hx H x (.mu n)) (hm : S[n]? = some (.dct false kvs)) (hd : Dp K F v d) (hw : Dp K F w e) (hl : kvs.length < big) (hp : putD false kvs d e = some kvs')
    (q : ∀ H', Nx L F H L F H' → SV K cl F H' L (S.set n (.dct false kvs')) → Q H') : ∃ a H4, x = .ref a ∧ DPut H a v w H4 ∧ Q H4 := by
  obtain ⟨a, rfl, ha⟩ := hx
  obtain ⟨_, h2⟩ := s.st _ a ha
  obtain ⟨_, o, ho, hk, rfl, hpr⟩ := h2 _ hm (by nofun)
  obtain ⟨k, ek, rfl⟩ := Option.map_eq_some_iff.mp hp
  obtain ⟨n1, s1⟩ := put_cell s ha hm (by nofun) (show CellOk K cl F L (.dK (putK hk k w)) (.dct false _) from ⟨_, rfl, put_prd ek hw hpr⟩)
  exact ⟨a, _, rfl, .inl ⟨hk, k, ho, keyK_v hd ek, by rw [prd_len hpr]; exact bigL' hl, rfl⟩, q _ n1 s1⟩
theorem set_ok {n : Nat} {d : PyData} {en : En} {S' : Stv} {v w : V} {Q : Hp → Prop} (s : SV K cl F H L S) (hx : RV K cl L F Hx H x (.mu n)) (hd : Dp K F v d) (hw : EnOk K F L en (some w)) (h : setiO n d en S = some S')
    (q : ∀ H', Nx L F H L F H' → SV K cl F H' L S' → Q H') : ((¬ ∃ kvs, S[n]? = some (.dct false kvs)) → rSetL x v w H Q) ∧ ((∃ kvs, S[n]? = some (.dct false kvs)) → ∃ a H4, x = .ref a ∧ DPut H a v w H4 ∧ Q H4) := by
  unfold setiO at h
  split at h
  · rename_i ds hm
    split at h
    · rename_i i d'
      obtain ⟨j, hj, rfl⟩ := Option.map_eq_some_iff.mp h
      obtain ⟨a, ws, rfl, ha, ho, hds⟩ := mu_lst s hx hm
      obtain ⟨w', ew, hw'⟩ := hw
      cases ew
      cases hd
      obtain ⟨n1, s1⟩ := put_cell (c' := .lst (ds.set j d')) s ha hm (by nofun) ⟨_, rfl, dpa_set j hds hw'⟩
      exact ⟨fun _ => ⟨a, ws, i, j, rfl, rfl, ho, by rw [dpa_len hds]; exact hj, q _ n1 s1⟩, fun ⟨_, z⟩ => by rw [hm] at z; cases z⟩
    · cases h
  · rename_i es hm
    split at h
    · rename_i i
      obtain ⟨j, hj, rfl⟩ := Option.map_eq_some_iff.mp h
      obtain ⟨a, ws, rfl, ha, ho, hds⟩ := mu_lse s hx hm
      cases hd
      obtain ⟨n1, s1⟩ := put_cell (c' := .lse (es.set j en)) s ha hm (by nofun) ⟨_, rfl, ena_set j hds hw⟩
      exact ⟨fun _ => ⟨a, ws, i, j, rfl, rfl, ho, by rw [hds.1]; exact hj, q _ n1 s1⟩, fun ⟨_, z⟩ => by rw [hm] at z; cases z⟩
    · cases h
  · rename_i kvs hm
    split at h
    · rename_i e
      split at h
      · rename_i hl
        obtain ⟨kvs', hp, rfl⟩ := Option.map_eq_some_iff.mp h
        obtain ⟨w', ew, hw'⟩ := hw
        cases ew
        exact ⟨fun z => absurd ⟨_, hm⟩ z, fun _ => set_k (a := 0) s hx hm hd hw' hl hp q⟩
      · cases h
    · cases h
  · cases h
theorem fld_ok {n c : Nat} {m : Str} {en : En} {fs : List (Str × En)} {w : V} {Q : Hp → Prop} (s : SV K cl F H L S) (hx : RV K cl L F Hx H x (.mu n)) (hm : S[n]? = some (.obj c fs)) (hw : EnOk K F L en (some w)) (hl : fs.length < 1000)
    (q : ∀ H', Nx L F H L F H' → SV K cl F H' L (S.set n (.obj c (putFE m en fs))) → Q H') : ∃ a dx ws, x = .ref a ∧ H a = some (.ins (cl c) dx ws) ∧ ws.length < 1000 ∧ Q (upd H a (.ins (cl c) dx (putF m w ws))) := by
  obtain ⟨a, dx, ws, rfl, ha, ho, hn, hd⟩ := mu_obj s hx hm
  obtain ⟨p1, p2⟩ := put_fs (m := m) hn hd hw
  obtain ⟨n1, s1⟩ := put_cell (c' := .obj c (putFE m en fs)) s ha hm (by nofun) ⟨dx, _, rfl, p1, p2⟩
  refine ⟨a, dx, ws, rfl, ho, ?_, q _ n1 s1⟩
  have := congrArg List.length hn
  rw [List.length_map, List.length_map] at this
  omega
end

theorem trx_ex {i : Option Nat} {m c : Nat} {cs : List (Nat × List (Str × Bool) × Sx)} {fs : List (Str × D)} {ρ : Rho} {S : Stv} (h : trxF i m cs (.ex c fs ρ S) ≠ .bad) :
    ∃ ty sx r, cs.lookup c = some (ty, sx) ∧ sxR fs sx = some r ∧ sxF i sx = true ∧ m ≤ ρ.length ∧ (i.all fun j => decide (j < ρ.length)) = true ∧ (ty.all fun q => tyF q.2 (fs.lookup q.1)) = true ∧ trxF i m cs (.ex c fs ρ S) = .rt r S := by
  unfold trxF at h ⊢
  cases hb : cs.lookup c with
  | none => simp only [hb] at h; exact absurd rfl h
  | some q =>
    obtain ⟨ty, sx⟩ := q
    cases hr : sxR fs sx with
    | none => simp only [hb, hr] at h; exact absurd rfl h
    | some r =>
      simp only [hb, hr] at h ⊢
      by_cases hc : sxF i sx = true ∧ m ≤ ρ.length ∧ (i.all fun j => decide (j < ρ.length)) = true ∧ (ty.all fun q => tyF q.2 (fs.lookup q.1)) = true
      · exact ⟨ty, sx, r, rfl, hr, hc.1, hc.2.1, hc.2.2.1, hc.2.2.2, if_pos hc⟩
      · rw [if_neg hc] at h
        exact absurd rfl h
theorem enDs_map : ∀ {es : List En} {ds : List D}, enDs es = some ds → es = ds.map .dt
  | [], ds, h => by cases h; rfl
  | .dt d :: es, ds, h => by
    unfold enDs at h
    obtain ⟨ds', h', rfl⟩ := Option.map_eq_some_iff.mp h
    rw [enDs_map h']
    rfl
  | .mu n :: es, ds, h => by cases h
  | .un :: es, ds, h => by cases h
theorem prd_zip {K : PySem.W.Frag} {F : Hp} : ∀ (fs : List Str) {vs : List V} {ds : List D}, DpAll K F vs ds → FPr K F (fs.zip vs) (fs.zip ds)
  | [], _, _, _ => .nil
  | _ :: _, [], [], _ => .nil
  | f :: fs, _, _, .cons h t => .cons ⟨rfl, h⟩ (prd_zip fs t)
theorem prd_rev {α β : Type} {P : α → β → Prop} : ∀ {xs : List α} {ys : List β}, Paired P xs ys → Paired P xs.reverse ys.reverse
  | _, _, .nil => .nil
  | _, _, .cons a t => by
    rw [List.reverse_cons, List.reverse_cons]
    exact prd_app (prd_rev t) (.cons a .nil)
theorem dpa_bools {K : PySem.W.Frag} {F : Hp} : ∀ (bs : List Bool), DpAll K F (bs.map V.bl) (bs.map PyData.bool)
  | [] => .nil
  | b :: bs => .cons (.bl b) (dpa_bools bs)
/-! ## the machine does what the statement computes -/
open Classical in
theorem sS {E : Env0} (hE : Har E) : ∀ (st : VM.St) (ρ : Rho) (S : Stv), ES E.K E.cl E.xc ρ S (dS E st) (exec E.cb st ρ S)
  | .nop, ρ, S => fun σ F H L e s W D p => p σ F H L (.refl _ _ _) e s
  | .bad, ρ, S => fun σ F H L e s W D p => by
    unfold exec at p
    exact p.elim
  | .rai c m, ρ, S => fun σ F H L e s W D p => by
    unfold exec at p
    exact (sE hE m ρ S).thnS e s (.refl _ _ _) p fun r1 S1 _ v1 F1 H1 L1 n1 s1 e1 x1 p => p none σ F1 H1 L1 n1 e1 s1 rfl
  | .raf c fs g es, ρ, S => fun σ F H L e s W D p => by
    unfold exec at p
    intro C hC
    refine (sA hE es ρ S).thnS e s (.refl _ _ _) p fun ks S1 _ vs F1 H1 L1 n1 s1 e1 x1 p => ?_
    unfold rafO at p
    split at p
    case h_2 => exact p.elim
    rename_i ds hds
    have dp := ena_dps x1 hds
    have hks : ks = ds.map .dt := enDs_map hds
    split at p
    case isFalse => exact p.elim
    rename_i hc
    obtain ⟨c1, c2, c3⟩ := hc
    split at p
    case h_2 => exact p.elim
    rename_i r S' hcb
    have hlen : vs.length = fs.length := (dpa_len dp).trans c1
    refine ⟨by omega, fun a ha => ⟨a, vs, ds, by rw [List.append_nil], hlen, ⟨F1, dp⟩, c3, c2, ⟨r, S', by rw [← hks]; exact hcb⟩, upd_same, fun d hd hda => ⟨rfl, d, (fs.zip vs).reverse, upd_same, ?_, ?_, ?_⟩⟩⟩
    · rw [upd_ne hda, upd_same]
    · rw [upd_ne hda] at hd
      exact hd
    · rw [upd_ne hda] at hd
      have eh : upd (del (upd (upd (upd H1 a (exo a C none)) d (exd d (fs.zip vs).reverse)) a (exo a C (some d))) a) d (.xd (fs.zip vs).reverse) = upd H1 d (.xd (fs.zip vs).reverse) := by
        funext b
        by_cases hb : b = d
        · rw [hb, upd_same, upd_same]
        · rw [upd_ne hb, upd_ne hb]
          by_cases hba : b = a
          · rw [hba, del_same, ha]
          · rw [del_ne hba, upd_ne hba, upd_ne hb, upd_ne hba]
      rw [eh, ← hC]
      obtain ⟨n2, s2⟩ := nx_lay s1 hd (.xd (fs.zip vs).reverse)
      split at p
      case h_2 => exact p.elim
      rename_i pp ps hz
      refine p (some d) σ F1 _ L1 (n1.trans n2) e1 s2 ?_
      refine ⟨d, _, rfl, n1.stp.fresh hd, fr_F s1 hd, upd_same, ?_⟩
      rw [← hz]
      exact prd_rev (prd_zip fs dp)
  | .trx i m b k cs, ρ, S => fun σ F H L e s W D p => by
    unfold exec at p
    intro hx
    refine sS hE b ρ S σ F H L e s _ D ?_
    cases h : exec E.cb b ρ S with
    | nx ρ1 S1 => rw [h] at p; exact p
    | rt r S' => rw [h] at p; exact p
    | bk ρ' S' => rw [h] at p; exact p
    | ct ρ' S' => rw [h] at p; exact p
    | bad => rw [h] at p; exact p.elim
    | ex c fs ρ' S' =>
      rw [h] at p
      have hbad : trxF i m cs (.ex c fs ρ' S') ≠ .bad := fun z => by rw [z] at p; exact p
      obtain ⟨ty, sx, r, hb, hr, q1, q2, q3, q4, heq⟩ := trx_ex hbad
      rw [heq] at p
      intro d σ' F' H' L' n' e' s' x'
      have fo := fo_of x'
      have hl : ∀ j, j < ρ'.length → j < σ'.length := fun j hj => by
        obtain ⟨o, ho, _⟩ := e' j _ (List.getElem?_eq_getElem hj)
        exact (List.getElem?_eq_some_iff.mp ho).1
      have hm : m ≤ σ'.length := Nat.le_trans q2 (Nat.le_of_not_lt fun z => by have := hl _ z; omega)
      have hty : ∀ q ∈ ty, TyV d H' q := fun q hq => ty_ok fo (List.all_eq_true.mp q4 q hq)
      have fin : ∀ (a : Addr) (σ2 : L2.St), (∀ j, i = some j → σ2[j]? = some (some (.ref a))) → ∀ C, E.xc c = .ref C → sxE (i.getD 0) a (E.xc c) d C sx σ2 H' D.rt := by
        intro a σ2 hi C hC
        cases sx with
        | ls xs =>
          unfold sxR at hr
          obtain ⟨ds, hds, hr⟩ := Option.bind_eq_some_iff.mp hr
          split at hr
          case isFalse => cases hr
          rename_i hz
          cases hr
          refine sxA_ok hC hi xs ds F' H' _ q1 hds fo s' fun us F2 H2 n2 s2 x2 d2 => ⟨by rw [dpa_len d2, sizeLine_eq]; omega, fun q hq => ?_⟩
          obtain ⟨n3, s3⟩ := nx_lay s2 hq (.lst us)
          exact p _ _ _ _ ((n'.trans n2).trans n3) s3 ((rv_new (c := .lst ds) s2 hq ⟨_, rfl, d2⟩).back (n'.trans n2))
        | d v =>
          obtain ⟨v', hv, rfl⟩ := Option.map_eq_some_iff.mp hr
          exact sxE_ok hC hi (.d v) v' F' H' _ q1 hv fo s' fun u F2 H2 n2 s2 x2 d2 => p _ _ _ _ (n'.trans n2) s2 d2
        | f v =>
          obtain ⟨v', hv, rfl⟩ := Option.map_eq_some_iff.mp hr
          exact sxE_ok hC hi (.f v) v' F' H' _ q1 hv fo s' fun u F2 H2 n2 s2 x2 d2 => p _ _ _ _ (n'.trans n2) s2 d2
        | tp v =>
          obtain ⟨v', hv, rfl⟩ := Option.map_eq_some_iff.mp hr
          exact sxE_ok hC hi (.tp v) v' F' H' _ q1 hv fo s' fun u F2 H2 n2 s2 x2 d2 => p _ _ _ _ (n'.trans n2) s2 d2
      cases i with
      | none => exact ⟨true, hx _ _ hb, fun _ a ha => ⟨_, ty, sx, hb, rfl, fun j z => by (cases z), hm, hty, fin a _ fun j z => by (cases z)⟩, fun z => by cases z⟩
      | some j =>
        have hj : j < σ'.length := hl j (by simpa using q3)
        have hs : ∀ a, ∀ j', some j = some j' → (σ'.set j (some (V.ref a)))[j']? = some (some (.ref a)) := fun a j' z => by
          cases z
          exact List.getElem?_set_self hj
        exact ⟨true, hx _ _ hb, fun _ a ha => ⟨_, ty, sx, hb, rfl, hs a, by rw [List.length_set]; exact hm, hty, fin a _ (hs a)⟩, fun z => by cases z⟩
  | .tri i m b k cs, ρ, S => fun σ F H L e s W D p => by
    unfold exec at p
    intro hx
    refine sS hE b ρ S σ F H L e s _ D ?_
    cases h : exec E.cb b ρ S with
    | nx ρ1 S1 => rw [h] at p; exact p
    | rt r S' => rw [h] at p; exact p
    | bk ρ' S' => rw [h] at p; exact p
    | ct ρ' S' => rw [h] at p; exact p
    | bad => rw [h] at p; exact p.elim
    | ex c fs ρ' S' =>
      rw [h] at p
      unfold triF at p
      cases fs with
      | cons _ _ => exact p.elim
      | nil =>
        cases hi : ρ'[i]? with
        | none => simp only [hi] at p; exact p.elim
        | some en =>
          cases hb : cs.lookup c with
          | none => simp only [hi, hb] at p; exact p.elim
          | some bs =>
            simp only [hi, hb] at p
            by_cases hm : m ≤ ρ'.length
            case neg => rw [if_neg hm] at p; exact p.elim
            rw [if_pos hm] at p
            intro d σ' F' H' L' n' e' s' x'
            have x' : d = none := x'
            subst x'
            refine ⟨true, hx _ _ hb, fun _ a ha => ?_, fun z => by cases z⟩
            obtain ⟨o, ho, _⟩ := e' i _ hi
            have hl : i < σ'.length := (List.getElem?_eq_some_iff.mp ho).1
            refine ⟨_, bs, hb, rfl, rfl, List.getElem?_set_self hl, ?_, fun q hq => ?_⟩
            · rw [List.length_set]
              refine Nat.le_trans hm (Nat.le_of_not_lt fun z => ?_)
              obtain ⟨o2, ho2, _⟩ := e' σ'.length _ (List.getElem?_eq_getElem z)
              exact absurd (List.getElem?_eq_some_iff.mp ho2).1 (Nat.lt_irrefl _)
            obtain ⟨n2, s2⟩ := nx_lay s' hq (.lst (bs.map V.bl))
            exact p _ _ _ _ (n'.trans n2) s2 ((rv_new (c := .lst (bs.map .bool)) s' hq ⟨_, rfl, dpa_bools bs⟩).back n')
  | .trb i m b k cs, ρ, S => fun σ F H L e s W D p => by
    unfold exec at p
    intro hx
    refine sS hE b ρ S σ F H L e s _ D ?_
    cases h : exec E.cb b ρ S with
    | nx ρ1 S1 => rw [h] at p; exact p
    | rt r S' => rw [h] at p; exact p
    | bk ρ' S' => rw [h] at p; exact p
    | ct ρ' S' => rw [h] at p; exact p
    | bad => rw [h] at p; exact p.elim
    | ex c fs ρ' S' =>
      rw [h] at p
      unfold trbF at p
      cases fs with
      | cons _ _ => exact p.elim
      | nil =>
        cases hi : ρ'[i]? with
        | none => simp only [hi] at p; exact p.elim
        | some en =>
          cases hb : cs.lookup c with
          | none => simp only [hi, hb] at p; exact p.elim
          | some bs =>
            simp only [hi, hb] at p
            by_cases hm : m ≤ ρ'.length
            case neg => rw [if_neg hm] at p; exact p.elim
            rw [if_pos hm] at p
            intro d σ' F' H' L' n' e' s' x'
            have x' : d = none := x'
            subst x'
            refine ⟨true, hx _ _ hb, fun _ a ha => ?_, fun z => by cases z⟩
            obtain ⟨o, ho, _⟩ := e' i _ hi
            have hl : i < σ'.length := (List.getElem?_eq_some_iff.mp ho).1
            refine ⟨_, bs, hb, rfl, rfl, List.getElem?_set_self hl, ?_, p _ _ _ _ n' s' (.bl bs : Dp E.K _ (.bl bs) (.bool bs))⟩
            rw [List.length_set]
            refine Nat.le_trans hm (Nat.le_of_not_lt fun z => ?_)
            obtain ⟨o2, ho2, _⟩ := e' σ'.length _ (List.getElem?_eq_getElem z)
            exact absurd (List.getElem?_eq_some_iff.mp ho2).1 (Nat.lt_irrefl _)
  | .seq a b, ρ, S => fun σ F H L e s W D p => by
    unfold exec at p
    refine sS hE a ρ S σ F H L e s W { D with nx := dS E b W D } ?_
    cases h : exec E.cb a ρ S with
    | nx ρ1 S1 =>
      rw [h] at p
      exact fun σ' F' H' L' n' e' s' => sS hE b ρ1 S1 σ' F' H' L' e' s' W D (PF.shift n' p)
    | rt r S' => rw [h] at p; exact p
    | bk ρ' S' => rw [h] at p; exact p
    | ct ρ' S' => rw [h] at p; exact p
    | ex c fs ρ' S' => rw [h] at p; exact p
    | bad => rw [h] at p; exact p.elim
  | .asg g ex, ρ, S => fun σ F H L e s W D p => by
    unfold exec at p
    refine (sE hE ex ρ S).thnS e s (.refl _ _ _) p fun r1 S1 _ v1 F1 H1 L1 n1 s1 e1 x1 p => ?_
    split at p
    · rename_i ρ1 hb
      obtain ⟨L2, F2, n2, s2, en⟩ := rv_en n1 s1 x1
      exact tgt_ok hb s2.sub (n2.eok e) en fun σ' e' => p σ' _ _ _ n2 e' s2
    · exact p.elim
  | .aug i o ex, ρ, S => fun σ F H L e s W D p => by
    unfold exec at p
    split at p
    · rename_i x hx
      obtain ⟨ov, ho, v, rfl, hv⟩ := e i _ hx
      cases hv
      refine ⟨_, ho, ?_⟩
      refine (sE hE ex ρ S).thnS e s (.refl _ _ _) p fun r1 S1 _ v1 F1 H1 L1 n1 s1 e1 x1 p => ?_
      split at p
      · rename_i j _
        cases dp_int x1
        split at p
        · rename_i z hz
          have go : ∀ z', z = z' → D.nx (σ.set i (some (.int z'))) H1 := fun z' ez => by
            subst ez
            exact p _ _ _ _ n1 (e1.set i (e := .dt (.int z)) ⟨_, rfl, .int _⟩) s1
          cases o with
          | add => cases hz; exact ⟨x, j, rfl, rfl, go _ rfl⟩
          | sub => cases hz; exact ⟨x, j, rfl, rfl, go _ rfl⟩
          | _ => cases hz
        · exact p.elim
      · exact p.elim
    · exact p.elim
  | .ite c a b, ρ, S => fun σ F H L e s W D p => by
    unfold exec at p
    refine (sT hE c ρ S).thnS e s (.refl _ _ _) p fun k S1 _ k' F1 H1 L1 n1 s1 e1 x1 p => ?_
    have x1 : k' = k := x1
    subst x1
    split at p
    · rename_i hk
      rw [if_pos hk]
      exact sS hE a ρ S1 σ F1 H1 L1 e1 s1 W D (PF.shift n1 p)
    · rename_i hk
      rw [if_neg hk]
      exact sS hE b ρ S1 σ F1 H1 L1 e1 s1 W D (PF.shift n1 p)
  | .for_ g it b ks, ρ, S => fun σ F H L e s W D p => by
    unfold exec at p
    refine (sI hE it ρ S).thnS e s (.refl _ _ _) p fun is S1 hi J F1 H1 L1 n1 s1 e1 hJ p => ?_
    have ck1 := evI_chk hi
    have p := PF.shift n1 p
    have hlen : L1.length = S1.length := s1.len
    refine ⟨fun i m σ' H' => m = is.1.length - i ∧ i ≤ is.1.length ∧ ∃ F' L' ρ' S', Nx L1 F1 H1 L' F' H' ∧ EOk E.K F' L' σ' ρ' ∧ SV E.K E.cl F' H' L' S' ∧ chk is.2 S' ∧ PF E.K E.cl E.xc (loopF (fun e ρ S => match bindE g e ρ with
      | some ρ1 => exec E.cb b ρ1 S
      | none => .bad) is.2 ks S1.length (is.1.drop i) ρ' S') L1 F1 H1 W D, ⟨_, rfl, Nat.zero_le _, F1, L1, ρ, S1, .refl _ _ _, e1, s1, ck1, p⟩, ?_⟩
    rintro i m σ' H' ⟨rfl, hil, F', L', ρ', S', n', e', s', ck, pl⟩
    obtain ⟨R, eL, fR⟩ := n'.ex
    subst eL
    by_cases hlt : i < is.1.length
    · obtain ⟨go, yl⟩ := hJ.go F' H' R S' i n'.fx s' ck hlt
      rw [List.drop_eq_getElem_cons hlt] at pl
      unfold loopF at pl
      refine .inr ⟨go, fun σ2 H2 => ∃ F2 L2 ρ2 S2, Nx L1 F1 H1 L2 F2 H2 ∧ EOk E.K F2 L2 σ2 ρ2 ∧ SV E.K E.cl F2 H2 L2 S2 ∧ chk is.2 S2 ∧ PF E.K E.cl E.xc (loopF (fun e ρ S => match bindE g e ρ with
        | some ρ1 => exec E.cb b ρ1 S
        | none => .bad) is.2 ks S1.length (is.1.drop (i + 1)) ρ2 S2) L1 F1 H1 W D, fun σ2 H2 n2 => ⟨_, by omega, rfl, by omega, n2⟩, fun x H2 y => ?_⟩
      obtain ⟨F3, en, n3, s3, he, hxe⟩ := yl x H2 y
      rw [List.getElem?_eq_getElem hlt] at he
      cases he
      cases hb : bindE g is.1[i] ρ' with
      | none => simp only [hb] at pl; exact pl.elim
      | some ρ1 =>
        simp only [hb] at pl
        refine tgt_ok hb s3.sub (n3.eok e') hxe fun σ3 e3 => ?_
        refine sS hE b ρ1 S' σ3 F3 H2 (L1 ++ R) e3 s3 W _ ?_
        have n13 := n'.trans n3
        have turn : ∀ {ρ2 S2}, PF E.K E.cl E.xc (if chk is.2 (trim S1.length (kill ks ρ2) S2) then loopF (fun e ρ S => match bindE g e ρ with
            | some ρ1 => exec E.cb b ρ1 S
            | none => .bad) is.2 ks S1.length (is.1.drop (i + 1)) (kill ks ρ2) (trim S1.length (kill ks ρ2) S2) else .bad) L1 F1 H1 W D → ∀ σ' F' H' L', Nx (L1 ++ R) F3 H2 L' F' H' → EOk E.K F' L' σ' ρ2 → SV E.K E.cl F' H' L' S2 → ∃ F2 L2 ρ2 S2, Nx L1 F1 H1 L2 F2 H' ∧ EOk E.K F2 L2 σ' ρ2 ∧ SV E.K E.cl F2 H' L2 S2 ∧ chk is.2 S2 ∧ PF E.K E.cl E.xc (loopF (fun e ρ S => match bindE g e ρ with
            | some ρ1 => exec E.cb b ρ1 S
            | none => .bad) is.2 ks S1.length (is.1.drop (i + 1)) ρ2 S2) L1 F1 H1 W D := by
          intro ρ2 S2 pc σ' F' H' L' n4 e4 s4
          split at pc
          · rename_i hck
            obtain ⟨L5, n5, e5, s5, _⟩ := trim_ok (n13.trans n4) (kill_ok (ks := ks) e4) s4
            rw [hlen] at s5
            exact ⟨F', L5, _, _, n5, e5, s5, hck, pc⟩
          · exact pc.elim
        cases hr : exec E.cb b ρ1 S' with
        | nx ρ2 S2 =>
          simp only [hr] at pl
          exact turn pl
        | ct ρ2 S2 =>
          simp only [hr] at pl
          exact turn pl
        | bk ρ2 S2 =>
          simp only [hr] at pl
          exact fun σ' F' H' L' n4 e4 s4 => pl σ' F' H' L' (n13.trans n4) e4 s4
        | rt r S2 =>
          simp only [hr] at pl
          exact fun v F' H' L' n4 s4 r4 => pl v F' H' L' (n13.trans n4) s4 (r4.back n13)
        | ex c fs ρ2 S2 =>
          simp only [hr] at pl
          exact fun d σ' F' H' L' n4 e4 s4 x4 => pl d σ' F' H' L' (n13.trans n4) e4 s4 (x4.back n13)
        | bad => simp only [hr] at pl; exact pl.elim
    · have ei : i = is.1.length := by omega
      subst ei
      rw [List.drop_length] at pl
      unfold loopF at pl
      exact .inl ⟨hJ.stop F' H' R S' n'.fx s' ck, pl σ' F' H' _ n' e' s'⟩
  | .whl c b ks, ρ, S => fun σ F H L e s W D p => by
    unfold exec at p
    have hlen : L.length = S.length := s.len
    obtain ⟨m0, hm0⟩ := whileN_more (ρ := ρ) (S := S) (t := fun ρ S => evT E.cb ρ S c) (f := fun ρ S => exec E.cb b ρ S) (ks := ks) (n0 := S.length) (fun z => by rw [z] at p; exact p)
    rw [hm0] at p
    refine ⟨fun m σ' H' => ∃ F' L' ρ' S', Nx L F H L' F' H' ∧ EOk E.K F' L' σ' ρ' ∧ SV E.K E.cl F' H' L' S' ∧ PF E.K E.cl E.xc (whileN (fun ρ S => evT E.cb ρ S c) (fun ρ S => exec E.cb b ρ S) ks S.length m ρ' S') L F H W D, ⟨m0, F, L, ρ, S, .refl _ _ _, e, s, p⟩, ?_⟩
    rintro m σ' H' ⟨F', L', ρ', S', n', e', s', pl⟩
    cases m with
    | zero => exact pl.elim
    | succ m =>
      unfold whileN at pl
      refine (sT hE c ρ' S').thnS e' s' n' pl fun k S1 _ k' F1 H1 L1 n1 s1 e1 x1 pl => ?_
      have x1 : k' = k := x1
      subst x1
      have n01 := n'.trans n1
      split at pl
      · rename_i hk
        rw [if_pos hk]
        refine ⟨fun σ2 H2 => ∃ F2 L2 ρ2 S2, Nx L F H L2 F2 H2 ∧ EOk E.K F2 L2 σ2 ρ2 ∧ SV E.K E.cl F2 H2 L2 S2 ∧ PF E.K E.cl E.xc (whileN (fun ρ S => evT E.cb ρ S c) (fun ρ S => exec E.cb b ρ S) ks S.length m ρ2 S2) L F H W D, fun σ2 H2 n2 => ⟨m, by omega, n2⟩, ?_⟩
        refine sS hE b ρ' S1 σ' F1 H1 L1 e1 s1 W _ ?_
        have turn : ∀ {ρ2 S2}, PF E.K E.cl E.xc (whileN (fun ρ S => evT E.cb ρ S c) (fun ρ S => exec E.cb b ρ S) ks S.length m (kill ks ρ2) (trim S.length (kill ks ρ2) S2)) L F H W D → ∀ σ' F' H' L', Nx L1 F1 H1 L' F' H' → EOk E.K F' L' σ' ρ2 → SV E.K E.cl F' H' L' S2 → ∃ F2 L2 ρ2 S2, Nx L F H L2 F2 H' ∧ EOk E.K F2 L2 σ' ρ2 ∧ SV E.K E.cl F2 H' L2 S2 ∧ PF E.K E.cl E.xc (whileN (fun ρ S => evT E.cb ρ S c) (fun ρ S => exec E.cb b ρ S) ks S.length m ρ2 S2) L F H W D := by
          intro ρ2 S2 pc σ' F' H' L' n4 e4 s4
          obtain ⟨L5, n5, e5, s5, _⟩ := trim_ok (n01.trans n4) (kill_ok (ks := ks) e4) s4
          rw [hlen] at s5
          exact ⟨F', L5, _, _, n5, e5, s5, pc⟩
        cases hr : exec E.cb b ρ' S1 with
        | nx ρ2 S2 => simp only [hr] at pl; exact turn pl
        | ct ρ2 S2 => simp only [hr] at pl; exact turn pl
        | bk ρ2 S2 =>
          simp only [hr] at pl
          exact fun σ' F' H' L' n4 e4 s4 => pl σ' F' H' L' (n01.trans n4) e4 s4
        | rt r S2 =>
          simp only [hr] at pl
          exact fun v F' H' L' n4 s4 r4 => pl v F' H' L' (n01.trans n4) s4 (r4.back n01)
        | ex c fs ρ2 S2 =>
          simp only [hr] at pl
          exact fun d σ' F' H' L' n4 e4 s4 x4 => pl d σ' F' H' L' (n01.trans n4) e4 s4 (x4.back n01)
        | bad => simp only [hr] at pl; exact pl.elim
      · rename_i hk
        rw [if_neg hk]
        exact pl σ' F1 H1 L1 n01 e1 s1
  | .ret ex, ρ, S => fun σ F H L e s W D p => by
    unfold exec at p
    exact (sE hE ex ρ S).thnS e s (.refl _ _ _) p fun r1 S1 _ v1 F1 H1 L1 n1 s1 e1 x1 p => p v1 F1 H1 L1 n1 s1 x1
  | .retn, ρ, S => fun σ F H L e s W D p => p .non F H L (.refl _ _ _) s (show Dp E.K F .non .none from .non)
  | .brk, ρ, S => fun σ F H L e s W D p => p σ F H L (.refl _ _ _) e s
  | .cnt, ρ, S => fun σ F H L e s W D p => p σ F H L (.refl _ _ _) e s
  | .exp ex, ρ, S => fun σ F H L e s W D p => by
    unfold exec at p
    exact (sE hE ex ρ S).thnS e s (.refl _ _ _) p fun r1 S1 _ v1 F1 H1 L1 n1 s1 e1 x1 p => p σ F1 H1 L1 n1 e1 s1
  | .seti o i ex, ρ, S => fun σ F H L e s W D p => by
    unfold exec at p
    have he := sE hE ex ρ S
    by_cases hd : ∃ x S1 n S2 z S3 kvs, evE E.cb ρ S ex = .ok x S1 ∧ evE E.cb ρ (rvE x S1).2 o = .ok (.mu n) S2 ∧ evE E.cb ρ S2 i = .ok z S3 ∧ S3[n]? = some (.dct false kvs)
    · refine .inr (he.thnS e s (.refl _ _ _) p fun r1 S1 h1 v1 F1 H1 L1 n1 s1 e1 x1 p => ?_)
      obtain ⟨L2, F2, n2, s2, en⟩ := rv_en n1 s1 x1
      refine (sE hE o ρ _).thnS (n2.eok e) s2 n2 p fun r3 S3 h3 v3 F3 H3 L3 n3 s3 e3 x3 p => ?_
      refine (sE hE i ρ _).thnS e3 s3 (n2.trans n3) p fun r4 S4 h4 v4 F4 H4 L4 n4 s4 e4 x4 p => ?_
      split at p
      · rename_i m d _ _
        split at p
        · rename_i S5 hS5
          obtain ⟨x, S1', n, S2', z, S3', kvs, g1, g2, g3, g4⟩ := hd
          rw [h1] at g1
          cases g1
          rw [h3] at g2
          cases g2
          rw [h4] at g3
          cases g3
          have x3' := x3.fwd n4
          have q := (set_ok (Q := fun H' => D.nx σ H') s4 x3' x4 (n4.enok (n3.enok en)) hS5 fun H' n' s' => p σ _ _ _ (((n2.trans n3).trans n4).trans n') (n'.eok e4) s').2 ⟨kvs, g4⟩
          exact q
        · exact p.elim
      · exact p.elim
    · refine .inl (he.thnS e s (.refl _ _ _) p fun r1 S1 h1 v1 F1 H1 L1 n1 s1 e1 x1 p => ?_)
      obtain ⟨L2, F2, n2, s2, en⟩ := rv_en n1 s1 x1
      refine (sE hE o ρ _).thnS (n2.eok e) s2 n2 p fun r3 S3 h3 v3 F3 H3 L3 n3 s3 e3 x3 p => ?_
      refine (sE hE i ρ _).thnS e3 s3 (n2.trans n3) p fun r4 S4 h4 v4 F4 H4 L4 n4 s4 e4 x4 p => ?_
      split at p
      · rename_i m d _ _
        split at p
        · rename_i S5 hS5
          have x3' := x3.fwd n4
          refine (set_ok (Q := fun H' => D.nx σ H') s4 x3' x4 (n4.enok (n3.enok en)) hS5 fun H' n' s' => p σ _ _ _ (((n2.trans n3).trans n4).trans n') (n'.eok e4) s').1 ?_
          rintro ⟨kvs, hk⟩
          exact hd ⟨_, _, _, _, _, _, kvs, h1, h3, h4, hk⟩
        · exact p.elim
      · exact p.elim
  | .tpf i m o ex, ρ, S => fun σ F H L e s W D p => by
    unfold exec at p
    refine (sE hE ex ρ S).thnS e s (.refl _ _ _) p fun r1 S1 _ v1 F1 H1 L1 n1 s1 e1 x1 p => ?_
    split at p
    · rename_i a b _
      have x1 : Dp E.K F1 v1 (.tuple [a, b]) := x1
      cases x1 with
      | tup h1 h2 =>
        cases h2 with
        | cons da h2 =>
          cases h2 with
          | cons db h2 =>
            cases h2
            refine ⟨_, _, rfl, sqt_mono s1.sub h1, rfl, _, _, rfl, _, _, rfl, ?_⟩
            refine (sE hE o _ S1).thnS (e1.set i (e := .dt a) ⟨_, rfl, da⟩) s1 n1 p fun r3 S3 _ v3 F3 H3 L3 n3 s3 e3 x3 p => ?_
            split at p
            · split at p
              · rename_i c fs hm
                split at p
                · rename_i hl
                  obtain ⟨a', dx, ws, h1', h2', h3', h4'⟩ := fld_ok (m := m) (Q := fun H' => D.nx _ H') s3 x3 hm (n3.enok (e := .dt b) ⟨_, rfl, db⟩) hl fun H' n' s' => p _ _ _ _ ((n1.trans n3).trans n') (n'.eok e3) s'
                  exact ⟨a', c, dx, ws, h1', h2', h3', rfl, h4'⟩
                · exact p.elim
              · exact p.elim
            · exact p.elim
    · exact p.elim
  | .setf m o ex, ρ, S => fun σ F H L e s W D p => by
    unfold exec at p
    refine (sE hE ex ρ S).thnS e s (.refl _ _ _) p fun r1 S1 _ v1 F1 H1 L1 n1 s1 e1 x1 p => ?_
    obtain ⟨L2, F2, n2, s2, en⟩ := rv_en n1 s1 x1
    refine (sE hE o ρ _).thnS (n2.eok e) s2 n2 p fun r3 S3 _ v3 F3 H3 L3 n3 s3 e3 x3 p => ?_
    split at p
    · split at p
      · rename_i c fs hm
        split at p
        · rename_i hl
          obtain ⟨a, dx, ws, h1, h2, h3, h4⟩ := fld_ok (Q := fun H' => D.nx σ H') s3 x3 hm (n3.enok en) hl fun H' n' s' => p σ _ _ _ ((n2.trans n3).trans n') (n'.eok e3) s'
          exact ⟨a, c, dx, ws, h1, h2, h3, h4⟩
        · exact p.elim
      · exact p.elim
    · exact p.elim
  | .augf m o b ex, ρ, S => fun σ F H L e s W D p => by
    unfold exec at p
    refine (sE hE o ρ S).thnS e s (.refl _ _ _) p fun r1 S1 h1 v1 F1 H1 L1 n1 s1 e1 x1 p => ?_
    split at p
    · rename_i n _
      split at p
      · rename_i c fs hm
        split at p
        · rename_i x hl
          obtain ⟨a, dx, ws, ea, ha, ho, hn, hd⟩ := mu_obj s1 x1 hm
          obtain ⟨v, hv, w, ew, hw⟩ := (fs_lookup (m := m) hn hd).1 _ hl
          cases ew
          cases hw
          refine ⟨a, c, dx, ws, _, ea, ho, hv, ?_⟩
          refine (sE hE ex ρ S1).thnS e1 s1 n1 p fun r2 S2 h2 v2 F2 H2 L2 n2 s2 e2 x2 p => ?_
          split at p
          · rename_i j _
            cases dp_int x2
            split at p
            · rename_i z c' fs' hz hm2
              split at p
              · rename_i hl2
                rw [hl2.2] at hm2
                obtain ⟨a2, dx2, ws2, ea2, h3, h4, h5⟩ := fld_ok (m := m) (Q := fun H' => D.nx σ H') (w := .int z) s2 (x1.fwd n2) hm2 (en := .dt (.int z)) ⟨_, rfl, .int _⟩ hl2.1 fun H' n' s' => p σ _ _ _ ((n1.trans n2).trans n') (n'.eok e2) s'
                rw [ea] at ea2
                cases ea2
                cases b with
                | add => cases hz; exact ⟨_, _, rfl, rfl, dx2, ws2, h3, h4, h5⟩
                | sub => cases hz; exact ⟨_, _, rfl, rfl, dx2, ws2, h3, h4, h5⟩
                | _ => cases hz
              · exact p.elim
            · exact p.elim
          · exact p.elim
        · exact p.elim
      · exact p.elim
    · exact p.elim
  | .nput o i ex, ρ, S => fun σ F H L e s W D p => by
    unfold exec at p
    refine (sE hE ex ρ S).thnS e s (.refl _ _ _) p fun r1 S1 h1 v1 F1 H1 L1 n1 s1 e1 x1 p => ?_
    obtain ⟨L2, F2, n2, s2, en⟩ := rv_en n1 s1 x1
    refine (sE hE o ρ _).thnS (n2.eok e) s2 n2 p fun r3 S3 h3 v3 F3 H3 L3 n3 s3 e3 x3 p => ?_
    refine (sE hE i ρ _).thnS e3 s3 (n2.trans n3) p fun r4 S4 h4 v4 F4 H4 L4 n4 s4 e4 x4 p => ?_
    unfold nputO at p
    split at p
    case h_2 => exact p.elim
    rename_i S5 hS5
    split at hS5
    case h_2 => cases hS5
    rename_i m v d hv
    split at hS5
    case h_2 => cases hS5
    rename_i t kvs hm
    split at hS5
    case isFalse => cases hS5
    rename_i hl
    obtain ⟨kvs', hp, rfl⟩ := Option.map_eq_some_iff.mp hS5
    have en4 := n4.enok (n3.enok en)
    rw [hv] at en4
    obtain ⟨w, ew, hw⟩ := en4
    cases ew
    exact gput_ok (Q := fun H' => D.nx σ H') s4 (x3.fwd n4) hm x4 hw hl hp fun H' n' s' => p σ _ _ _ (((n2.trans n3).trans n4).trans n') (n'.eok e4) s'
  | .ndel o i, ρ, S => fun σ F H L e s W D p => by
    unfold exec at p
    refine (sE hE o ρ S).thnS e s (.refl _ _ _) p fun r3 S3 h3 v3 F3 H3 L3 n3 s3 e3 x3 p => ?_
    refine (sE hE i ρ _).thnS e3 s3 n3 p fun r4 S4 h4 v4 F4 H4 L4 n4 s4 e4 x4 p => ?_
    unfold ndelO at p
    split at p
    case h_2 => exact p.elim
    rename_i S5 hS5
    split at hS5
    case h_2 => cases hS5
    rename_i m d
    split at hS5
    case h_2 => cases hS5
    rename_i t kvs hm
    obtain ⟨kvs', hp, rfl⟩ := Option.map_eq_some_iff.mp hS5
    exact gdel_ok (Q := fun H' => D.nx σ H') s4 (x3.fwd n4) hm x4 hp fun H' n' s' => p σ _ _ _ ((n3.trans n4).trans n') (n'.eok e4) s'
  | .sett o es ex, ρ, S => fun σ F H L e s W D p => by
    unfold exec at p
    refine (sE hE ex ρ S).thnS e s (.refl _ _ _) p fun r1 S1 h1 v1 F1 H1 L1 n1 s1 e1 x1 p => ?_
    obtain ⟨L2, F2, n2, s2, en⟩ := rv_en n1 s1 x1
    refine (sE hE o ρ _).thnS (n2.eok e) s2 n2 p fun r3 S3 h3 v3 F3 H3 L3 n3 s3 e3 x3 p => ?_
    refine (sA hE es ρ _).thnS e3 s3 (n2.trans n3) p fun ens S4 h4 vs F4 H4 L4 n4 s4 e4 x4 p => ?_
    split at p
    case h_2 => exact p.elim
    rename_i n _
    split at p
    case h_2 => exact p.elim
    rename_i v hv
    split at p
    case h_2 => exact p.elim
    rename_i ds hds
    · split at p
      · rename_i kvs hm
        split at p
        · rename_i hl
          split at p
          · rename_i kvs' hp
            have hd := ena_dps x4 hds
            refine ⟨by rw [dpa_len hd]; exact bigL hl.2, fun q hq => ?_⟩
            obtain ⟨n5, s5, d5⟩ := nx_tup s4 hq hd
            obtain ⟨a, ea, ha⟩ := (x3.fwd n4).fwd n5
            obtain ⟨_, h2⟩ := s5.st _ a ha
            obtain ⟨_, ob, ho, hk, rfl, hpr⟩ := h2 _ hm (by nofun)
            obtain ⟨k, ek, rfl⟩ := Option.map_eq_some_iff.mp hp
            have en5 := n5.enok (n4.enok (n3.enok en))
            rw [hv] at en5
            obtain ⟨w, ew, hw⟩ := en5
            cases ew
            obtain ⟨n6, s6⟩ := put_cell s5 ha hm (by nofun) (show CellOk E.K E.cl _ L4 (.dT (putK hk k _)) (.dct true _) from ⟨_, rfl, put_prd ek hw hpr⟩)
            have hks := keyKs_v hd (show keyKs ds = some k from ek)
            subst hks
            exact ⟨a, _, ea, .inr ⟨hk, k, q, ho, rfl, upd_same, by rw [prd_len hpr]; exact bigL' hl.1, rfl⟩, p σ _ _ _ ((((n2.trans n3).trans n4).trans n5).trans n6) (n6.eok (n5.eok e4)) s6⟩
          · exact p.elim
        · exact p.elim
      · exact p.elim
end VM
end

section
set_option Elab.async false
set_option linter.all false
set_option maxRecDepth 100000
set_option maxHeartbeats 4000000
namespace VM
open PySem PySem.Spec PyProof.Rows L2 DL

section
variable {K : PySem.W.Frag} {cl : ClT} {xc : XCl} {L : List Addr} {F H : Hp} {W : WXK} {σ : L2.St} {Q : VK}
theorem trim0 {L' : List Addr} {F' H' : Hp} {S' : Stv} (n : Nx L F H L' F' H') (s : SV K cl F' H' L' S') : ∃ L2, Nx L F H L2 F' H' ∧ SV K cl F' H' L2 (trim L.length [] S') ∧ ∀ a ∈ L2, a ∈ L' := by
  obtain ⟨L2, a, _, b, c⟩ := trim_ok (σ := []) (ρ := []) n (fun i e h => by simp at h) s
  exact ⟨L2, a, b, c⟩
theorem fin_ok {out : Fl} {S : Stv} (s0 : SV K cl F H L S) (p : Pst K cl xc (RV K cl) (finF S.length out) L F H W [] Q) (hW : ∀ c d σ σ' H', W c d σ H' → W c d σ' H') : PF K cl xc out L F H W { nx := fun _ H' => Q .non H', rt := Q } := by
  rw [← s0.len] at p
  have drop : ∀ {r : Rv} {S' : Stv}, Pst K cl xc (RV K cl) (drop0 L.length r S') L F H W [] Q → ∀ v F' H' L', Nx L F H L' F' H' → SV K cl F' H' L' S' → RV K cl L' F' H H' v r → Q v H' := by
    intro r S' p v F' H' L' n s hr
    cases r with
    | v d =>
      obtain ⟨L2, n2, s2, _⟩ := trim0 n s
      exact p v F' H' L2 n2 s2 hr
    | nw c =>
      unfold drop0 at p
      simp only at p
      split at p
      · rename_i hf
        obtain ⟨a, o, rfl, h0, h1, h2, h3, h4⟩ := hr
        unfold trim at p
        split at p
        · exact p _ F' H' L' n s ⟨a, o, rfl, h0, h1, h2, h3, h4⟩
        · split at p
          · rename_i hh
            rw [Bool.and_eq_true] at hh
            exact p _ F' H' _ (nx_take n) (take_sv hh.2 s) ⟨a, o, rfl, h0, fun z => h1 (List.mem_of_mem_take z), h2, h3, fit_cell hf h4⟩
          · exact p _ F' H' L' n s ⟨a, o, rfl, h0, h1, h2, h3, h4⟩
      · exact p v F' H' L' n s hr
    | mu k =>
      unfold drop0 at p
      simp only at p
      obtain ⟨a, rfl, ha⟩ := hr
      split at p
      · rename_i hk
        unfold trim at p
        split at p
        · exact p _ F' H' L' n s ⟨a, rfl, ha⟩
        · split at p
          · rename_i hh
            rw [Bool.and_eq_true] at hh
            exact p _ F' H' _ (nx_take n) (take_sv hh.2 s) ⟨a, rfl, take_get ha hk⟩
          · exact p _ F' H' L' n s ⟨a, rfl, ha⟩
      · rename_i hk
        split at p
        · exact p.elim
        · rename_i c hg hc
          split at p
          · rename_i hf
            obtain ⟨f0, o, h1, h2⟩ := (s.st k a ha).2 c hc hg
            have h0 : H a = none := by
              obtain ⟨_, R, rfl, fr⟩ := n
              rw [List.getElem?_append_right (by omega)] at ha
              exact fr a (List.mem_of_getElem? ha)
            have hn : a ∉ L'.take L.length := fun z => by
              obtain ⟨j, hj⟩ := List.getElem?_of_mem z
              rw [List.getElem?_take] at hj
              split at hj
              · have e1 := List.getElem?_eq_some_iff.mp hj
                have e2 := List.getElem?_eq_some_iff.mp ha
                have : j = k := (List.getElem_inj s.nd).mp (e1.2.trans e2.2.symm)
                omega
              · cases hj
            exact p _ F' H' _ (nx_take n) (take_sv hf.2 s) ⟨a, o, rfl, h0, hn, f0, h1, fit_cell hf.1 h2⟩
          · exact p _ F' H' L' n s ⟨a, rfl, ha⟩
        · exact p.elim
  cases out with
  | nx ρ' S' => exact fun σ' F' H' L' n e s => drop (r := .v .none) (S' := S') p .non F' H' L' n s (show Dp K F' .non .none from .non)
  | rt r S' => exact fun v F' H' L' n s hr => drop (r := r) (S' := S') p v F' H' L' n s hr
  | bk ρ' S' => exact p.elim
  | ct ρ' S' => exact p.elim
  | ex c fs ρ' S' =>
    intro d σ' F' H' L' n e s x
    obtain ⟨L2, n2, s2, _⟩ := trim0 n s
    exact hW _ _ _ _ _ (p d F' H' L2 n2 s2 x)
  | bad => exact p.elim
end
theorem run_ar {tb : Nat → Fd} {n g : Nat} {es : List En} {S : Stv} (h : run tb n g es S ≠ .bad) : es.length = (tb g).args := by
  cases n with
  | zero => exact absurd rfl h
  | succ n =>
    rw [run_succ] at h
    unfold runF at h
    split at h
    · assumption
    · exact absurd rfl h
noncomputable def envV (K : PySem.W.Frag) (cl : ClT) (xc : XCl) (V0 : Nat → V) (tb : Nat → Fd) (n : Nat) : Env0 := ⟨K, cl, xc, V0, fun g => (tb g).args, cbOf tb n⟩
theorem harV {K : PySem.W.Frag} {cl : ClT} {xc : XCl} {V0 : Nat → V} {tb : Nat → Fd} (n : Nat) : Har (envV K cl xc V0 tb n) := ⟨fun b g es S h => by
  cases b with
  | true =>
    cases n with
    | zero => exact absurd rfl h
    | succ n => exact run_ar h
  | false => exact run_ar h⟩
/-- a def keeps its promise, a level higher than the defs that it calls -/
theorem fun_V {P : Program} {w : World} {K : PySem.W.Frag} {mg : Str → Option Value} {base : Heap} {cl : ClT} {xc : XCl} {V0 : Nat → V} {tb : Nat → Fd} {x qual : Str} {st : Stmt} {f : Addr} {fd : FuncData} {N ps : List Str} {n g : Nat}
    (F : Fun K x qual st f fd) (S : FnScope N ps (defScope st)) (hn : ps.length = (tb g).args) (hm : N.length = (tb g).args + (tb g).more)
    (hbody : ∀ (cdv : Value) (A : Around) (outer : List Env) (s : Shared) (H : Hp) (E : XK), Room (n + 1) (A.deeper (envOfC qual (defScope st) s.heap.objs.size f cdv)) →
      PSs (cxOf CX0 P w K mg base N qual (defScope st) f cdv A outer s H E).nox (defBody st) (dS (envV K cl xc V0 tb n) (tb g).body (fun c d _ H' => E c d H'))) :
    FnOk P w K mg base CX0 (n + 1 + 1) f fd ps (spV K cl xc (tb g).args (run tb (n + 1) g)) := by
  refine F.ok S (fun vs H Q E h => h.1.trans hn.symm) (fun cdv A outer s H vs Q E hr h => ⟨_, hbody cdv A outer s H E hr, ?_⟩)
  obtain ⟨hl, F0, L, es, S0, he, s0, p⟩ := h
  rw [run_succ] at p
  unfold runF at p
  split at p
  case isFalse => exact p.elim
  rename_i hes
  refine sS (harV n) (tb g).body _ S0 (L2.start N vs) F0 H L ?_ s0 _ _ (fin_ok s0 p fun c d σ σ' H' h => h)
  intro i en hi
  unfold L2.start
  have hlen : (vs.map some).length = (tb g).args := by simp [hl]
  rw [List.getElem?_append] at hi ⊢
  rw [hlen]
  rw [hes] at hi
  split at hi
  · rename_i hlt
    rw [if_pos hlt]
    exact he.2 i en hi
  · rename_i hlt
    rw [if_neg hlt]
    rw [hl, hm, Nat.add_sub_cancel_left]
    rw [List.getElem?_replicate] at hi ⊢
    split at hi
    · rename_i h2
      rw [if_pos h2]
      cases hi
      exact ⟨none, rfl, trivial⟩
    · cases hi
/-- a def keeps its promise, a level higher than the defs that it calls -/
theorem fun_VX {P : Program} {w : World} {K : PySem.W.Frag} {mg : Str → Option Value} {base : Heap} {cl : ClT} {xc : XCl} {V0 : Nat → V} {tb : Nat → Fd} {x qual : Str} {st : Stmt} {f : Addr} {fd : FuncData} {N ps : List Str} {n g : Nat}
    (F : Fun K x qual st f fd) (S : FnScope N ps (defScope st)) (hn : ps.length = (tb g).args) (hm : N.length = (tb g).args + (tb g).more)
    (hbody : ∀ (cdv : Value) (A : Around) (outer : List Env) (s : Shared) (H : Hp) (E : XK), Room (n + 1) (A.deeper (envOfC qual (defScope st) s.heap.objs.size f cdv)) →
      PSs (cxOf (L2.CX P w) P w K mg base N qual (defScope st) f cdv A outer s H E) (defBody st) (dS (envV K cl xc V0 tb n) (tb g).body (fun c d _ H' => E c d H'))) :
    FnOk P w K mg base (L2.CX P w) (n + 1 + 1) f fd ps (spV K cl xc (tb g).args (run tb (n + 1) g)) := by
  refine F.okX S (fun vs H Q E h => h.1.trans hn.symm) (fun cdv A outer s H vs Q E hr h => ⟨_, hbody cdv A outer s H E hr, ?_⟩)
  obtain ⟨hl, F0, L, es, S0, he, s0, p⟩ := h
  rw [run_succ] at p
  unfold runF at p
  split at p
  case isFalse => exact p.elim
  rename_i hes
  refine sS (harV n) (tb g).body _ S0 (L2.start N vs) F0 H L ?_ s0 _ _ (fin_ok s0 p fun c d σ σ' H' h => h)
  intro i en hi
  unfold L2.start
  have hlen : (vs.map some).length = (tb g).args := by simp [hl]
  rw [List.getElem?_append] at hi ⊢
  rw [hlen]
  rw [hes] at hi
  split at hi
  · rename_i hlt
    rw [if_pos hlt]
    exact he.2 i en hi
  · rename_i hlt
    rw [if_neg hlt]
    rw [hl, hm, Nat.add_sub_cancel_left]
    rw [List.getElem?_replicate] at hi ⊢
    split at hi
    · rename_i h2
      rw [if_pos h2]
      cases hi
      exact ⟨none, rfl, trivial⟩
    · cases hi
theorem fun_Vm {P : Program} {w : World} {K : PySem.W.Frag} {mg : Str → Option Value} {base : Heap} {cl : ClT} {xc : XCl} {tb : Nat → Fd} {CX : CXT} {f : Addr} {fd : FuncData} {ps : List Str} {n g k : Nat} : FnOk P w K mg base CX k f fd ps (spV K cl xc n (runm tb 0 g)) :=
  ⟨fun vs H Q E q => by
    obtain ⟨_, _, _, _, _, _, _, p⟩ := q
    exact p.elim, fun A outer s H args us vs Q E hr he hb hv q => by
    obtain ⟨_, _, _, _, _, _, _, p⟩ := q
    exact p.elim⟩
theorem fun_V0 {P : Program} {w : World} {K : PySem.W.Frag} {mg : Str → Option Value} {base : Heap} {cl : ClT} {xc : XCl} {tb : Nat → Fd} {CX : CXT} {f : Addr} {fd : FuncData} {ps : List Str} {n g k : Nat} : FnOk P w K mg base CX k f fd ps (spV K cl xc n (run tb 0 g)) :=
  ⟨fun vs H Q E q => by
    obtain ⟨_, _, _, _, _, _, _, p⟩ := q
    exact p.elim, fun A outer s H args us vs Q E hr he hb hv q => by
    obtain ⟨_, _, _, _, _, _, _, p⟩ := q
    exact p.elim⟩
/-- the law's call -/
theorem law_V {K : PySem.W.Frag} {cl : ClT} {xc : XCl} {G : List En → Stv → Out Rv} {H : Hp} {a : Addr} {ns : List Int} {E : XK} (ht : cl.t = []) (hS : SqL K H a (ns.map V.int)) (g : G [.dt (.list (ns.map PyData.int))] [] = .ok (.v (.bool true)) []) : spV K cl xc 1 G [.ref a] H (fun v _ => v = .bl true) E :=
  ⟨rfl, H, [], _, [], ena_one (e := .dt (.list (ns.map PyData.int))) ⟨_, rfl, .lst hS (dpa_ints ns)⟩, .nil (Same.refl _) (by rw [ht]; exact nofun), by
    rw [g]
    intro v F' H' L' n s r
    have r' : Dp K F' v (.bool true) := r
    cases r'
    rfl⟩
/-- law's: a list of at most 63 ints is handed in, True comes out -/
def spL (K : PySem.W.Frag) : Sp := fun vs H Q _ => ∃ (a : Addr) (ns : List Int), vs = [.ref a] ∧ ns.length ≤ 63 ∧ SqL K H a (ns.map V.int) ∧ ∀ H', Q (.bl true) H'
theorem law_ok {P : Program} {w : World} {K : PySem.W.Frag} {mg : Str → Option Value} {base : Heap} {cl : ClT} {xc : XCl} {G : List En → Stv → Out Rv} {f : Addr} {fd : FuncData} {ps : List Str} {k : Nat} (F : FnOk P w K mg base CX0 k f fd ps (spV K cl xc 1 G))
    (h : ∀ ns : List Int, ns.length ≤ 63 → G [.dt (.list (ns.map PyData.int))] [] = .ok (.v (.bool true)) []) (ht : cl.t = [] := by rfl) : FnOk P w K mg base CX0 k f fd ps (spL K) := by
  have imp : ∀ vs H Q E, spL K vs H Q E → spV K cl xc 1 G vs H Q E := by
    rintro vs H Q E ⟨a, ns, rfl, hl, hS, q⟩
    refine ⟨rfl, H, [], _, [], ena_one (e := .dt (.list (ns.map PyData.int))) ⟨_, rfl, .lst hS (dpa_ints ns)⟩, .nil (Same.refl _) (by rw [ht]; exact nofun), ?_⟩
    rw [h ns hl]
    intro v F' H' L' n s r
    have r' : Dp K F' v (.bool true) := r
    cases r'
    exact q H'
  exact ⟨fun vs H Q E z => F.len vs H Q E (imp _ _ _ _ z), fun A outer s H args us vs Q E hr he hb hv q => F.run A outer s H args us vs Q E hr he hb hv (imp _ _ _ _ q)⟩
/-! ## the rules of the text, in the terms' own words -/
theorem PE.or {X : Cx} {e : Expr} {t u : TE} (h : PE X e t) (h' : PE X e u) : PE X e (fun σ H Q => t σ H Q ∨ u σ H Q) := ⟨fun pins s σ H Q I q => q.elim (h.run pins s σ H Q I) (h'.run pins s σ H Q I)⟩
theorem PS.or {X : Cx} {e : Stmt} {t u : TS} (h : PS X e t) (h' : PS X e u) : PS X e (fun D σ H => t D σ H ∨ u D σ H) := ⟨fun pins s σ H D I q => q.elim (h.run pins s σ H D I) (h'.run pins s σ H D I)⟩
theorem PI.or {X : Cx} {tg e : Expr} {t u : TI} (h : PI X tg e t) (h' : PI X tg e u) : PI X tg e (fun σ H R => t σ H R ∨ u σ H R) := ⟨fun pins s σ H R I q => q.elim (h.run pins s σ H R I) (h'.run pins s σ H R I)⟩
section
variable {X : Cx} {K : PySem.W.Frag}
theorem pi_all {tg l : Expr} {tl : TE} (hX : X.K = K) (hl : PE X l tl) : PI X tg l (iAll K tl) := PI.or (pi_seqK hX hl) (pi_str hl)
theorem pe_glb {x : Str} {pos : Pos} {v : V} {d : PyData} (hg : Gl X x) (h : ∃ u, X.mg x = some u ∧ RelV v u ∧ KDat K v d) (hd : (x == ("__debug__" : Str)) = false := by decide) : PE X (.Name x pos) (tGlb K v d) := by
  obtain ⟨u, h1, h2, h3⟩ := h
  have := pe_glob (pos := pos) hg h1 h2 (hd := hd)
  exact ⟨fun pins s σ H Q I q => this.run pins s σ H Q I (q h3)⟩
theorem pe_fldV {cl : ClT} {e : Expr} {ta : TE} {f : Str} {pos : Pos} (hX : X.K = K) (hc : ∀ c, Cls K (cl c)) (hn : ∀ c, NoAttr K (cl c) f) (he : PE X e ta) (hb : attributeBase e f X.env (eval e X.env) = eval e X.env) : PE X (.Attribute e f pos) (tFldV cl ta f) := by
  subst hX
  refine ⟨fun pins s σ H Q I h => ?_⟩
  refine attr_of hb (L2.thn (he.run pins s σ H _ I h) fun u s1 ⟨x, H1, I1, rx, a, c, dx, fs, v, ex, ea, l, q⟩ => ?_)
  subst ex
  obtain rfl : u = Value.ref a := rx
  exact getattr_ok I1 ea (hc c) (hn c) l fun u' s2 I2 ru => ⟨v, H1, I2, ru, q⟩
theorem ps_fldV {cl : ClT} {o value : Expr} {ta tv : TE} {f : Str} {pos pos' : Pos} (hX : X.K = K) (hc : ∀ c, Cls K (cl c)) (hn : ∀ c, NoAttr K (cl c) f) (ha : PE X o ta) (hv : PE X value tv) (hs : swapsWith value (some (.Attribute o f pos')) pos.line X.env = pure false) : PS X (.Assign [.Attribute o f pos'] value pos) (sFldV cl ta tv f) := by
  subst hX
  refine ⟨fun pins s σ H D I h => ?_⟩
  refine plainObj_wpAny_Assign_Attribute (L2.thn (hv.run pins s σ H _ I h) fun u s1 ⟨y, H1, I1, ry, q⟩ => L2.thn (ha.run pins s1 σ H1 _ I1 q) fun ov s2 ⟨x, H2, I2, rx, a, c, dx, fs, ex, ea, l, q2⟩ => ?_) hs
  subst ex
  obtain rfl : ov = Value.ref a := rx
  exact setattr_ok I2 ea (hc c) (hn c) l ry fun s3 I3 => ⟨σ, _, I3, q2⟩
theorem in_aug : ∀ o, o = .add ∨ o = .sub → InOp X (bopA o) (rAug o)
  | .add, _ => in_add
  | .sub, _ => in_sub
  | .mul, h => by rcases h with h | h <;> cases h
  | .mod, h => by rcases h with h | h <;> cases h
  | .fdiv, h => by rcases h with h | h <;> cases h
  | .pow, h => by rcases h with h | h <;> cases h
theorem ps_augfV {cl : ClT} {o value : Expr} {ta tv : TE} {f : Str} {pos tpos : Pos} {op : Operator} {b : Bop} (hX : X.K = K) (hc : ∀ c, Cls K (cl c)) (hn : ∀ c, NoAttr K (cl c) f) (ha : PE X o ta) (hv : PE X value tv) (hop : InOp X op (rAug b)) : PS X (.AugAssign (.Attribute o f tpos) op value pos) (sFldAugV cl ta tv b f) := by
  subst hX
  refine ⟨fun pins s σ H D I h => ?_⟩
  refine wpAny_AugAssign_AttributeAny (L2.thn (ha.run pins s σ H _ I h) fun ov s1 ⟨x, H1, I1, rx, a, c, dx, fs, v, ex, ea, l, q⟩ => ?_)
  subst ex
  obtain rfl : ov = Value.ref a := rx
  refine getattr_ok I1 ea (hc c) (hn c) l fun u s2 I2 ru => L2.thn (hv.run pins s2 σ H1 _ I2 q) fun w3 s3 ⟨y, H2, I3, ry, q3⟩ => L2.thn (hop pins s3 σ H2 v y u w3 _ I3 ru ry q3) fun w4 s4 ⟨z, H3, I4, rz, dx', fs', ea', l', q4⟩ => ?_
  exact setattr_ok I4 ea' (hc c) (hn c) l' rz fun s5 I5 => ⟨σ, _, I5, q4⟩
theorem mt_indexK {X : Cx} {K : PySem.W.Frag} (hX : X.K = K) : MtR X "list.index" (rIndex K) := by
  subst hX
  exact mt_index
theorem hu65 {k : Nat} {A : Around} (hr : Room k A) : A.units + 65 < cLine := by have := hr.un; omega
theorem hu1 {k : Nat} {A : Around} (hr : Room k A) : A.units + 1 < cLine := by have := hr.un; omega
/-! raising and catching -/
theorem ps_facts {X : Cx} {st : Stmt} {t : TS} {f : Prop} (h : PS X st t) (hf : f) : PS X st (fun D σ H => f → t D σ H) := ⟨fun pins s σ H D I q => h.run pins s σ H D I (q hf)⟩
theorem ps_imp {X : Cx} {st : Stmt} {t u : TS} (h : PS X st t) (hi : ∀ D σ H, u D σ H → t D σ H) : PS X st u := ⟨fun pins s σ H D I q => h.run pins s σ H D I (hi _ _ _ q)⟩
theorem pss_imp {X : Cx} {st : List Stmt} {t u : TS} (h : PSs X st t) (hi : ∀ D σ H, u D σ H → t D σ H) : PSs X st u := ⟨fun pins s σ H D I q => h.run pins s σ H D I (hi _ _ _ q)⟩
theorem pss_ex {X : Cx} {α : Type} {st : List Stmt} {t : α → TS} {u : TS} (h : ∀ x, PSs X st (t x)) (hi : ∀ D σ H, u D σ H → ∃ x, t x D σ H) : PSs X st u := ⟨fun pins s σ H D I q => let ⟨x, hx⟩ := hi _ _ _ q; (h x).run pins s σ H D I hx⟩
theorem pass0At {X : Cx} {σ : L2.St} {E : XK} : PassesAt CX0 X σ E := fun _ _ _ _ _ _ h => h.elim
theorem passX {X : Cx} {W : WX} (tk : Takes X W) {E : XK} (hW : ∀ cls d σ H, E cls d H → W cls d σ H) : Passes (L2.CX X.prog X.w) X E := passes_call tk hW
/-- a suite, error class by error class -/
def rtB (i m : Nat) (a : Addr) (bs : List Bool) : TS := fun D σ H => σ[i]? = some (some (.ref a)) ∧ m ≤ σ.length ∧ ∀ p, H p = none → D.rt (.ref p) (upd H p (.lst (bs.map V.bl)))
theorem pss_tsC {X : Cx} {xc : XCl} {i m : Nat} {cs : List (Nat × List Bool)} {a : Addr} {cls : Value} {d : Option Addr} {body : List Stmt} (h : ∀ c bs, cs.lookup c = some bs → cls = xc c → d = none → PSs X body (rtB i m a bs)) : PSs X body (tsC xc i m cs a cls d) :=
  ⟨fun pins s σ H D I q => by
    obtain ⟨c, bs, hl, hc, hd, hs, hm, q⟩ := q
    exact (h c bs hl hc hd).run pins s σ H D I ⟨hs, hm, q⟩⟩
theorem isE_rd {K : PySem.W.Frag} {D a : Addr} {i : Nat} {v : V} {cv : Value} {b : Bool} {σ : L2.St} {H : Hp} {Q : VK} (hs : σ[i]? = some (some (.ref a))) (hv : ∀ u, RelV v u → u = cv) (hk : PySem.W.kitOne K (.ref D) cv = some b) (q : Q (.bl b) H) :
    tCB (rIsE K D a) (tCons (tVar i) (tCons (tC v) tNil)) σ H Q := ⟨_, hs, _, cv, b, rfl, hv, hk, q⟩
theorem var_rd {j : Nat} {v : V} {σ : L2.St} {H : Hp} {Q : VK} (hs : σ[j]? = some (some v)) (q : Q v H) : tVar j σ H Q := ⟨_, hs, q⟩
/-! what no script reaches -/
theorem pe_bad {e : Expr} : PE X e (fun _ _ _ => False) := ⟨fun _ _ _ _ _ _ h => h.elim⟩
theorem ps_bad {e : Stmt} : PS X e (fun _ _ _ => False) := ⟨fun _ _ _ _ _ _ h => h.elim⟩
theorem pt_bad {e : Expr} {t : TT} (h : ∀ σ H Q, ¬ t σ H Q) : PT X e t := ⟨fun _ _ σ H Q _ q => absurd q (h σ H Q)⟩
theorem pi_bad {tg e : Expr} {t : TI} (h : ∀ σ H R, ¬ t σ H R) : PI X tg e t := ⟨fun _ _ σ H R _ q => absurd q (h σ H R)⟩
/-! more built-ins -/
theorem call_intK : CallR X (.type "int") (rBi K .int) := by
  intro pins s σ H xs us Q I r q
  rcases q with q | q
  · exact call_int1 pins s σ H xs us Q I r q
  · exact call_int_str pins s σ H xs us Q I r q
theorem call_boolK (h : X.K = K) : CallR X (.type "bool") (rBi K .bool) := by
  subst h
  intro pins s σ H xs us Q I r q
  rcases q with q | q
  · exact call_bool1 pins s σ H xs us Q I r q
  · exact call_boolL pins s σ H xs us Q I r q
theorem call_strK (h : X.K = K) : CallR X (.type "str") (rBi K .str) := by
  subst h
  intro pins s σ H xs us Q I r q
  rcases q with q | q
  · exact call_str_int pins s σ H xs us Q I r q
  · exact SkE.call_str_str pins s σ H xs us Q I r q
theorem call_reprK (h : X.K = K) (hg : X.A.guards = some []) (hu : X.A.units + 66 < cLine) : CallR X (.builtin "repr") (rBi K .repr) := by
  subst h
  intro pins s σ H xs us Q I r q
  obtain ⟨x, ds, rfl, hx, hd, q⟩ := q
  cases r with
  | cons r1 r2 =>
    cases r2
    obtain ⟨as, rd⟩ := Dp.reads I _ _ _ hx r1
    unfold reprOk at hd
    simp only [Bool.and_eq_true] at hd
    obtain ⟨⟨hl, hi⟩, hs⟩ := hd
    have hz := shown_le13 hl hi
    have hnd := PyData.hasDict_of_layable hl
    have hdp : (PyData.tuple ds).depth ≤ 64 := by
      have h1 : (PyData.canLay0 (.tuple ds) && decide (PyData.depth (.tuple ds) ≤ 64) && decide (PyData.weight (.tuple ds) ≤ 2 ^ 20)) = true := hl
      simp only [Bool.and_eq_true, decide_eq_true_eq] at h1
      exact h1.1.2
    cases hx with
    | tup g1 g2 =>
      cases r1
      refine repr_of_reads' rd hs (PyData.noDict_hsm hnd) hg (by omega) (fun _ _ e => e) (fun h' u tk hk => ?_) (by unfold sizeLine; omega)
      refine ⟨.str _, H, ?_, ⟨u, rfl⟩, q⟩
      exact I.turnedL (ch := []) (fun b o _ e => hk b o e) (fun b hb => absurd hb (by simp))
theorem cr_sumK (h : X.K = K) (hc : X.calm = true) : CallR X (.builtin "sum") (rBi K .sum) := by subst h; exact cr_sum hc
theorem cr_anyK (h : X.K = K) (hc : X.calm = true) : CallR X (.builtin "any") (rBi K .any) := by subst h; exact cr_any hc
theorem cr_allK (h : X.K = K) (hc : X.calm = true) : CallR X (.builtin "all") (rBi K .all) := by subst h; exact cr_all hc
theorem pi_enumK {e : Expr} {te : TA} {p pos tpos : Pos} {elts : List Expr} {kk : Nat} (h : X.K = K) (hg : Gl X "enumerate") (hm : X.mg "enumerate" = none) (ha : PA X [e] te) (hs : starEach [e] X.env = [(false, eval e X.env)] := by rfl) :
    PI X (.Tuple elts kk tpos) (.Call (.Name "enumerate" p) [e] [] pos) (iEnB K te) := by subst h; exact pi_enB hg hm ha hs
theorem pi_revK {tg e : Expr} {te : TE} {p pos : Pos} (h : X.K = K) (hg : Gl X "reversed") (hm : X.mg "reversed" = none) (he : PE X e te) (hs : starEach [e] X.env = (false, eval e X.env) :: starEach [] X.env := by rfl) : PI X tg (.Call (.Name "reversed" p) [e] [] pos) (RT.iRevA K te) := by subst h; exact RT.pi_revA hg hm he hs
theorem pa_starK {e : Expr} {p : Pos} {es : List Expr} {te : TE} {t : TA} (h : X.K = K) (hc : X.calm = true) (he : PE X e te) (hr : PA X es t) (hs : starEach (.Starred e p :: es) X.env = (true, eval e X.env) :: starEach es X.env := by rfl) : PA X (.Starred e p :: es) (GDict.tStr K te t) := GDict.pa_str h hc he hr hs
/-! calls with keywords -/
def LenA (t : TA) (n : Nat) : Prop := ∀ σ H Q, t σ H (fun vs H' => vs.length = n ∧ Q vs H') = t σ H Q
theorem lena_nil : LenA tNil 0 := fun σ H Q => by simp [tNil]
theorem lena_cons {te : TE} {t : TA} {n : Nat} (h : LenA t n) : LenA (tCons te t) (n + 1) := fun σ H Q => by
  have e : (fun x H1 => t σ H1 fun xs H2 => (x :: xs).length = n + 1 ∧ Q (x :: xs) H2) = fun x H1 => t σ H1 fun xs H2 => Q (x :: xs) H2 := by
    funext x H1
    rw [← h σ H1 fun xs H2 => Q (x :: xs) H2]
    congr 1
    funext xs H2
    simp
  unfold tCons
  rw [e]
theorem pe_callKw {CX : CXT} {k n : Nat} {f : Addr} {fd : FuncData} {ps ks : List Str} {sp : Sp} {E : XK} {x : Str} {p pos : Pos} {e : Expr} {es : List Expr} {kws : List Keyword} {t tk : TA} {g : List Value → List Value → List Value} {gV : List V → List V → List V}
    (F : FnOk X.prog X.w X.K X.mg X.base CX k f fd ps sp) (hr : Room k X.A) (hg : Gl X x) (hm : X.mg x = some (.ref f)) (hk : PySem.W.keepIn X.K (.ref f) = true) (hb : KBn X.K fd ps n ks g gV) (hx : Passes CX X E)
    (ha : PA X (e :: es) t) (hkw : PK X kws tk) (la : LenA t n) (lk : LenA tk ks.length) (hall : (backToKw pos (keywordEach kws X.env)).all (·.1.isSome) = true := by rfl) (hks : (backToKw pos (keywordEach kws X.env)).filterMap (·.1) = ks := by rfl)
    (hdb : (x == ("__debug__" : Str)) = false := by decide) (he : starEach (e :: es) X.env = (false, eval e X.env) :: starEach es X.env := by rfl)
    (hpl : ((backTo pos (starEach (e :: es) X.env)).any (·.1) || (backToKw pos (keywordEach kws X.env)).any (·.1.isNone)) = false := by rfl) :
    PE X (.Call (.Name x p) (e :: es) kws pos) (tCallK sp gV E t tk) := by
  have h := pe_callN (p := p) F hr hg hm hk hb hx ha hkw hall hks hdb he hpl
  refine ⟨fun pins s σ H Q I q => h.run pins s σ H Q I ?_⟩
  unfold tCallK at q
  unfold L2.tCallN
  rw [← la] at q ⊢
  have e2 : (fun vs H1 => vs.length = n ∧ tk σ H1 fun zs H2 => vs.length = n ∧ zs.length = ks.length ∧ sp (gV vs zs) H2 Q E) = fun vs H1 => vs.length = n ∧ tk σ H1 fun zs H2 => sp (gV vs zs) H2 Q E := by
    funext vs H1
    refine propext ⟨fun ⟨a, b⟩ => ⟨a, ?_⟩, fun ⟨a, b⟩ => ⟨a, ?_⟩⟩
    · rw [← lk]
      have e3 : (fun zs H2 => vs.length = n ∧ zs.length = ks.length ∧ sp (gV vs zs) H2 Q E) = fun zs H2 => zs.length = ks.length ∧ sp (gV vs zs) H2 Q E := by
        funext zs H2
        simp [a]
      rw [e3] at b
      exact b
    · rw [← lk] at b
      have e3 : (fun zs H2 => vs.length = n ∧ zs.length = ks.length ∧ sp (gV vs zs) H2 Q E) = fun zs H2 => zs.length = ks.length ∧ sp (gV vs zs) H2 Q E := by
        funext zs H2
        simp [a]
      rw [e3]
      exact b
  rw [e2]
  exact q
theorem kbn_app {fd : FuncData} {ps ks : List Str} {n : Nat} (h : ∀ (s : Shared) (us ws : List Value), K.In s.heap → us.length = n → ws.length = ks.length → BindsTo s fd ⟨us, ks.zip ws⟩ (ps.zip (us ++ ws))) : KBn K fd ps n ks (fun us ws => us ++ ws) (fun vs zs => vs ++ zs) := ⟨h, fun r1 r2 => r1.append r2⟩
theorem pe_eq {e : Expr} {t t' : TE} (h : PE X e t) (q : t' = t) : PE X e t' := q ▸ h
end
end VM
end

section
set_option Elab.async false
set_option linter.all false
set_option maxRecDepth 100000
set_option maxHeartbeats 4000000
namespace VM
open PySem PySem.Spec PyProof.Rows L2 DL
/-! the rules of the text for dicts with keys of any kind -/
section
variable {X : Cx} {K : PySem.W.Frag} {cl : ClT} {i o e f value : Expr} {pos pos' tpos apos cpos p : Pos} {ty td te tx tv : TE} {xs : Str}
theorem pe_xin (hP : X.prog = cl.pr) (hw : X.w = cl.w) (hK : X.K = K) (hu : X.A.units + 16 < cLine) (hi : PE X i ty) (ho : PE X o td) (hm : behindInMarks .In o = false) : PE X (.Compare i [.In] [o] pos) (tXm K cl (.nin false) ty (tCons td tNil)) := by
  refine pe_eq (pe_cmpR (GDict.op_gin hP hw hK hu) hi ho hm) ?_
  funext σ H Q
  simp [tXm, rXB, rXm, tCons, tNil, tOp]
theorem pe_xnin (hP : X.prog = cl.pr) (hw : X.w = cl.w) (hK : X.K = K) (hu : X.A.units + 16 < cLine) (hi : PE X i ty) (ho : PE X o td) (hm : behindInMarks .NotIn o = false) : PE X (.Compare i [.NotIn] [o] pos) (tXm K cl (.nin true) ty (tCons td tNil)) := by
  refine pe_eq (pe_cmpR (GDict.op_gnotin hP hw hK hu) hi ho hm) ?_
  funext σ H Q
  simp [tXm, rXB, rXm, tCons, tNil, tOp]
theorem pe_xix (hP : X.prog = cl.pr) (hw : X.w = cl.w) (hK : X.K = K) (hu : X.A.units + 16 < cLine) (ho : PE X o td) (hi : PE X i ty) (hs : NoSl i) : PE X (.Subscript o i pos) (tXm K cl .nix td (tCons ty tNil)) := by
  refine pe_eq (GDict.pe_gix hP hw hK hu ho hi hs) ?_
  funext σ H Q
  simp [tXm, rXB, rXm, tCons, tNil, GDict.tGix]
theorem pe_xget1 (hP : X.prog = cl.pr) (hw : X.w = cl.w) (hK : X.K = K) (hu : X.A.units + 16 < cLine) (ho : PE X o td) (he : PE X e ty) (m : M1 X o "get" apos e cpos) : PE X (.Call (.Attribute o "get" apos) [e] [] cpos) (tXm K cl .nget td (tCons ty tNil)) := by
  refine pe_eq (GDict.pe_gget1 hP hw hK hu ho he m) ?_
  funext σ H Q
  simp [tXm, rXB, rXm, tCons, tNil, GDict.tGget1]
theorem pe_xget2 (hP : X.prog = cl.pr) (hw : X.w = cl.w) (hK : X.K = K) (hu : X.A.units + 16 < cLine) (ho : PE X o td) (he : PE X e ty) (hf : PE X f tx) (m : M2 X o "get" apos e f cpos) : PE X (.Call (.Attribute o "get" apos) [e, f] [] cpos) (tXm K cl .nget2 td (tCons ty (tCons tx tNil))) := by
  refine pe_eq (GDict.pe_gget2 hP hw hK hu ho he hf m) ?_
  funext σ H Q
  simp [tXm, rXB, rXm, tCons, tNil, GDict.tGget2]
theorem tru_bl {x : V} {b : Bool} {H : Hp} {Q : Bool → Hp → Prop} (e : x = .bl b) : (∃ k, TruV K x H k ∧ Q k H) ↔ Q b H := by
  subst e
  constructor
  · rintro ⟨k, h, q⟩
    have h : k = b := h
    subst h
    exact q
  · exact fun q => ⟨b, rfl, q⟩
theorem tX_test {neg : Bool} : (fun σ H Q => tXm K cl (.nin neg) ty (tCons td tNil) σ H fun x H' => ∃ k, TruV K x H' k ∧ Q k H') = tTest (tXm K cl (.nin neg) ty (tCons td tNil)) := by
  funext σ H Q
  unfold tTest tXm tCons tNil rXB rXm GDict.rGin
  congr 1
  funext x H1
  congr 2
  funext y H2
  refine propext ⟨fun ⟨o, g, q⟩ => ⟨o, g, _, rfl, (tru_bl rfl).mp q⟩, fun ⟨o, g, k, e, q⟩ => ⟨o, g, (tru_bl rfl).mpr ?_⟩⟩
  cases e
  exact q
theorem pt_eq {e : Expr} {t t' : TT} (h : PT X e t) (q : t' = t) : PT X e t' := q ▸ h
theorem pt_xin (hP : X.prog = cl.pr) (hw : X.w = cl.w) (hK : X.K = K) (hu : X.A.units + 16 < cLine) (hi : PE X i ty) (ho : PE X o td) (hm : behindInMarks .In o = false) : PT X (.Compare i [.In] [o] pos) (fun σ H Q => tXm K cl (.nin false) ty (tCons td tNil) σ H fun x H' => ∃ k, TruV K x H' k ∧ Q k H') := by
  refine pt_eq (pt_cmpR (GDict.op_gin hP hw hK hu) hi ho hm) (tX_test.trans ?_)
  congr 1
  funext σ H Q
  simp [tXm, rXB, rXm, tCons, tNil, tOp]
theorem pt_xnin (hP : X.prog = cl.pr) (hw : X.w = cl.w) (hK : X.K = K) (hu : X.A.units + 16 < cLine) (hi : PE X i ty) (ho : PE X o td) (hm : behindInMarks .NotIn o = false) : PT X (.Compare i [.NotIn] [o] pos) (fun σ H Q => tXm K cl (.nin true) ty (tCons td tNil) σ H fun x H' => ∃ k, TruV K x H' k ∧ Q k H') := by
  refine pt_eq (pt_cmpR (GDict.op_gnotin hP hw hK hu) hi ho hm) (tX_test.trans ?_)
  congr 1
  funext σ H Q
  simp [tXm, rXB, rXm, tCons, tNil, tOp]
/-- x(e, .., *y), x a def of the module -/
theorem pe_callST {CX : CXT} {k : Nat} {f : Addr} {fd : FuncData} {ps : List Str} {ds : List Value} {dvs : List V} {sp : Sp} {E : XK} {x : Str} {es : List Expr} {t : TA} (F : FnOk X.prog X.w X.K X.mg X.base CX k f fd ps sp) (hr : Room k X.A) (hg : Gl X x) (hm : X.mg x = some (.ref f)) (hk : PySem.W.keepIn X.K (.ref f) = true) (hb : Binds X.K fd ps ds) (hd : Vals dvs ds) (hx : Passes CX X E)
    (ha : PA X (e :: es) t) (hdb : (x == ("__debug__" : Str)) = false := by decide) (he : starEach (e :: es) X.env = (false, eval e X.env) :: starEach es X.env := by rfl) (hst : (backTo pos (starEach es X.env)).any (·.1) = true := by rfl) :
    PE X (.Call (.Name x p) (e :: es) [] pos) (tCall sp dvs E t) := by
  refine ⟨fun pins s σ H Q I h => ?_⟩
  refine wpAny_Call_Name_kw (ld_glob I hg hm ?_ hdb)
  refine PySem.W.callWith_S2 (h₀ := X.base) I.ok.mod.kin hk (L2.thn (ha.run pos pins s σ H _ I h) fun us s1 ⟨vs, H1, I1, r, q⟩ => ⟨I1.kIn, ?_⟩) he hst
  exact run_fn F hr hb hd hx I1 r q
theorem tx_one {r : List V → Hp → VK → Prop} {m : Xmt} (hB : ∀ x H, rXB K cl m x H = True) (h : ∀ x H Q, rXm K cl m x [] H Q = r [x] H Q) : tXm K cl m te tNil = tCB r (tCons te tNil) := by
  funext σ H Q
  simp [tXm, hB, tCB, tCons, tNil, h]
theorem pe_xkeys (hP : X.prog = cl.pr) (hw : X.w = cl.w) (hK : X.K = K) (hc : X.calm = true) (hg : Gl X "list") (hm : X.mg "list" = none) (he : PE X e te) (hs : starEach [e] X.env = (false, eval e X.env) :: starEach [] X.env := by rfl) : PE X (.Call (.Name "list" p) [e] [] pos) (tXm K cl .nkeys te tNil) :=
  pe_eq (pe_callTy (GDict.call_glist hP hw hK hc) hg hm (by decide +kernel) (pa_cons he pa_nil hs) (he := hs)) (tx_one (fun _ _ => rfl) fun x H Q => by
    unfold rXm GDict.rGlist
    refine propext ⟨fun ⟨vs, a, b⟩ => ⟨x, vs, rfl, a, b⟩, fun ⟨y, vs, e, a, b⟩ => ?_⟩
    cases e
    exact ⟨vs, a, b⟩)
theorem pe_xlen (hP : X.prog = cl.pr) (hw : X.w = cl.w) (hK : X.K = K) (hg : Gl X "len") (hm : X.mg "len" = none) (he : PE X e te) (hs : starEach [e] X.env = (false, eval e X.env) :: starEach [] X.env := by rfl) : PE X (.Call (.Name "len" p) [e] [] pos) (tXm K cl .nlen te tNil) :=
  pe_eq (pe_callB (GDict.call_glen hP hw hK) hg hm PySem.boot_len (pa_cons he pa_nil hs) (he := hs)) (tx_one (fun _ _ => rfl) fun x H Q => by
    unfold rXm GDict.rGlen
    refine propext ⟨fun ⟨vs, a, b⟩ => ⟨x, vs, rfl, a, b⟩, fun ⟨y, vs, e, a, b⟩ => ?_⟩
    cases e
    exact ⟨vs, a, b⟩)
theorem pe_xvals (hP : X.prog = cl.pr) (hw : X.w = cl.w) (hK : X.K = K) (hc : X.calm = true) (he : PE X e te) (hg : Gl X "list") (hm : X.mg "list" = none) (hbase : attributeBase e "values" X.env (eval e X.env) = eval e X.env := by rfl) (hline : (apos.endLine == cpos.line) = true := by rfl)
    (hs : starEach [.Call (.Attribute e "values" apos) [] [] cpos] X.env = (false, eval (.Call (.Attribute e "values" apos) [] [] cpos) X.env) :: starEach [] X.env := by rfl) : PE X (.Call (.Name "list" p) [.Call (.Attribute e "values" apos) [] [] cpos] [] pos) (tXm K cl .nvals te tNil) := by
  refine pe_eq (GDict.pe_gvals hP hw hK hc he hg hm (by decide +kernel) hbase hline hs) ?_
  funext σ H Q
  simp [tXm, rXB, rXm, tNil, GDict.tGvals]
end
theorem hu16 {k : Nat} {A : Around} (hr : Room k A) : A.units + 16 < cLine := by have := hr.un; omega
/-! ### calls of methods and classes whose errors are wished for at the caller's slots -/
section
variable {X : Cx} {CX : CXT} {k : Nat} {C f : Addr} {fd : FuncData} {ps : List Str} {sp : Sp} {dvs : List V} {ds : List Value} {E : L2.St → XK} {x m : Str} {p pos apos : Pos} {e o : Expr} {es : List Expr} {ta : TE} {t : TA}
def tMethSD (C : Addr) (m : Str) (sp : Sp) (dvs : List V) (E : L2.St → XK) (ta : TE) (t : TA) : TE := fun σ H Q => ta σ H fun x H1 => ∃ a dx fs, x = .ref a ∧ H1 a = some (.ins C dx fs) ∧ fs.lookup m = none ∧
  t σ H1 fun vs H2 => sp (x :: (vs ++ dvs)) H2 Q (E σ)
theorem pe_methSD {pl : Sem Bool} (he : PE X o ta) (c : Cls X.K C) (hm : Meth X.K C m f) (F : FnOk X.prog X.w X.K X.mg X.base CX k f fd ps sp) (hr : Room k X.A) (hb : Binds X.K fd ps ds) (hd : Vals dvs ds) (hx : ∀ σ, PassesAt CX X σ (E σ)) (ha : PA X (e :: es) t)
    (hst : starEach (e :: es) X.env = (false, eval e X.env) :: starEach es X.env := by rfl) (hpl : (backTo pos (starEach es X.env)).any (·.1) = false := by rfl)
    (ht : eval (.Call (.Attribute o m apos) (e :: es) [] pos) X.env = (do
      let ov ← eval o X.env
      standAt apos.atName
      let (f, first) ← holding [ov] (getMethod ov m pl)
      callWith pos f first (backTo pos (starEach (e :: es) X.env)) (backToKw pos (keywordEach [] X.env))) := by rfl) :
    PE X (.Call (.Attribute o m apos) (e :: es) [] pos) (tMethSD C m sp dvs E ta t) := by
  refine ⟨fun pins s σ H Q I h => PySem.W.methodCall_KW (pl := pl) (thn (he.run pins s σ H _ I h) fun u s1 ⟨x, H1, I1, rx, a, dx, fs, ex, ea, l, q⟩ => ?_) ht⟩
  subst ex
  obtain rfl : u = Value.ref a := rx
  refine getmeth_ok I1 ea c hm l (PySem.W.callWith_K (first := [.ref a]) (h₀ := X.base) I.ok.mod.kin hm.kp (thn (ha.run pos pins s1 σ H1 _ I1 q) fun us s2 ⟨vs, H2, I2, r, q2⟩ => ⟨I2.kIn, ?_⟩) hst hpl)
  exact run_fnSD (us := .ref a :: us) (vs := .ref a :: vs) F hr hb hd (hx σ) I2 (.cons rfl r) q2
theorem pe_meth0SD {pl : Sem Bool} (he : PE X o ta) (c : Cls X.K C) (hm : Meth X.K C m f) (F : FnOk X.prog X.w X.K X.mg X.base CX k f fd ps sp) (hr : Room k X.A) (hb : Binds X.K fd ps ds) (hd : Vals dvs ds) (hx : ∀ σ, PassesAt CX X σ (E σ))
    (ht : eval (.Call (.Attribute o m apos) [] [] pos) X.env = (do
      let ov ← eval o X.env
      standAt apos.atName
      let (f, first) ← holding [ov] (getMethod ov m pl)
      callWith pos f first (backTo pos (starEach [] X.env)) (backToKw pos (keywordEach [] X.env))) := by rfl) :
    PE X (.Call (.Attribute o m apos) [] [] pos) (tMethSD C m sp dvs E ta tNil) := by
  refine ⟨fun pins s σ H Q I h => PySem.W.methodCall_KW (pl := pl) (thn (he.run pins s σ H _ I h) fun u s1 ⟨x, H1, I1, rx, a, dx, fs, ex, ea, l, q⟩ => ?_) ht⟩
  subst ex
  obtain rfl : u = Value.ref a := rx
  exact getmeth_ok I1 ea c hm l (PySem.W.callWith_K0 (first := [.ref a]) I1.kIn hm.kp (run_fnSD (us := [.ref a]) (vs := [.ref a]) F hr hb hd (hx σ) I1 (.cons rfl .nil) q))
def tMakeSD (C : Addr) (sp : Sp) (dvs : List V) (E : L2.St → XK) (t : TA) : TE := fun σ H Q => t σ H fun vs H1 => ∀ x dx, H1 x = none → H1 dx = none → dx ≠ x →
  sp (.ref x :: (vs ++ dvs)) (upd (upd H1 dx (.own x)) x (.ins C dx [])) (fun v H2 => v = .non ∧ Q (.ref x) H2) (E σ)
theorem pe_makeSD (M : Mk X.K C f) (F : FnOk X.prog X.w X.K X.mg X.base CX k f fd ps sp) (hr : Room (k + 1) X.A) (hg : Gl X x) (hm : X.mg x = some (.ref C)) (hb : Binds X.K fd ps ds) (hd : Vals dvs ds) (hx : ∀ σ, PassesAt CX X σ (E σ))
    (ha : PA X (e :: es) t) (hdb : (x == ("__debug__" : Str)) = false := by decide) (he : starEach (e :: es) X.env = (false, eval e X.env) :: starEach es X.env := by rfl) (hpl : (backTo pos (starEach es X.env)).any (·.1) = false := by rfl) :
    PE X (.Call (.Name x p) (e :: es) [] pos) (tMakeSD C sp dvs E t) := by
  refine ⟨fun pins s σ H Q I h => wpAny_Call_Name_kw (ld_glob I hg hm ?_ hdb)⟩
  refine PySem.W.callWith_K (h₀ := X.base) I.ok.mod.kin M.kp (thn (ha.run pos pins s σ H _ I h) fun us s1 ⟨vs, H1, I1, r, q⟩ => ⟨I1.kIn, ?_⟩) he hpl
  have hq := q (s1.heap.objs.size + 1) s1.heap.objs.size (I1.hok.fresh (Nat.le_succ _)) (I1.hok.fresh (Nat.le_refl _)) (Nat.ne_of_lt (Nat.lt_succ_self _))
  have I2 := Inv.made (C := C) I1
  have r2 : Vals (V.ref (s1.heap.objs.size + 1) :: (vs ++ dvs)) (Value.ref (s1.heap.objs.size + 1) :: (us ++ ds)) := .cons rfl (r.append hd)
  have hl : (Value.ref (s1.heap.objs.size + 1) :: us ++ ds).length = ps.length := by
    have e := r2.length
    rw [F.len _ _ _ _ hq] at e
    exact e.symm
  refine wpAny_call (make_map (f := f) I1.kIn M.makes M.init (beq_iff_eq.mp M.fn) (codeAny_mono (F.run _ X.stack _ _ ⟨Value.ref (s1.heap.objs.size + 1) :: us, []⟩ (Value.ref (s1.heap.objs.size + 1) :: (us ++ ds)) _ _ (E σ) (hr.make C us [])
    (I2.env0.make C us []) (hb _ (Value.ref (s1.heap.objs.size + 1) :: us) I2.kIn hl) r2 hq) fun r s' hq' => ?_))
  cases r with
  | error e => exact hx σ pins _ _ e s' I2 hq'
  | ok fl =>
    cases fl with
    | ret u =>
      obtain ⟨v, H', I3, rv, ev, q3⟩ := I2.after hq'
      subst ev
      exact ⟨rv, ⟨V.ref (s1.heap.objs.size + 1), H', I3, rfl, q3⟩⟩
    | next => exact False.elim hq'
    | brk => exact False.elim hq'
    | cont => exact False.elim hq'
end
/-- a law whose calls might raise -/
theorem law_okX {P : Program} {w : World} {K : PySem.W.Frag} {mg : Str → Option Value} {base : Heap} {cl : ClT} {xc : XCl} {G : List En → Stv → Out Rv} {f : Addr} {fd : FuncData} {ps : List Str} {k : Nat} (F : FnOk P w K mg base (L2.CX P w) k f fd ps (spV K cl xc 1 G))
    (h : ∀ ns : List Int, ns.length ≤ 63 → G [.dt (.list (ns.map PyData.int))] [] = .ok (.v (.bool true)) []) (ht : cl.t = [] := by rfl) : FnOk P w K mg base CX0 k f fd ps (spL K) := by
  have imp : ∀ vs H Q E E', spL K vs H Q E → spV K cl xc 1 G vs H Q E' := by
    rintro vs H Q E E' ⟨a, ns, rfl, hl, hS, q⟩
    refine ⟨rfl, H, [], _, [], ena_one (e := .dt (.list (ns.map PyData.int))) ⟨_, rfl, .lst hS (dpa_ints ns)⟩, .nil (Same.refl _) (by rw [ht]; exact nofun), ?_⟩
    rw [h ns hl]
    intro v F' H' L' n s r
    have r' : Dp K F' v (.bool true) := r
    cases r'
    exact q H'
  refine ⟨fun vs H Q E z => F.len vs H Q E (imp _ _ _ _ _ z), fun A outer s H args us vs Q E hr he hb hv q => codeAny_mono (F.run A outer s H args us vs Q (fun _ _ _ => False) hr he hb hv (imp _ _ _ _ _ q)) fun r s' hq => ?_⟩
  cases r with
  | error e =>
    obtain ⟨_, _, _, _, _, _, _, _, _, _, _, _, hE⟩ := hq
    exact hE.elim
  | ok fl => cases fl <;> exact hq
/-! ### a clause that returns one truth -/
def rtBb (i m : Nat) (a : Addr) (b : Bool) : TS := fun D σ H => σ[i]? = some (some (.ref a)) ∧ m ≤ σ.length ∧ D.rt (.bl b) H
theorem pss_tsCb {X : Cx} {xc : XCl} {i m : Nat} {cs : List (Nat × Bool)} {a : Addr} {cls : Value} {d : Option Addr} {body : List Stmt} (h : ∀ c b, cs.lookup c = some b → cls = xc c → d = none → PSs X body (rtBb i m a b)) : PSs X body (tsCb xc i m cs a cls d) :=
  ⟨fun pins s σ H D I q => by
    obtain ⟨c, bs, hl, hc, hd, hs, hm, q⟩ := q
    exact (h c bs hl hc hd).run pins s σ H D I ⟨hs, hm, q⟩⟩
/-- an expression comes to a truth -/
def BlR (t : TE) (σ : L2.St) (b : Bool) : Prop := ∀ (H : Hp) (Q : VK), Q (.bl b) H → t σ H Q
section
variable {σ : L2.St} {ta tb : TE} {x y : Bool}
theorem bl_isE {K : PySem.W.Frag} {D a : Addr} {i : Nat} {v : V} {cv : Value} {b : Bool} (hs : σ[i]? = some (some (.ref a))) (hv : ∀ u, RelV v u → u = cv) (hk : PySem.W.kitOne K (.ref D) cv = some b) :
    BlR (tCB (rIsE K D a) (tCons (tVar i) (tCons (tC v) tNil))) σ b := fun _ _ q => isE_rd hs hv hk q
theorem bl_var {j : Nat} {b : Bool} (hs : σ[j]? = some (some (.bl b))) : BlR (tVar j) σ b := fun _ _ q => var_rd hs q
theorem bl_and (h : BlR ta σ x) (g : BlR tb σ y) : BlR (tAndV ta tb) σ (x && y) := fun H Q q => h H _ ⟨x, rfl, by
  cases x with
  | true => exact g H Q q
  | false => exact q⟩
theorem bl_or (h : BlR ta σ x) (g : BlR tb σ y) : BlR (tOrV ta tb) σ (x || y) := fun H Q q => h H _ ⟨x, rfl, by
  cases x with
  | true => exact q
  | false => exact g H Q q⟩
theorem bl_not (h : BlR ta σ x) : BlR (tNotV ta) σ (!x) := fun H Q q => h H _ ⟨x, rfl, q⟩
end
/-! ### o.f as one of several targets -/
theorem pg_fldV {X : Cx} {K : PySem.W.Frag} {cl : ClT} {o : Expr} {ta : TE} {f : Str} {pos : Pos} (hX : X.K = K) (hc : ∀ c, Cls K (cl c)) (hn : ∀ c, NoAttr K (cl c) f) (ho : PE X o ta)
    (ha : ∀ v, assign (.Attribute o f pos) X.env v = (do
      let ov ← holding [v] (eval o X.env)
      standAt pos.atName
      holding [v, ov] (setAttr ov f v)
      release [v, ov] []) := by intro _; rfl) : PG X (.Attribute o f pos) (gFldV cl ta f) := by
  subst hX
  refine ⟨fun pins s σ H v u Q I r h => ?_⟩
  rw [ha]
  refine wpAny_bind (wpAny_holding (L2.thn (ho.run pins s σ H _ I h) fun ov s1 ⟨x, H1, I1, rx, a, c, dx, fs, ex, ea, l, q⟩ => ?_))
  subst ex
  obtain rfl : ov = Value.ref a := rx
  refine wpAny_bind (wpAny_standAt (wpAny_bind (wpAny_holding (setattr_ok I1 ea (hc c) (hn c) l r fun s2 I2 => ?_))))
  exact wpAny_release ⟨σ, _, I2, q⟩
end VM
end

section
set_option Elab.async false
set_option linter.all false
set_option maxRecDepth 100000
set_option maxHeartbeats 4000000
namespace VM
open PySem PySem.Spec PyProof.Rows L2 DL
/-! the rules of the text for texts' methods, constant dicts, displays -/
section
variable {X : Cx} {K : PySem.W.Frag} {o e : Expr} {es : List Expr} {to te : TE} {t : TA} {apos cpos pos p : Pos} {name : Str}
theorem pe_wk {e : Expr} {t t' : TE} (h : PE X e t) (hi : ∀ σ H Q, t' σ H Q → t σ H Q) : PE X e t' := ⟨fun pins s σ H Q I q => h.run pins s σ H Q I (hi _ _ _ q)⟩
abbrev tmId : Tmt → String
  | .upper => "str.upper"
  | .lower => "str.lower"
  | .isupper => "str.isupper"
  | .find => "str.find"
  | .split => "str.split"
  | .splitM => "str.split"
  | .part => "str.partition"
  | .index => "str.index"
theorem mtm (m : Tmt) : MtR X (tmId m) (rTm m) := by cases m <;> exact mt_tm _
theorem pe_tm0 (m : Tmt) (slot : Slot "str" name (tmId m)) (hty : typeOf (.builtin (tmId m)) = pure (.type "method_descriptor")) (ho : PE X o to)
    (hbase : attributeBase o name X.env (eval o X.env) = eval o X.env := by rfl) (hline : (apos.endLine == cpos.line) = true := by rfl) : PE X (.Call (.Attribute o name apos) [] [] cpos) (tTm to tNil m) :=
  pe_m0 slot hty (mtm m) ho hbase hline
theorem pe_tm (m : Tmt) (slot : Slot "str" name (tmId m)) (hty : typeOf (.builtin (tmId m)) = pure (.type "method_descriptor")) (hX : X.K = K) (ho : PE X o to) (ha : PA X (e :: es) t)
    (h1 : attributeBase o name X.env (eval o X.env) = eval o X.env := by rfl)
    (h2 : ((backTo cpos (starEach (e :: es) X.env)).all (fun x => !x.1) && (backToKw cpos (keywordEach [] X.env)).all (fun x => x.1.isSome)
      && decide ((e :: es).length + ([] : List Keyword).length + (if ([] : List Keyword).isEmpty then 0 else 1) < 30)) = true := by rfl)
    (h3 : (apos.endLine == cpos.line) = true := by rfl) (h4 : starEach (e :: es) X.env = (false, eval e X.env) :: starEach es X.env := by rfl) (h5 : (backTo cpos (starEach es X.env)).any (·.1) = false := by rfl) :
    PE X (.Call (.Attribute o name apos) (e :: es) [] cpos) (tTm to t m) := by
  subst hX
  refine ⟨fun pins s σ H Q I h => ?_⟩
  refine wpAny_Call_method_late h1 h2 h3 rfl (thn (ho.run pins s σ H _ I h) fun v s1 ⟨x, H1, I1, r1, ⟨a, ex⟩, q1⟩ => ?_)
  obtain ⟨g1, g2⟩ := tyV_is (T := "str") I1 r1 (by rw [ex]; rfl)
  refine ⟨"str", _, PySem.F.plainAttrs_str, slot, hty, g1, g2, ?_⟩
  have hA := ha.run cpos pins s1 σ H1 _ I1 q1
  rw [h4] at hA ⊢
  refine Calls.callWith_builtin (by show (false || (backTo cpos (starEach es X.env)).any (·.1)) = false; rw [h5] <;> rfl) (Calls.evalArgs_plain ?_)
  exact thn hA fun us s2 ⟨vs, H2, I2, r2, q2⟩ => mtm m pins s2 σ H2 x vs v us Q I2 r1 r2 q2
/-! a dict of the module -/
variable {cl : ClT} {v : V} {kvs : List (Str × D)} {nm : Str}
theorem op_cdk (hX : X.K = K) (hw : X.w = cl.w) (hc : CDk K cl.w v kvs) (neg : Bool) : OpR X (compareOp (if neg = true then .NotIn else .In)) (fun x y H Q => ∃ z, x = .str z ∧ y = v ∧ Q (.bl (if neg = true then !(kvs.lookup z).isSome else (kvs.lookup z).isSome)) H) := by
  subst hX
  rw [← hw] at hc
  obtain ⟨a, es, n, rfl, kd, hz⟩ := cdk_ns hc
  have key : ∀ z, ∃ r, PySem.W.nsIn X.K a z = some r ∧ r.isSome = (kvs.lookup z).isSome := fun z => by
    obtain ⟨h1, h2⟩ := hz z
    cases hl : kvs.lookup z with
    | none => exact ⟨none, h2 hl, rfl⟩
    | some d =>
      obtain ⟨u, _, e, _⟩ := h1 d hl
      exact ⟨some u, e, rfl⟩
  cases neg with
  | false =>
    intro pins s σ H x y u1 u2 Q I rx ry h
    obtain ⟨z, e1, e2, q⟩ := h
    obtain ⟨r, e, er⟩ := key z
    exact op_in_kd kd pins s σ H x y u1 u2 Q I rx ry ⟨z, r, e1, e2, e, by rw [er]; exact q⟩
  | true =>
    intro pins s σ H x y u1 u2 Q I rx ry h
    obtain ⟨z, e1, e2, q⟩ := h
    obtain ⟨r, e, er⟩ := key z
    exact op_notIn_kd kd pins s σ H x y u1 u2 Q I rx ry ⟨z, r, e1, e2, e, by rw [er]; exact q⟩
theorem tcdn_eq (h : CDk K cl.w v kvs) {neg : Bool} : tCdn K cl.w v kvs neg te = tOp (fun x y H Q => ∃ z, x = .str z ∧ y = v ∧ Q (.bl (if neg = true then !(kvs.lookup z).isSome else (kvs.lookup z).isSome)) H) te (tC v) := by
  funext σ H Q
  unfold tCdn tOp tC
  refine propext ⟨fun g => ?_, fun g _ => ?_⟩
  · have g := g h
    simpa using g
  · simpa using g
theorem pe_cdn (neg : Bool) (hX : X.K = K) (hw : X.w = cl.w) (hg : Gl X nm) (h : ∃ u, X.mg nm = some u ∧ RelV v u ∧ CDk K cl.w v kvs) (he : PE X e te) (hd : (nm == ("__debug__" : Str)) = false := by decide)
    (hm : behindInMarks (if neg = true then .NotIn else .In) (.Name nm p) = false := by rfl) : PE X (.Compare e [if neg = true then .NotIn else .In] [.Name nm p] pos) (tCdn K cl.w v kvs neg te) := by
  obtain ⟨u, h1, h2, h3⟩ := h
  rw [tcdn_eq h3]
  exact pe_cmpR (op_cdk hX hw h3 neg) he (pe_glob hg h1 h2 (hd := hd)) hm
theorem pt_cdn (neg : Bool) (hX : X.K = K) (hw : X.w = cl.w) (hg : Gl X nm) (h : ∃ u, X.mg nm = some u ∧ RelV v u ∧ CDk K cl.w v kvs) (he : PE X e te) (hd : (nm == ("__debug__" : Str)) = false := by decide)
    (hm : behindInMarks (if neg = true then .NotIn else .In) (.Name nm p) = false := by rfl) : PT X (.Compare e [if neg = true then .NotIn else .In] [.Name nm p] pos) (fun σ H Q => tCdn K cl.w v kvs neg te σ H fun x H' => ∃ k, TruV K x H' k ∧ Q k H') := by
  obtain ⟨u, h1, h2, h3⟩ := h
  rw [tcdn_eq h3]
  refine pt_eq (pt_cmpR (op_cdk hX hw h3 neg) he (pe_glob hg h1 h2 (hd := hd)) hm) ?_
  funext σ H Q
  unfold tTest tOp tC
  congr 1
  funext x H1
  refine propext ⟨fun ⟨z, e1, e2, q⟩ => ⟨z, e1, e2, _, rfl, (tru_bl rfl).mp q⟩, fun ⟨z, e1, e2, k, e3, q⟩ => ⟨z, e1, e2, (tru_bl rfl).mpr ?_⟩⟩
  cases e3
  exact q
theorem ix_cdk (hX : X.K = K) (hw : X.w = cl.w) (hc : CDk K cl.w v kvs) : IxR X (fun x y H Q => x = v ∧ ∃ z d, y = .str z ∧ kvs.lookup z = some d ∧ ∀ v', KDat K v' d → Q v' H) := by
  subst hX
  rw [← hw] at hc
  obtain ⟨a, es, n, rfl, kd, hz⟩ := cdk_ns hc
  intro value slice pins s σ H x y v0 u Q I rx ry h hs
  obtain ⟨rfl, z, d, rfl, hl, q⟩ := h
  obtain ⟨u', v', e, r, hk⟩ := (hz z).1 d hl
  exact ix_kdict value slice pins s σ H _ _ v0 u Q I rx ry ⟨a, z, v', rfl, rfl, ⟨es, n, u', kd.at_, kd.lit, e, r⟩, q v' hk⟩ hs
theorem tcdi_eq (h : CDk K cl.w v kvs) : tCdi K cl.w v kvs te = tOp (fun x y H Q => x = v ∧ ∃ z d, y = .str z ∧ kvs.lookup z = some d ∧ ∀ v', KDat K v' d → Q v' H) (tC v) te := by
  funext σ H Q
  unfold tCdi tOp tC
  refine propext ⟨fun g => ?_, fun g _ => ?_⟩
  · have g := g h
    simpa using g
  · simpa using g
theorem pe_cdi (hX : X.K = K) (hw : X.w = cl.w) (hg : Gl X nm) (h : ∃ u, X.mg nm = some u ∧ RelV v u ∧ CDk K cl.w v kvs) (he : PE X e te) (hs : PlainIx e) (hd : (nm == ("__debug__" : Str)) = false := by decide) : PE X (.Subscript (.Name nm p) e pos) (tCdi K cl.w v kvs te) := by
  obtain ⟨u, h1, h2, h3⟩ := h
  rw [tcdi_eq h3]
  exact pe_ix (ix_cdk hX hw h3) (pe_glob hg h1 h2 (hd := hd)) he hs
end
end VM
end

section
set_option Elab.async false
set_option linter.all false
set_option maxRecDepth 100000
set_option maxHeartbeats 4000000
namespace VM
open PySem PySem.Spec PyProof.Rows L2 DL
/-! own errors with an __init__ of their own: their making, the rules of the text -/
section
variable {X : Cx} {e : Expr} {es : List Expr} {ta : TA} {B : Str} {CB : Addr} {p1 p2 pos : Pos}
/-- B.__init__(self, ..), B an own error that takes ValueError's -/
theorem pe_binit {pl : Sem Bool} (hg : Gl X B) (hm : X.mg B = some (.ref CB)) (h1 : PySem.W.specialIn X.K (.ref CB) "__getattribute__" = some (some (.builtin "type.__getattribute__"))) (hr : PySem.W.readsIn X.K CB (.type "type") = true)
    (vV : PySem.W.findCls X.K (.ref CB) (.type "type") "__init__" = some (.val (.builtin "ValueError.__init__"))) (ha : PA X (e :: es) ta) (hdb : (B == ("__debug__" : Str)) = false := by decide)
    (hc : eval (.Call (.Attribute (.Name B p1) "__init__" p2) (e :: es) [] pos) X.env = (do
      let ov ← eval (.Name B p1) X.env
      standAt p2.atName
      let (f, first) ← holding [ov] (getMethod ov "__init__" pl)
      callWith pos f first (backTo pos (starEach (e :: es) X.env)) (backToKw pos (keywordEach [] X.env))) := by rfl)
    (he : starEach (e :: es) X.env = (false, eval e X.env) :: starEach es X.env := by rfl) (hpl : (backTo pos (starEach es X.env)).any (·.1) = false := by rfl) :
    PE X (.Call (.Attribute (.Name B p1) "__init__" p2) (e :: es) [] pos) (tVeI X.K ta) := by
  refine ⟨fun pins s σ H Q I h => ?_⟩
  refine PySem.W.methodCall_KW (ld_glob I hg hm ?_ hdb) hc
  refine PySem.W.method_cls I.kIn h1 (PySem.W.cls_value I.kIn hr vV (by decide +kernel) ?_)
  show wpAny _ _ (callWith pos (Value.builtin "ValueError.__init__") [] (backTo pos (starEach (e :: es) X.env)) []) _ _ _
  refine PyProof.Rows.callWith_method1 (L2.thn (ha.run pos pins _ σ H _ (I.tok _) h) fun us s1 ⟨vs, H1, I1, r1, a, C, ws, ev, hl, T, ea, q⟩ => ?_) he hpl
  subst ev
  cases r1 with
  | @cons _ u0 _ ur ra rw' =>
    obtain rfl : u0 = Value.ref a := ra
    have hlen : ur.length ≤ sizeLine := by
      rw [← Paired.length rw', sizeLine_eq]
      omega
    exact oinit_ok T I1 ea hlen fun s' J => ⟨.non, H1, J, rfl, q⟩
end
/-- what the written part says of such a class, by its object -/
def oexD (C : Addr) (cd : ClassData) (sl : Array (Option Value)) : Bool := match cd.mro, sl.toList with
  | .ref C' :: bm, [_, _, _, _, some (.builtin n), _] => C' == C && n == "ValueError.__new__" && !cd.hasDel && cd.hasDict && PySem.HandSPX.refsVE bm
  | _, _ => false
theorem oexC_of {K : PySem.W.Frag} {C : Addr} {dd : Option Addr} {cd : ClassData} {sl : Array (Option Value)} (l : K.lookup C = some ⟨.type "type", dd, .cls cd, sl⟩) (q : oexD C cd sl = true)
    (sa : PySem.W.findIn K (.ref C) "__setattr__" = some (some (.builtin "object.__setattr__"))) (exC : PySem.W.subIn K (.ref C) (.type "BaseException") = some true) (tyC : PySem.W.typeIn K (.ref C) = some (.type "type")) (kC : PySem.W.keepIn K (.ref C) = true) : OexC K C := by
  refine ⟨?_, sa, exC, tyC, kC⟩
  unfold oexD at q
  split at q
  · rename_i C' bm k0 k1 k2 k3 n k5 hm hs
    simp only [Bool.and_eq_true, beq_iff_eq, Bool.not_eq_true'] at q
    obtain ⟨⟨⟨⟨rfl, rfl⟩, hdel⟩, hdict⟩, hv⟩ := q
    obtain ⟨nm, bs, mro, ns, qn, hd, sn, sub, ab, col, del⟩ := cd
    dsimp only at hm hdel hdict
    subst hm hdel hdict
    have hsl : sl = #[k0, k1, k2, k3, some (.builtin "ValueError.__new__"), k5] := by
      obtain ⟨l⟩ := sl
      simp only at hs
      rw [hs]
    subst hsl
    exact ⟨nm, qn, ns, bs, bm, sn, sub, ab, col, dd, k0, k1, k2, k3, k5, l, hv⟩
  · cases q
/-! ### the body of such an __init__ -/
def tOsts (K : PySem.W.Frag) : List Str → Nat → TS
  | [], _ => tNext
  | f :: fs, i => tSeq (tOst K f (tVar 0) (tVar i)) (tOsts K fs (i + 1))
/-- a message of texts and of what is told -/
def msgOk (n : Nat) : Exs → Bool
  | .nil => true
  | .cons (.con (.str z)) es => decide (z.length ≤ 1000) && msgOk n es
  | .cons (.var i) es => decide (1 ≤ i) && decide (i ≤ n) && msgOk n es
  | _ => false
def cntX : Exs → Nat
  | .nil => 0
  | .cons _ es => cntX es + 1
  | .star _ es => cntX es + 1
def SmV (v : V) : Prop := (∃ y, v = .str y ∧ y.length ≤ 1000) ∨ ∃ i, v = .int i ∧ i.natAbs < 1099511627776
theorem smv_of {K : PySem.W.Frag} {F : Hp} : ∀ {ws : List V} {ds : List D}, DpAll K F ws ds → ds.all smallD = true → ∀ w ∈ ws, SmV w
  | _, _, .nil, _, w, hw => by cases hw
  | _, _, .cons (v := v) (d := d) h t, ha, w, hw => by
    obtain ⟨a1, a2⟩ := Bool.and_eq_true_iff.mp (show (smallD d && _) = true from ha)
    rcases List.mem_cons.mp hw with e | hw
    · subst e
      cases d with
      | int i => cases h; exact .inr ⟨_, rfl, by simpa using a1⟩
      | str y => cases h; exact .inl ⟨_, rfl, by simpa using a1⟩
      | _ => cases a1
    · exact smv_of t a2 w hw
theorem log2_sm {k : Nat} (h : k < 1099511627776) : k.log2 < 1920 := by
  by_cases h0 : k = 0
  · subst h0
    decide
  · have : k.log2 < 40 := (Nat.log2_lt h0).mpr h
    omega
theorem tos_sm {i : Int} (h : i.natAbs < 1099511627776) : ((toString i : String) : Str).length ≤ 1921 := PyProof.Rows.int_text_len_1921 (i := i) (log2_sm h)
theorem len_apj (a b : Str) : (a ++ b).length = a.length + b.length := by
  show (a.cps ++ b.cps).size = _
  simp [Str.length]
theorem tJs_msg {E : Env0} {W : WXK} {σ : L2.St} {H : Hp} {n : Nat} (hσ : ∀ i, 1 ≤ i → i ≤ n → ∃ v, σ[i]? = some (some v) ∧ SmV v) : ∀ (es : Exs) (acc : Str) (Q : Str → Hp → Prop), msgOk n es = true → acc.length + 2000 * cntX es ≤ sizeLine → (∀ out, Q out H) → tJs (dJ E es W) acc σ H Q
  | .nil, acc, Q, _, _, k => k acc
  | .star _ _, _, _, h, _, _ => by cases h
  | .cons ex es, acc, Q, h, hl, k => by
    unfold cntX at hl
    have step : ∀ y : Str, y.length ≤ 2000 → msgOk n es = true → (acc ++ y).length ≤ sizeLine ∧ tJs (dJ E es W) (acc ++ y) σ H Q := fun y hy hm => by
      have e := len_apj acc y
      exact ⟨by omega, tJs_msg hσ es (acc ++ y) Q hm (by omega) k⟩
    unfold msgOk at h
    split at h
    · exact (by rename_i z; cases z)
    · rename_i z es' heq
      cases heq
      obtain ⟨h1, h2⟩ := Bool.and_eq_true_iff.mp h
      obtain ⟨s1, s2⟩ := step z (by have := of_decide_eq_true h1; omega) h2
      exact ⟨z, rfl, s1, s2⟩
    · rename_i i es' heq
      cases heq
      obtain ⟨h1, h2⟩ := Bool.and_eq_true_iff.mp h
      obtain ⟨h3, h4⟩ := Bool.and_eq_true_iff.mp h1
      obtain ⟨v, hv, sm⟩ := hσ i (of_decide_eq_true h3) (of_decide_eq_true h4)
      rcases sm with ⟨y, rfl, hy⟩ | ⟨j, rfl, hj⟩
      · obtain ⟨s1, s2⟩ := step y (by omega) h2
        exact ⟨_, hv, .inl ⟨y, rfl, by rw [sizeLine_eq]; omega, y, rfl, s1, s2⟩⟩
      · obtain ⟨s1, s2⟩ := step (toString j : String) (by have := tos_sm hj; omega) h2
        exact ⟨_, hv, .inr ⟨j, rfl, log2_sm hj, _, rfl, s1, s2⟩⟩
    · cases h
theorem osts_ok {K : PySem.W.Frag} {C a d : Addr} {σ : L2.St} {H : Hp} {D : Ends} (T : OexC K C) (h0 : σ[0]? = some (some (.ref a))) (hda : d ≠ a) :
    ∀ (fs : List Str) (ws : List V) (i : Nat) (done : List (Str × V)), (∀ f ∈ fs, PySem.W.findIn K (.ref C) f = some none) → ws.length = fs.length → (∀ k w, ws[k]? = some w → σ[i + k]? = some (some w)) → done.length + fs.length ≤ 900 →
      D.nx σ (upd (upd H d (exd d ((fs.zip ws).reverse ++ done))) a (exo a C (some d))) → tOsts K fs i D σ (upd (upd H d (exd d done)) a (exo a C (some d)))
  | [], ws, i, done, _, hl, _, _, q => by
    cases ws with
    | nil => exact q
    | cons w ws => cases hl
  | f :: fs, [], i, done, _, hl, _, _, _ => by cases hl
  | f :: fs, w :: ws, i, done, hno, hl, hw, hz, q => by
    refine ⟨_, hw 0 w rfl, _, h0, a, C, rfl, T, hno f List.mem_cons_self, .inr ⟨d, done, upd_same, by rw [upd_ne hda, upd_same], by simp only [List.length_cons] at hz; omega, ?_⟩⟩
    have eh : upd (upd (upd H d (exd d done)) a (exo a C (some d))) d (exd d ((f, w) :: done)) = upd (upd H d (exd d ((f, w) :: done))) a (exo a C (some d)) := by
      funext b
      by_cases hb : b = d
      · rw [hb, upd_same, upd_ne hda, upd_same]
      · rw [upd_ne hb]
        by_cases hba : b = a
        · rw [hba, upd_same, upd_same]
        · rw [upd_ne hba, upd_ne hba, upd_ne hb, upd_ne hb]
    rw [eh]
    refine osts_ok T h0 hda fs ws (i + 1) ((f, w) :: done) (fun g hg => hno g (List.mem_cons_of_mem _ hg)) (by simpa using hl) (fun k w' hk => ?_) (by simp only [List.length_cons] at hz ⊢; omega) ?_
    · have := hw (k + 1) w' hk
      rw [show i + (k + 1) = i + 1 + k from by omega] at this
      exact this
    · rw [List.zip_cons_cons, List.reverse_cons, List.append_assoc] at q
      exact q
theorem runm_nz {tb : Nat → Fd} {n g : Nat} {es : List En} {S S' : Stv} {r : Rv} (h : cbOf tb n true g es S = .ok r S') : n ≠ 0 := fun z => by
  subst z
  exact absurd h (by unfold cbOf runm; exact fun z => by cases z)
theorem fun_OX {P : Program} {w : World} {K : PySem.W.Frag} {mg : Str → Option Value} {base : Heap} {cl : ClT} {xc : XCl} {V0 : Nat → V} {tb : Nat → Fd} {x qual : Str} {st : Stmt} {f : Addr} {fd : FuncData} {N ps : List Str} {g : Nat} {C : Addr} {fs : List Str} {es : Exs}
    (F : Fun K x qual st f fd) (S : FnScope N ps (defScope st)) (hn : ps.length = fs.length + 1) (hfs : fs ≠ []) (T : OexC K C) (hno : ∀ f ∈ fs, PySem.W.findIn K (.ref C) f = some none) (hm : msgOk fs.length es = true) (hz : 2000 * cntX es ≤ 1000000)
    (hbody : ∀ (n : Nat) (cdv : Value) (A : Around) (outer : List Env) (s : Shared) (H : Hp) (E : XK), Room (n + 1) (A.deeper (envOfC qual (defScope st) s.heap.objs.size f cdv)) →
      PSs (cxOf CX0 P w K mg base N qual (defScope st) f cdv A outer s H E).nox (defBody st) (tSeq (tDrop (tVeI K (tCons (tVar 0) (tCons (dE (envV K cl xc V0 tb n) (.fst es) (fun _ _ _ _ => False)) tNil)))) (tOsts K fs 1))) :
    ∀ n, FnOk P w K mg base CX0 n f fd ps (spI K (cbOf tb n) C fs g) := by
  intro n
  match n with
  | 0 =>
    exact ⟨fun vs H Q E h => by
      obtain ⟨a, ws, ds, _, _, _, _, _, ⟨r, S', hcb⟩, _⟩ := h
      exact absurd rfl (runm_nz hcb), fun A outer s H args us vs Q E hr e0 hb r h => by
      obtain ⟨a, ws, ds, _, _, _, _, _, ⟨r, S', hcb⟩, _⟩ := h
      exact absurd rfl (runm_nz hcb)⟩
  | 1 =>
    have bad : ∀ {es S r S'}, cbOf tb 1 true g es S = .ok r S' → False := fun h => by
      unfold cbOf runm run at h
      cases h
    exact ⟨fun vs H Q E h => by
      obtain ⟨a, ws, ds, _, _, _, _, _, ⟨r, S', hcb⟩, _⟩ := h
      exact (bad hcb).elim, fun A outer s H args us vs Q E hr e0 hb r h => by
      obtain ⟨a, ws, ds, _, _, _, _, _, ⟨r, S', hcb⟩, _⟩ := h
      exact (bad hcb).elim⟩
  | n + 2 =>
    obtain ⟨oc, od, kV, doc, pm, an, cdv, ct, osl, rfl, lk, hcd⟩ := F.ex
    refine fn_of lk hcd S (fun vs H Q E h => ?_) fun A outer s H vs Q E hr h => ⟨_, (hbody n cdv A outer s H E hr).nox, ?_⟩
    · obtain ⟨a, ws, ds, rfl, hl, _⟩ := h
      rw [List.length_cons, hl, hn]
    · obtain ⟨a, ws, ds, rfl, hl, ⟨F0, hd⟩, hs, h9, _, ha, q⟩ := h
      have sm := smv_of hd hs
      have h0 : (L2.start N (V.ref a :: ws))[0]? = some (some (.ref a)) := rfl
      have hw : ∀ k w, ws[k]? = some w → (L2.start N (V.ref a :: ws))[1 + k]? = some (some w) := fun k w hk => by
        unfold L2.start
        rw [List.map_cons, List.cons_append, show 1 + k = k + 1 from by omega, List.getElem?_cons_succ, List.getElem?_append_left (by rw [List.length_map]; exact (List.getElem?_eq_some_iff.mp hk).1), List.getElem?_map, hk]
        rfl
      refine ⟨_, h0, ?_⟩
      refine tJs_msg (n := fs.length) (fun i h1 h2 => ?_) es _ _ hm (by rw [show Str.empty.length = 0 from rfl, sizeLine_eq]; omega) fun out => ?_
      · have hi : i - 1 < ws.length := by omega
        refine ⟨ws[i - 1], ?_, sm _ (List.getElem_mem hi)⟩
        have := hw (i - 1) _ (List.getElem?_eq_getElem hi)
        rw [show 1 + (i - 1) = i from by omega] at this
        exact this
      · refine ⟨a, C, [.str out], rfl, by simp, T, ha, ?_⟩
        cases fs with
        | nil => exact absurd rfl hfs
        | cons f0 fs =>
          cases ws with
          | nil => cases hl
          | cons w0 ws =>
            refine ⟨_, hw 0 w0 rfl, _, h0, a, C, rfl, T, hno f0 List.mem_cons_self, .inl ⟨ha, fun dx hdx hda => ?_⟩⟩
            refine osts_ok T h0 hda fs ws 2 [(f0, w0)] (fun g hg => hno g (List.mem_cons_of_mem _ hg)) (by simpa using hl) (fun k w' hk => ?_) (by simp only [List.length_cons] at h9 ⊢; simp; omega) ?_
            · have := hw (k + 1) w' hk
              rw [show 1 + (k + 1) = 2 + k from by omega] at this
              exact this
            · have := q dx hdx hda
              rw [List.zip_cons_cons, List.reverse_cons] at this
              exact this
/-- raise C(e, ..) -/
theorem ps_raf {X : Cx} {E : Env0} {W : WXK} {x : Str} {C fI : Addr} {c g n : Nat} {fs : List Str} {fd : FuncData} {ps : List Str} {e : Expr} {es : List Expr} {xs : Exs} {p pos rp : Pos} (hX : X.K = E.K) (hC : E.xc c = .ref C) (hcalm : X.calm = true) (tk : Takes X W)
    (T : OexC X.K C) (iC : PySem.W.findIn X.K (.ref C) "__init__" = some (some (.ref fI))) (tI : PySem.W.typeIn X.K (.ref fI) = some (.type "function"))
    (F1 : FnOk X.prog X.w X.K X.mg X.base CX0 n fI fd ps (spI E.K E.cb C fs g)) (hr : Room (n + 1) X.A) (hb : Binds X.K fd ps []) (hg : Gl X x) (hm : X.mg x = some (.ref C)) (ha : PA X (e :: es) (dA E xs W))
    (hdb : (x == ("__debug__" : Str)) = false := by decide) (he : starEach (e :: es) X.env = (false, eval e X.env) :: starEach es X.env := by rfl) (hpl : (backTo pos (starEach es X.env)).any (·.1) = false := by rfl) :
    PS X (.Raise (some (.Call (.Name x p) (e :: es) [] pos)) none rp) (dS E (.raf c fs g xs) W) :=
  ps_imp (ps_raise hcalm tk (pmk_oex T iC tI F1 hr hb .nil pass0 hg hm ha hdb he hpl)) fun D σ H q => q C hC
/-! ### except suites -/
/-- an expression comes to a truth, here -/
def BH (t : TE) (σ : L2.St) (H : Hp) (b : Bool) : Prop := ∀ Q : VK, Q (.bl b) H → t σ H Q
section
variable {K : PySem.W.Frag} {σ : L2.St} {H : Hp} {ta tb : TE} {x y : Bool} {D : Ends} {t u : TS}
theorem bh_isE {E a : Addr} {i : Nat} {v : V} {cv : Value} {b : Bool} (hs : σ[i]? = some (some (.ref a))) (hv : ∀ u, RelV v u → u = cv) (hk : PySem.W.kitOne K (.ref E) cv = some b) :
    BH (tCB (rIsE K E a) (tCons (tVar i) (tCons (tC v) tNil))) σ H b := fun _ q => isE_rd hs hv hk q
theorem bh_var {j : Nat} {b : Bool} (hs : σ[j]? = some (some (.bl b))) : BH (tVar j) σ H b := fun _ q => var_rd hs q
theorem bh_con {b : Bool} : BH (tC (.bl b)) σ H b := fun _ q => q
theorem bh_and (h : BH ta σ H x) (g : BH tb σ H y) : BH (tAndV ta tb) σ H (x && y) := fun Q q => h _ ⟨x, rfl, by
  cases x with
  | true => exact g Q q
  | false => exact q⟩
theorem bh_or (h : BH ta σ H x) (g : BH tb σ H y) : BH (tOrV ta tb) σ H (x || y) := fun Q q => h _ ⟨x, rfl, by
  cases x with
  | true => exact q
  | false => exact g Q q⟩
theorem bh_not (h : BH ta σ H x) : BH (tNotV ta) σ H (!x) := fun Q q => h _ ⟨x, rfl, q⟩
/-- isinstance(err.f, T), the field's type known -/
theorem bh_ty {a C : Addr} {cls : Value} {d : Option Addr} {i : Nat} {f : Str} {s : Bool} {T : String} {b : Bool} (hs : σ[i]? = some (some (.ref a))) (hc : cls = .ref C) (ht : TyV d H (f, s)) (hk : kitB (if s = true then "str" else "int") T = some b) :
    BH (tCB (rIsi K) (tCons (tXf a cls d C f (tVar i)) (tCons (tC (.ty T)) tNil))) σ H b := fun Q q => by
  obtain ⟨dd, vs, v, e, hH, hl, hv⟩ := ht
  cases s with
  | true =>
    rw [if_pos rfl] at hv hk
    obtain ⟨y, rfl⟩ := hv
    exact ⟨_, hs, rfl, hc, dd, vs, _, e, hH, hl, _, _, _, _, b, rfl, .ty T, .base (.str _), kit_ty hk, q⟩
  | false =>
    rw [if_neg Bool.false_ne_true] at hv hk
    obtain ⟨n, rfl⟩ := hv
    exact ⟨_, hs, rfl, hc, dd, vs, _, e, hH, hl, _, _, _, _, b, rfl, .ty T, .base (.int _), kit_ty hk, q⟩
theorem ifT (h : BH ta σ H true) (q : t D σ H) : tIfS (fun σ H Q => ta σ H fun x H' => ∃ k, TruV K x H' k ∧ Q k H') t u D σ H := h _ ⟨true, rfl, (if_pos rfl : (if true = true then _ else _) = _).mpr q⟩
theorem ifF (h : BH ta σ H false) (q : u D σ H) : tIfS (fun σ H Q => ta σ H fun x H' => ∃ k, TruV K x H' k ∧ Q k H') t u D σ H := h _ ⟨false, rfl, (if_neg Bool.false_ne_true).mpr q⟩
theorem ifeT {tx ty : TE} {Q : VK} (h : BH ta σ H true) (q : tx σ H Q) : tIf (fun σ H Q => ta σ H fun x H' => ∃ k, TruV K x H' k ∧ Q k H') tx ty σ H Q := h _ ⟨true, rfl, (if_pos rfl : (if true = true then _ else _) = _).mpr q⟩
theorem ifeF {tx ty : TE} {Q : VK} (h : BH ta σ H false) (q : ty σ H Q) : tIf (fun σ H Q => ta σ H fun x H' => ∃ k, TruV K x H' k ∧ Q k H') tx ty σ H Q := h _ ⟨false, rfl, (if_neg Bool.false_ne_true).mpr q⟩
end
theorem pss_bad {X : Cx} {es : List Stmt} : PSs X es (fun _ _ _ => False) := ⟨fun _ _ _ _ _ _ h => h.elim⟩
theorem pss_tsX {X : Cx} {xc : XCl} {i : Option Nat} {m : Nat} {cs : List (Nat × List (Str × Bool) × Sx)} {a : Addr} {cls : Value} {d : Option Addr} {body : List Stmt}
    (h : ∀ c ty sx, cs.lookup c = some (ty, sx) → cls = xc c → PSs X body (fun D σ H => (∀ j, i = some j → σ[j]? = some (some (.ref a))) ∧ m ≤ σ.length ∧ (∀ q ∈ ty, TyV d H q) ∧ ∀ C, cls = .ref C → sxE (i.getD 0) a cls d C sx σ H D.rt)) : PSs X body (tsX xc i m cs a cls d) :=
  ⟨fun pins s σ H D I q => by
    obtain ⟨c, ty, sx, hl, hc, hs, hm, ht, q⟩ := q
    exact (h c ty sx hl hc).run pins s σ H D I ⟨hs, hm, ht, q⟩⟩
/-! ### a def with defaults -/
structure FunP (K : PySem.W.Frag) (x qual : Str) (st : Stmt) (f : Addr) (fd : FuncData) : Prop where
  ex : ∃ (oc : Value) (od : Option Addr) (dV kV doc pm : Value) (an : Option Addr) (cdv ct : Value) (osl : Array (Option Value)),
    fd = PySem.W.fnOf x qual (defArgs st) (defBody st) (defScope st) dV kV doc pm an cdv ct ∧ K.lookup f = some ⟨oc, od, .func fd, osl⟩ ∧ PySem.W.codeIn K cdv qual = true
  kp : PySem.W.keepIn K (.ref f) = true
theorem funP_mk {K : PySem.W.Frag} {x qual : Str} {st : Stmt} {f : Addr} {oc : Value} {od an : Option Addr} {osl : Array (Option Value)} {dV kV doc pm cdv ct : Value} (l : K.lookup f = some ⟨oc, od, .func (PySem.W.fnOf x qual (defArgs st) (defBody st) (defScope st) dV kV doc pm an cdv ct), osl⟩)
    (c : PySem.W.codeIn K cdv qual = true) (k : PySem.W.keepIn K (.ref f) = true) : FunP K x qual st f (PySem.W.fnOf x qual (defArgs st) (defBody st) (defScope st) dV kV doc pm an cdv ct) := ⟨⟨oc, od, dV, kV, doc, pm, an, cdv, ct, osl, rfl, l, c⟩, k⟩
theorem fun_VP {CX : CXT} {P : Program} {w : World} {K : PySem.W.Frag} {mg : Str → Option Value} {base : Heap} {cl : ClT} {xc : XCl} {V0 : Nat → V} {tb : Nat → Fd} {x qual : Str} {st : Stmt} {f : Addr} {fd : FuncData} {N ps : List Str} {n g : Nat}
    (F : FunP K x qual st f fd) (S : FnScope N ps (defScope st)) (hn : ps.length = (tb g).args) (hm : N.length = (tb g).args + (tb g).more)
    (hbody : ∀ (cdv : Value) (A : Around) (outer : List Env) (s : Shared) (H : Hp) (E : XK), Room (n + 1) (A.deeper (envOfC qual (defScope st) s.heap.objs.size f cdv)) →
      PSs (cxOf CX P w K mg base N qual (defScope st) f cdv A outer s H E) (defBody st) (dS (envV K cl xc V0 tb n) (tb g).body (fun c d _ H' => E c d H'))) :
    FnOk P w K mg base CX (n + 1 + 1) f fd ps (spV K cl xc (tb g).args (run tb (n + 1) g)) := by
  obtain ⟨oc, od, dV, kV, doc, pm, an, cdv, ct, osl, rfl, lk, hcd⟩ := F.ex
  refine fn_of lk hcd S (fun vs H Q E h => h.1.trans hn.symm) fun A outer s H vs Q E hr h => ⟨_, hbody cdv A outer s H E hr, ?_⟩
  obtain ⟨hl, F0, L, es, S0, he, s0, p⟩ := h
  rw [run_succ] at p
  unfold runF at p
  split at p
  case isFalse => exact p.elim
  rename_i hes
  refine sS (harV n) (tb g).body _ S0 (L2.start N vs) F0 H L ?_ s0 _ _ (fin_ok s0 p fun c d σ σ' H' h => h)
  intro i en hi
  unfold L2.start
  have hlen : (vs.map some).length = (tb g).args := by simp [hl]
  rw [List.getElem?_append] at hi ⊢
  rw [hlen]
  rw [hes] at hi
  split at hi
  · rename_i hlt
    rw [if_pos hlt]
    exact he.2 i en hi
  · rename_i hlt
    rw [if_neg hlt]
    rw [hl, hm, Nat.add_sub_cancel_left]
    rw [List.getElem?_replicate] at hi ⊢
    split at hi
    · rename_i h2
      rw [if_pos h2]
      cases hi
      exact ⟨none, rfl, trivial⟩
    · cases hi
/-- binding where a tuple of defaults stands -/
theorem bindsP {K : PySem.W.Frag} {s : Shared} {fd : FuncData} {args : Args} {T : Addr} {o : Obj} {its : Array Value} {n : Nat} {bs : List (Str × Value)} (X : K.In s.heap) (lT : K.lookup T = some o) (oT : o.data = .seq its n)
    (h : ∃ k, bindArgs fd args = seqItems? (.ref T) >>= k ∧ k (some its) = pure bs) : BindsTo s fd args bs := by
  obtain ⟨k, e1, e2⟩ := h
  refine BindsTo.of_looks fun M => ?_
  rw [e1]
  exact looks_items X lT oT (.of_pure e2)
end VM
end

section
set_option Elab.async false
set_option linter.all false
set_option maxRecDepth 100000
set_option maxHeartbeats 4000000
namespace VM
open PySem PySem.Spec PyProof.Rows L2 DL
/-! ## isinstance of an error that has fields -/
theorem kin_classEd {prog : Program} {w : World} {A : Around} {E : Value → Shared → Prop} {s : Shared} {K : PySem.W.Frag} {x D : Addr} {ox od : Obj} {Q : Option Value → Shared → Prop}
  (hga : PySem.W.findIn K (Value.ref D) (Str.ofString "__getattribute__") = some (some (Value.builtin "BaseException.__getattribute__")))
  (hgt : PySem.W.findIn K (Value.ref D) (Str.ofString "__getattr__") = some none)
  (hsub : PySem.W.subIn K (Value.ref D) (Value.type "BaseException") = some true)
  (hdct : PySem.W.hasDictIn K D = true)
  (ha : PySem.W.findIn K (Value.ref D) (Str.ofString "__class__") = some (some (Value.builtin "object.__class__")))
  (hn : PySem.W.specialIn K (Value.builtin "object.__class__") (Str.ofString "__get__") = some (some (Value.builtin "getset_descriptor.__get__")))
  (htk : PySem.W.takesIn K (Value.builtin "object.__class__") = some true)
  (hm : PySem.W.mroIn K D (Value.type "object") = some true)
  (X : K.In s.heap) (I : PySem.W.InstAt s.heap x ox D (some od))
  (h : Q (some (Value.ref D)) { heap := s.heap, gens := s.gens, drawn := s.drawn, toks := s.toks + 1, os := s.os }) :
  wpAny (model prog w) A (getAttr? (Value.ref x) (Str.ofString "__class__")) Q E s := by
  have hf := PySem.W.findObj_data (od := od) (by obtain ⟨cd, hc, _⟩ := PySem.W.any_some hdct; rw [hc]; rfl) ha hn htk
  obtain ⟨hp, g, d, t, os⟩ := s
  have L0 := fun M => PySem.W.InstAt.type (M := M) I
  have L1 := fun M => PySem.W.looks_findIn (M := M) X hga
  have L2 := fun M => PySem.W.looks_findIn (M := M) X hgt
  have L3 := fun M => PySem.W.looks_find (M := M) X I hf
  have s1 := PySem.W.looks_subIn (M := model prog w) X hsub
  have sub : PySem.W.Looks (model prog w) hp (isInstance (Value.ref x) (Value.type "BaseException")) true := PySem.W.Looks.andThen (f := fun t => isSubtype t (Value.type "BaseException")) (L0 (model prog w)) s1
  have hx1 : (onTheHeap (Value.ref D) && (Value.builtin "BaseException.__getattribute__" == Value.builtin "object.__getattribute__")) = false := by rw [PySem.W.kin_classE._proof_1]; rfl
  unfold getAttr?
  refine wpAny_bind (wpAny_mkText (wpAny_bind (wpAny_attempt (wpAny_holding ?_))))
  refine wpAny_bind (PySem.W.Looks.at (L0 _) (wpAny_bind (PySem.W.Looks.at (L1 _) ?_)))
  show wpAny (model prog w) A (if (onTheHeap (Value.ref D) && (Value.builtin "BaseException.__getattribute__" == Value.builtin "object.__getattribute__")) = true then _ else getAttrByItsOwn _ _ _ _ false false) _ _ _
  rw [hx1, if_neg Bool.false_ne_true]
  unfold getAttrByItsOwn
  refine wpAny_bind ?_
  unfold hookBefore
  rw [if_pos (by rfl)]
  refine PySem.W.Looks.at (L2 _) (wpAny_bind (wpAny_attempt (wpAny_holding ?_)))
  unfold callGetattribute
  rw [show ∀ b : Bool, (false && b) = false from fun _ => rfl, if_neg Bool.false_ne_true]
  unfold boundAndCalled
  rw [F.excAttr_ValueError.ga.bind (Value.ref x)]
  refine wpAny_bind (wpAny_pure ?_)
  show wpAny (model prog w) A (call (Value.builtin "BaseException.__getattribute__") [Value.ref x, Value.str (Str.ofString "__class__") t]) _ _ _
  refine wpAny_call ?_
  refine codeAny_call_builtin F.excAttr_ValueError.ga.plain F.entry_bexc_ga ?_
  have p2 : builtinKind "BaseException.__getattribute__" = some Manifest.AttrKind.slot := PySem.W.kin_classE._proof_2
  have p3 : splitId "BaseException.__getattribute__" = some ("BaseException", "__getattribute__") := PySem.W.kin_classE._proof_3
  have p4 := F.args_bexc_ga (Value.ref x) (Value.str (Str.ofString "__class__") t)
  refine PySem.W.check_slot (i := "BaseException.__getattribute__") (owner := "BaseException") (n := "__getattribute__") (self := Value.ref x) (rest := [Value.str (Str.ofString "__class__") t]) (kw := []) p2 p3 sub p4 ?_
  refine wpAny_bind (wpAny_of_eq (Eq.refl (slotArgs "__getattribute__" 1 { pos := [Value.ref x, Value.str (Str.ofString "__class__") t] })) ?_)
  refine wpAny_bind (wpAny_pure ?_)
  refine wpAny_bind (PySem.W.Looks.at (L0 _) (wpAny_bind (PySem.W.Looks.at (L3 _) ?_)))
  show wpAny (model prog w) A.in1 (Builtin.ObjectAttr.bindTo (Value.builtin "getset_descriptor.__get__") (Value.builtin "object.__class__") (Value.ref x) (Value.ref D)) _ _ _
  unfold Builtin.ObjectAttr.bindTo
  refine wpAny_bind (wpAny_holding (wpAny_call (PySem.W.class_get X I hm (wpAny_pure ?_))))
  show wpAny (model prog w) A (handedOut (Value.ref D)) _ _ _
  rw [PySem.W.handedOut_of rfl]
  exact wpAny_pure (wpAny_pure h)
theorem kitx_excd {K : PySem.W.Frag} {x D : Addr} {ox od : Obj} (C : ExcC K D) : PySem.W.KitX K (Value.ref x) (Value.ref D) fun h => PySem.W.InstAt h x ox D (some od) := by
  have hcls : ∃ cls dict cd slots, List.lookup D K = some { cls := cls, dict := dict, data := Data.cls cd, slots := slots } := by
    obtain ⟨cd, hc, _⟩ := PySem.W.any_some C.hd
    unfold PySem.W.clsIn at hc
    split at hc
    · rename_i h
      exact ⟨_, _, _, _, h⟩
    · cases hc
  obtain ⟨cls, dict, cd, slots, hl⟩ := hcls
  refine ⟨fun M h _ I => PySem.W.InstAt.type I, fun M h X _ => ?_, fun h tp dd its n sl X htp => ?_, fun X I k => kin_classEd C.hg C.hk C.hs C.hd C.ha C.hn C.ht C.hm X I k⟩
  · intro A Q E s k q
    unfold isType
    exact wpAny_bind (wpAny_loadPart (k D _ (X D _ hl)) (wpAny_pure q))
  · refine Bool.eq_false_iff.mpr fun q => ?_
    have e := Value.ref.inj (beq_iff_eq.mp q)
    subst e
    have := (X D _ hl).symm.trans htp
    cases this
/-- isinstance(err, cv), err's class C, its dict d told -/
def rIsEd (K : PySem.W.Frag) (D a : Addr) (d : Option Addr) : List V → Hp → VK → Prop := fun xs H Q => ∃ c cv b dd vs, xs = [.ref a, c] ∧ (∀ u, RelV c u → u = cv) ∧ PySem.W.kitOne K (.ref D) cv = some b ∧ d = some dd ∧ H dd = some (HO.xd vs) ∧ Q (.bl b) H
theorem call_isEd {X : Cx} {a D : Addr} {d : Option Addr} {oe : Obj} {pn : List (Addr × Obj)} (C : ExcC X.K D) (hz : Zc (Value.ref D) d oe) (hf : ∃ vs, oe.data = Data.fields vs) : CallR (X.suite a ((a, oe) :: pn)) (Value.builtin "isinstance") (rIsEd X.K D a d) := by
  rintro pins s σ H xs us Q I r ⟨c, cv, b, dd, vs, rfl, hcv, hk, hd, hH, q⟩
  match us, r with
  | [u, u2], .cons rx (.cons rt .nil) =>
    obtain rfl : u = Value.ref a := rx
    obtain rfl := hcv u2 rt
    obtain ⟨hget, _⟩ := I.pin (a, oe) (List.mem_append.mpr (.inl List.mem_cons_self))
    obtain ⟨fs, hv⟩ := hf
    have hdd : ∃ od, s.heap.get? dd = some od := by
      have h := I.hok dd _ hH
      obtain ⟨mA, ⟨o, _, _, ho, _⟩, _⟩ := h
      exact ⟨o, ho⟩
    obtain ⟨od, hod⟩ := hdd
    obtain ⟨oc, odi, oda, osl⟩ := oe
    obtain ⟨h1, h2⟩ := hz
    simp only at h1 h2 hv
    subst h1
    subst h2
    subst hv
    subst hd
    have J : PySem.W.InstAt s.heap a { cls := Value.ref D, dict := some dd, data := Data.fields fs, slots := osl } D (some od) := ⟨hget, rfl, rfl, hod⟩
    have kI := Inv.kIn I
    exact PySem.W.kia_one (kitx_excd C) kI J hk (fun z => nomatch z) fun tk => ⟨V.bl b, H, Inv.kept I fun x _ z => z, rfl, q⟩
theorem bh_isEd {K : PySem.W.Frag} {σ : L2.St} {H : Hp} {E a : Addr} {d : Option Addr} {i : Nat} {v : V} {cv : Value} {b : Bool} {p : Str × Bool} (hs : σ[i]? = some (some (.ref a))) (ht : TyV d H p) (hv : ∀ u, RelV v u → u = cv) (hk : PySem.W.kitOne K (.ref E) cv = some b) :
    BH (tCB (rIsEd K E a d) (tCons (tVar i) (tCons (tC v) tNil))) σ H b := fun _ q => by
  obtain ⟨dd, vs, _, e, hH, _, _⟩ := ht
  exact ⟨_, hs, _, cv, b, dd, vs, rfl, hv, hk, e, hH, q⟩
/-! tests of except suites -/
def BT (t : TT) (σ : L2.St) (H : Hp) (b : Bool) : Prop := ∀ Q : Bool → Hp → Prop, Q b H → t σ H Q
section
variable {K : PySem.W.Frag} {σ : L2.St} {H : Hp} {ta : TE} {t1 t2 : TT} {x y : Bool} {D : Ends} {t u : TS}
theorem bt_of (h : BH ta σ H x) : BT (fun σ H Q => ta σ H fun v H' => ∃ k, TruV K v H' k ∧ Q k H') σ H x := fun _ q => h _ ⟨x, rfl, q⟩
theorem bt_and (h : BT t1 σ H x) (g : BT t2 σ H y) : BT (tAnd t1 t2) σ H (x && y) := fun Q q => h _ (by
  cases x with
  | true => exact g Q q
  | false => exact q)
theorem bt_or (h : BT t1 σ H x) (g : BT t2 σ H y) : BT (tOr t1 t2) σ H (x || y) := fun Q q => h _ (by
  cases x with
  | true => exact q
  | false => exact g Q q)
theorem bt_not (h : BT t1 σ H x) : BT (tNot t1) σ H (!x) := fun Q q => h _ q
theorem tfT (h : BT t1 σ H true) (q : t D σ H) : tIfS t1 t u D σ H := h _ ((if_pos rfl : (if true = true then _ else _) = _).mpr q)
theorem tfF (h : BT t1 σ H false) (q : u D σ H) : tIfS t1 t u D σ H := h _ ((if_neg Bool.false_ne_true).mpr q)
theorem tfN {D : Ends} {r : TS} (h : BT t1 σ H false) (q : r D σ H) : tNext { nx := tSeq (tIfS t1 t tNext) r D, rt := D.rt, bk := D.bk, ct := D.ct } σ H := tfF (t := t) (u := tNext) (D := { nx := r D, rt := D.rt, bk := D.bk, ct := D.ct }) h q
theorem tfeT {tx ty : TE} {Q : VK} (h : BT t1 σ H true) (q : tx σ H Q) : tIf t1 tx ty σ H Q := h _ ((if_pos rfl : (if true = true then _ else _) = _).mpr q)
theorem tfeF {tx ty : TE} {Q : VK} (h : BT t1 σ H false) (q : ty σ H Q) : tIf t1 tx ty σ H Q := h _ ((if_neg Bool.false_ne_true).mpr q)
end
end VM
end

section
set_option Elab.async false
set_option linter.all false
set_option maxRecDepth 100000
set_option maxHeartbeats 4000000
namespace VM
open PySem PySem.Spec PyProof.Rows L2 DL
/-! ## a try of several clauses, where the first one catches -/
def Res {α : Type} (M : Model) (Γ : PySem.Ctx) (m : Sem α) : Prop := ∀ (Q : α → Pos → Shared → Prop) p s, Sem.wp M Γ m Q (fun _ _ _ => False) p s → ∃ a p' s', Q a p' s'
theorem res_pure {α : Type} {M : Model} {Γ : PySem.Ctx} (a : α) : Res M Γ (pure a) := fun Q p s h => ⟨a, p, s, h⟩
theorem res_bind {α β : Type} {M : Model} {Γ : PySem.Ctx} {m : Sem α} {f : α → Sem β} (hm : Res M Γ m) (hf : ∀ a, Res M Γ (f a)) : Res M Γ (m >>= f) := by
  intro Q p s h
  change Sem.wp M Γ (Sem.bind _ _) _ _ _ _ at h
  rw [Sem.wp_bind] at h
  obtain ⟨a, p', s', h2⟩ := hm _ _ _ h
  exact hf a _ _ _ h2
theorem res_uns {α : Type} {M : Model} {Γ : PySem.Ctx} (x : String) : Res M Γ (unsupported x : Sem α) := fun Q p s h => h.elim
theorem res_load {M : Model} {Γ : PySem.Ctx} (a : Addr) : Res M Γ (load a) := by
  intro Q p s h
  obtain ⟨o, _, h⟩ := h
  exact ⟨o, p, s, h⟩
theorem res_field {M : Model} {Γ : PySem.Ctx} (e : Value) (i : Nat) : Res M Γ (field e i) := by
  unfold field
  refine res_bind ?_ fun l => ?_
  · unfold fieldsOf
    split
    · refine res_bind (res_load _) fun o => ?_
      split
      · exact res_pure _
      · exact res_uns _
    · exact res_uns _
  · split
    · exact res_pure _
    · exact res_uns _
theorem res_set {M : Model} {Γ : PySem.Ctx} (e : Value) (i : Nat) (v : Value) : Res M Γ (setField e i v) := by
  unfold setField
  split
  · unfold updateField
    refine res_bind (res_load _) fun o => ?_
    split
    · split
      · intro Q p s h
        exact ⟨_, _, _, h.2⟩
      · exact res_uns _
    · exact res_uns _
  · exact res_uns _
theorem res_flight {M : Model} {Γ : PySem.Ctx} (e : Value) (f : Option Addr) : Res M Γ (setFlight e f) := by
  unfold setFlight
  refine res_bind (res_field _ _) fun t => ?_
  split
  · exact res_set _ _ _
  · exact res_pure _
theorem res_pass {M : Model} {Γ : PySem.Ctx} (x : String) (e : Value) (env : Env) : Res M Γ (PySem.passOn x e env : Sem Flow) := by
  unfold PySem.passOn
  refine res_bind (res_field _ _) fun t => ?_
  have key : Res M Γ (do
        setFlight e env.frame
        throw e : Sem Flow) := res_bind (res_flight _ _) fun _ => fun Q p s h => h.elim
  split
  · exact res_bind (res_uns _) fun _ => key
  · exact key
theorem no_pass {M : Model} {Γ : PySem.Ctx} {x : String} {e : Value} {env : Env} {Q : Flow → Pos → Shared → Prop} {p : Pos} {s : Shared} (h : Sem.wp M Γ (PySem.passOn x e env) Q (fun _ _ _ => False) p s) : False := by
  unfold PySem.passOn at h
  change Sem.wp M Γ (Sem.bind _ _) _ _ _ _ at h
  rw [Sem.wp_bind] at h
  obtain ⟨a, p', s', h⟩ := res_field _ _ _ _ _ h
  have key : ∀ p s, Sem.wp M Γ (do
        setFlight e env.frame
        throw e : Sem Flow) Q (fun _ _ _ => False) p s → False := by
    intro p s h
    change Sem.wp M Γ (Sem.bind _ _) _ _ _ _ at h
    rw [Sem.wp_bind] at h
    obtain ⟨_, _, _, h⟩ := res_flight _ _ _ _ _ h
    exact h
  split at h
  · change Sem.wp M Γ (Sem.bind _ _) _ _ _ _ at h
    rw [Sem.wp_bind] at h
    obtain ⟨_, _, _, h⟩ := res_uns _ _ _ _ h
    exact key _ _ h
  · exact key _ _ h
theorem handle_two {M : Model} {Γ : PySem.Ctx} {e : Value} {env : Env} {t : Expr} {name : Option Str} {body : List Stmt} {pos : Pos} {rest : List ExceptHandler} {Q : Flow → Pos → Shared → Prop} {p : Pos} {s : Shared}
    (h : Sem.wp M Γ (handleBy e env [ExceptHandler.ExceptHandler (some t) name body pos]) Q (fun _ _ _ => False) p s) :
    Sem.wp M Γ (handleBy e env (ExceptHandler.ExceptHandler (some t) name body pos :: rest)) Q (fun _ _ _ => False) p s := by
  rw [handleBy.eq_3] at h ⊢
  change Sem.wp M Γ (Sem.bind _ _) _ _ _ _ at h
  change Sem.wp M Γ (Sem.bind _ _) _ _ _ _
  rw [Sem.wp_bind] at h ⊢
  refine Sem.wp_mono _ _ _ (fun f p s h => ?_) (fun _ _ _ h => h) _ _ h
  have no : ∀ p s, Sem.wp M Γ (handleBy e env []) Q (fun _ _ _ => False) p s → Sem.wp M Γ (handleBy e env rest) Q (fun _ _ _ => False) p s := by
    intro p s h
    rw [handleBy.eq_1] at h
    exact (no_pass h).elim
  cases f with
  | brk => exact h
  | next => exact no _ _ h
  | cont => exact no _ _ h
  | ret v => exact no _ _ h
theorem try_two {M : Model} {Γ : PySem.Ctx} {b o : Sem Flow} {t : Expr} {name : Option Str} {body : List Stmt} {pos : Pos} {rest : List ExceptHandler} {env : Env} {Q : Flow → Pos → Shared → Prop} {p : Pos} {s : Shared}
    (h : Sem.wp M Γ (tryStmt false b [ExceptHandler.ExceptHandler (some t) name body pos] o [] env) Q (fun _ _ _ => False) p s) :
    Sem.wp M Γ (tryStmt false b (ExceptHandler.ExceptHandler (some t) name body pos :: rest) o [] env) Q (fun _ _ _ => False) p s := by
  unfold tryStmt at h ⊢
  simp only [List.isEmpty_nil, if_true] at h ⊢
  change Sem.wp M Γ (Sem.bind _ _) _ _ _ _ at h
  change Sem.wp M Γ (Sem.bind _ _) _ _ _ _
  rw [Sem.wp_bind] at h ⊢
  refine Sem.wp_mono _ _ _ (fun r p s h => ?_) (fun _ _ _ h => h) _ _ h
  match r with
  | .ok Flow.next => exact h
  | .ok Flow.brk => exact h
  | .ok Flow.cont => exact h
  | .ok (Flow.ret v) => exact h
  | .error e =>
    change Sem.wp M Γ (Sem.bind _ _) _ _ _ _ at h
    change Sem.wp M Γ (Sem.bind _ _) _ _ _ _
    rw [Sem.wp_bind] at h ⊢
    refine Sem.wp_mono _ _ _ (fun _ p s h => ?_) (fun _ _ _ h => h) _ _ h
    change Sem.wp M Γ (Sem.bind _ _) _ _ _ _ at h
    change Sem.wp M Γ (Sem.bind _ _) _ _ _ _
    rw [Sem.wp_bind] at h ⊢
    refine Sem.wp_mono _ _ _ (fun _ p s h => ?_) (fun _ _ _ h => h) _ _ h
    exact handle_two h
theorem ps_two {X : Cx} {body : List Stmt} {t : Expr} {name : Option Str} {suite : List Stmt} {p1 pos : Pos} {rest : List ExceptHandler} {u : TS} (hn : X.xe = fun _ _ => False)
    (h : PS X (.Try body [ExceptHandler.ExceptHandler (some t) name suite p1] [] [] pos) u) : PS X (.Try body (ExceptHandler.ExceptHandler (some t) name suite p1 :: rest) [] [] pos) u := by
  refine ⟨fun pins s σ H D I q => ?_⟩
  have hw := h.run pins s σ H D I q
  rw [hn] at hw ⊢
  intro Γ p hΓ
  have h1 := hw Γ p hΓ
  rw [PySem.arm_exec_Try] at h1 ⊢
  change Sem.wp _ Γ (Sem.bind _ _) _ _ _ _ at h1
  change Sem.wp _ Γ (Sem.bind _ _) _ _ _ _
  rw [Sem.wp_bind] at h1 ⊢
  exact Sem.wp_mono _ _ _ (fun _ p s h => try_two h) (fun _ _ _ h => h) _ _ h1
end VM
end

section
set_option Elab.async false
set_option linter.all false
set_option maxRecDepth 100000
set_option maxHeartbeats 4000000
/-! the evaluator's equations with named continuations: simp walks them without going under a lambda -/
namespace VM
open PySem PySem.Spec PyProof.Rows L2 DL
noncomputable section
variable {cb : CB} {ρ : Rho} {S : Stv}
@[simp] theorem evE_con (cb : CB) (ρ : Rho) (S : Stv) (d : PyData) : evE cb ρ S (.con d) = if isC d = true then okD d S else .bad := rfl
@[simp] theorem evE_glb (cb : CB) (ρ : Rho) (S : Stv) (k : Nat) (d : PyData) : evE cb ρ S (.glb k d) = okD d S := rfl
def varR (e : Option En) (S : Stv) : Out Rv := match e with
  | some (.dt d) => .ok (.v d) S
  | some (.mu n) => .ok (.mu n) S
  | _ => .bad
@[simp] theorem varR_dt (d : PyData) (S : Stv) : varR (some (.dt d)) S = .ok (.v d) S := rfl
@[simp] theorem varR_mu (n : Nat) (S : Stv) : varR (some (.mu n)) S = .ok (.mu n) S := rfl
@[simp] theorem evE_var (cb : CB) (ρ : Rho) (S : Stv) (i : Nat) : evE cb ρ S (.var i) = varR ρ[i]? S := rfl
def kBin2 (o : Bop) (x : Rv) : Rv → Stv → Out Rv := fun y S => binR o x y S
@[simp] theorem kBin2_ap (o : Bop) (x : Rv) (y : Rv) (S : Stv) : kBin2 o x y S = binR o x y S := rfl
def kBin1 (cb : CB) (ρ : Rho) (o : Bop) (b : Ex) : Rv → Stv → Out Rv := fun x S => (evE cb ρ S b).bind (kBin2 o x)
@[simp] theorem kBin1_ap (cb : CB) (ρ : Rho) (o : Bop) (b : Ex) (x : Rv) (S : Stv) : kBin1 cb ρ o b x S = (evE cb ρ S b).bind (kBin2 o x) := rfl
@[simp] theorem evE_bin (cb : CB) (ρ : Rho) (S : Stv) (o : Bop) (a b : Ex) : evE cb ρ S (.bin o a b) = (evE cb ρ S a).bind (kBin1 cb ρ o b) := rfl
def negR (x : Rv) (S : Stv) : Out Rv := match x with
  | .v (.int i) => okD (.int (-i)) S
  | _ => .bad
@[simp] theorem negR_int (i : Int) (S : Stv) : negR (.v (.int i)) S = .ok (.v (.int (-i))) S := rfl
@[simp] theorem evE_neg (cb : CB) (ρ : Rho) (S : Stv) (a : Ex) : evE cb ρ S (.neg a) = (evE cb ρ S a).bind negR := rfl
def kNot2  : Bool → Stv → Out Rv := fun b S => okD (.bool (!b)) S
@[simp] theorem kNot2_ap  (b : Bool) (S : Stv) : kNot2  b S = okD (.bool (!b)) S := rfl
def kNot1  : Rv → Stv → Out Rv := fun x S => (truO x S).bind kNot2
@[simp] theorem kNot1_ap  (x : Rv) (S : Stv) : kNot1  x S = (truO x S).bind kNot2 := rfl
@[simp] theorem evE_not (cb : CB) (ρ : Rho) (S : Stv) (a : Ex) : evE cb ρ S (.not a) = (evE cb ρ S a).bind kNot1 := rfl
def kAnd2 (cb : CB) (ρ : Rho) (b : Ex) (x : Rv) : Bool → Stv → Out Rv := fun k S => if k = true then evE cb ρ S b else .ok x S
@[simp] theorem kAnd2_ap (cb : CB) (ρ : Rho) (b : Ex) (x : Rv) (k : Bool) (S : Stv) : kAnd2 cb ρ b x k S = if k = true then evE cb ρ S b else .ok x S := rfl
def kAnd1 (cb : CB) (ρ : Rho) (b : Ex) : Rv → Stv → Out Rv := fun x S => (truO x S).bind (kAnd2 cb ρ b x)
@[simp] theorem kAnd1_ap (cb : CB) (ρ : Rho) (b : Ex) (x : Rv) (S : Stv) : kAnd1 cb ρ b x S = (truO x S).bind (kAnd2 cb ρ b x) := rfl
@[simp] theorem evE_and (cb : CB) (ρ : Rho) (S : Stv) (a b : Ex) : evE cb ρ S (.and a b) = (evE cb ρ S a).bind (kAnd1 cb ρ b) := rfl
def kOr2 (cb : CB) (ρ : Rho) (b : Ex) (x : Rv) : Bool → Stv → Out Rv := fun k S => if k = true then .ok x S else evE cb ρ S b
@[simp] theorem kOr2_ap (cb : CB) (ρ : Rho) (b : Ex) (x : Rv) (k : Bool) (S : Stv) : kOr2 cb ρ b x k S = if k = true then .ok x S else evE cb ρ S b := rfl
def kOr1 (cb : CB) (ρ : Rho) (b : Ex) : Rv → Stv → Out Rv := fun x S => (truO x S).bind (kOr2 cb ρ b x)
@[simp] theorem kOr1_ap (cb : CB) (ρ : Rho) (b : Ex) (x : Rv) (S : Stv) : kOr1 cb ρ b x S = (truO x S).bind (kOr2 cb ρ b x) := rfl
@[simp] theorem evE_or (cb : CB) (ρ : Rho) (S : Stv) (a b : Ex) : evE cb ρ S (.or a b) = (evE cb ρ S a).bind (kOr1 cb ρ b) := rfl
def kIfe (cb : CB) (ρ : Rho) (a b : Ex) : Bool → Stv → Out Rv := fun k S => if k = true then evE cb ρ S a else evE cb ρ S b
@[simp] theorem kIfe_ap (cb : CB) (ρ : Rho) (a b : Ex) (k : Bool) (S : Stv) : kIfe cb ρ a b k S = if k = true then evE cb ρ S a else evE cb ρ S b := rfl
@[simp] theorem evE_ife (cb : CB) (ρ : Rho) (S : Stv) (c : Tx) (a b : Ex) : evE cb ρ S (.ife c a b) = (evT cb ρ S c).bind (kIfe cb ρ a b) := rfl
def kBl  : Bool → Stv → Out Rv := fun k S => okD (.bool k) S
@[simp] theorem kBl_ap  (k : Bool) (S : Stv) : kBl  k S = okD (.bool k) S := rfl
def kCmp2 (o : Cop) (x : Rv) : Rv → Stv → Out Rv := fun y S => (cmpO o x y S).bind kBl
@[simp] theorem kCmp2_ap (o : Cop) (x : Rv) (y : Rv) (S : Stv) : kCmp2 o x y S = (cmpO o x y S).bind kBl := rfl
def kCmp1 (cb : CB) (ρ : Rho) (o : Cop) (b : Ex) : Rv → Stv → Out Rv := fun x S => (evE cb ρ S b).bind (kCmp2 o x)
@[simp] theorem kCmp1_ap (cb : CB) (ρ : Rho) (o : Cop) (b : Ex) (x : Rv) (S : Stv) : kCmp1 cb ρ o b x S = (evE cb ρ S b).bind (kCmp2 o x) := rfl
@[simp] theorem evE_cmp (cb : CB) (ρ : Rho) (S : Stv) (o : Cop) (a b : Ex) : evE cb ρ S (.cmp o a b) = (evE cb ρ S a).bind (kCmp1 cb ρ o b) := rfl
def kChn3 (cb : CB) (ρ : Rho) (o' : Cop) (y : Rv) (c : Ex) : Bool → Stv → Out Rv := fun k S => if k = true then (evE cb ρ S c).bind (kCmp2 o' y) else okD (.bool false) S
@[simp] theorem kChn3_ap (cb : CB) (ρ : Rho) (o' : Cop) (y : Rv) (c : Ex) (k : Bool) (S : Stv) : kChn3 cb ρ o' y c k S = if k = true then (evE cb ρ S c).bind (kCmp2 o' y) else okD (.bool false) S := rfl
def kChn2 (cb : CB) (ρ : Rho) (o o' : Cop) (x : Rv) (c : Ex) : Rv → Stv → Out Rv := fun y S => (cmpO o x y S).bind (kChn3 cb ρ o' y c)
@[simp] theorem kChn2_ap (cb : CB) (ρ : Rho) (o o' : Cop) (x : Rv) (c : Ex) (y : Rv) (S : Stv) : kChn2 cb ρ o o' x c y S = (cmpO o x y S).bind (kChn3 cb ρ o' y c) := rfl
def kChn1 (cb : CB) (ρ : Rho) (o o' : Cop) (b c : Ex) : Rv → Stv → Out Rv := fun x S => (evE cb ρ S b).bind (kChn2 cb ρ o o' x c)
@[simp] theorem kChn1_ap (cb : CB) (ρ : Rho) (o o' : Cop) (b c : Ex) (x : Rv) (S : Stv) : kChn1 cb ρ o o' b c x S = (evE cb ρ S b).bind (kChn2 cb ρ o o' x c) := rfl
@[simp] theorem evE_chn (cb : CB) (ρ : Rho) (S : Stv) (o o' : Cop) (a b c : Ex) : evE cb ρ S (.chn o o' a b c) = (evE cb ρ S a).bind (kChn1 cb ρ o o' b c) := rfl
def tupR (ens : List En) (S : Stv) : Out Rv := if ens.length ≤ big then match enDs ens with
    | some ds => okD (.tuple ds) S
    | none => .bad
    else .bad
def lstN (ens : List En) (S : Stv) : Out Rv := if ens.length ≤ big then match enDs ens with
    | some ds => .ok (.nw (.lst ds)) S
    | none => .ok (.nw (.lse ens)) S
    else .bad
@[simp] theorem tupR_eq (ens : List En) (S : Stv) : tupR ens S = if ens.length ≤ big then match enDs ens with
    | some ds => okD (.tuple ds) S
    | none => .bad
    else .bad := rfl
@[simp] theorem lstN_eq (ens : List En) (S : Stv) : lstN ens S = if ens.length ≤ big then match enDs ens with
    | some ds => .ok (.nw (.lst ds)) S
    | none => .ok (.nw (.lse ens)) S
    else .bad := rfl
@[simp] theorem evE_tup (cb : CB) (ρ : Rho) (S : Stv) (es : Exs) : evE cb ρ S (.tup es) = (evA cb ρ S es).bind tupR := rfl
@[simp] theorem evE_lst (cb : CB) (ρ : Rho) (S : Stv) (es : Exs) : evE cb ρ S (.lst es) = (evA cb ρ S es).bind lstN := rfl
@[simp] theorem evE_ndw (cb : CB) (ρ : Rho) (S : Stv) (t : Bool) : evE cb ρ S (.ndw t) = .ok (.nw (.dcn t [])) S := rfl
def kXm2 (m : Xmt) (x : Rv) : List Rv → Stv → Out Rv := fun ys S => xmO m x ys S
@[simp] theorem kXm2_ap (m : Xmt) (x : Rv) (ys : List Rv) (S : Stv) : kXm2 m x ys S = xmO m x ys S := rfl
def kXm1 (cb : CB) (ρ : Rho) (m : Xmt) (es : Exs) : Rv → Stv → Out Rv := fun x S => if xmB m x S = true then (evR cb ρ S es).bind (kXm2 m x) else .bad
@[simp] theorem kXm1_ap (cb : CB) (ρ : Rho) (m : Xmt) (es : Exs) (x : Rv) (S : Stv) : kXm1 cb ρ m es x S = if xmB m x S = true then (evR cb ρ S es).bind (kXm2 m x) else .bad := rfl
@[simp] theorem evE_xm (cb : CB) (ρ : Rho) (S : Stv) (m : Xmt) (e : Ex) (es : Exs) : evE cb ρ S (.xm m e es) = (evE cb ρ S e).bind (kXm1 cb ρ m es) := rfl
@[simp] theorem xmO_nin (neg : Bool) (k : PyData) (n : Nat) (S : Stv) : xmO (.nin neg) (.v k) [.mu n] S = match S[n]? with
    | some (.dcn t kvs) => match gfind t kvs k with
      | some o => okD (.bool (if neg = true then !o.isSome else o.isSome)) S
      | none => .bad
    | _ => .bad := rfl
@[simp] theorem xmO_nix (k : PyData) (n : Nat) (S : Stv) : xmO .nix (.mu n) [.v k] S = match S[n]? with
    | some (.dcn t kvs) => match gfind t kvs k with
      | some (some e) => okD e S
      | _ => .bad
    | _ => .bad := rfl
@[simp] theorem xmO_nget (k : PyData) (n : Nat) (S : Stv) : xmO .nget (.mu n) [.v k] S = match S[n]? with
    | some (.dcn t kvs) => match gfind t kvs k with
      | some o => okD (o.getD .none) S
      | none => .bad
    | _ => .bad := rfl
@[simp] theorem xmO_nget2 (k z : PyData) (n : Nat) (S : Stv) : xmO .nget2 (.mu n) [.v k, .v z] S = match S[n]? with
    | some (.dcn t kvs) => match gfind t kvs k with
      | some o => okD (o.getD z) S
      | none => .bad
    | _ => .bad := rfl
@[simp] theorem xmO_nkeys (n : Nat) (S : Stv) : xmO .nkeys (.mu n) [] S = match S[n]? with
    | some (.dcn true kvs) => .ok (.nw (.lst (kvs.map (·.1)))) S
    | _ => .bad := rfl
@[simp] theorem xmO_nvals (n : Nat) (S : Stv) : xmO .nvals (.mu n) [] S = match S[n]? with
    | some (.dcn t kvs) => .ok (.nw (.lst (kvs.map (·.2)))) S
    | _ => .bad := rfl
@[simp] theorem xmO_nlen (n : Nat) (S : Stv) : xmO .nlen (.mu n) [] S = match S[n]? with
    | some (.dcn t kvs) => okD (.int (kvs.length : Int)) S
    | _ => .bad := rfl
@[simp] theorem evE_dnw (cb : CB) (ρ : Rho) (S : Stv) (t : Bool) : evE cb ρ S (.dnw t) = .ok (.nw (.dct t [])) S := rfl
def kIdx2 (x : Rv) : Rv → Stv → Out Rv := fun y S => idxO x y S
@[simp] theorem kIdx2_ap (x : Rv) (y : Rv) (S : Stv) : kIdx2 x y S = idxO x y S := rfl
def kIdx1 (cb : CB) (ρ : Rho) (i : Ex) : Rv → Stv → Out Rv := fun x S => (evE cb ρ S i).bind (kIdx2 x)
@[simp] theorem kIdx1_ap (cb : CB) (ρ : Rho) (i : Ex) (x : Rv) (S : Stv) : kIdx1 cb ρ i x S = (evE cb ρ S i).bind (kIdx2 x) := rfl
@[simp] theorem evE_idx (cb : CB) (ρ : Rho) (S : Stv) (a i : Ex) : evE cb ρ S (.idx a i) = (evE cb ρ S a).bind (kIdx1 cb ρ i) := rfl
def kSlc3 (x : Rv) (l : Option Int) : Option Int → Stv → Out Rv := fun h S => slcO x l h S
@[simp] theorem kSlc3_ap (x : Rv) (l : Option Int) (h : Option Int) (S : Stv) : kSlc3 x l h S = slcO x l h S := rfl
def kSlc2 (cb : CB) (ρ : Rho) (hi : Exo) (x : Rv) : Option Int → Stv → Out Rv := fun l S => (evO cb ρ S hi).bind (kSlc3 x l)
@[simp] theorem kSlc2_ap (cb : CB) (ρ : Rho) (hi : Exo) (x : Rv) (l : Option Int) (S : Stv) : kSlc2 cb ρ hi x l S = (evO cb ρ S hi).bind (kSlc3 x l) := rfl
def kSlc1 (cb : CB) (ρ : Rho) (lo hi : Exo) : Rv → Stv → Out Rv := fun x S => (evO cb ρ S lo).bind (kSlc2 cb ρ hi x)
@[simp] theorem kSlc1_ap (cb : CB) (ρ : Rho) (lo hi : Exo) (x : Rv) (S : Stv) : kSlc1 cb ρ lo hi x S = (evO cb ρ S lo).bind (kSlc2 cb ρ hi x) := rfl
@[simp] theorem evE_slc (cb : CB) (ρ : Rho) (S : Stv) (a : Ex) (lo hi : Exo) : evE cb ρ S (.slc a lo hi) = (evE cb ρ S a).bind (kSlc1 cb ρ lo hi) := rfl
def kCall (cb : CB1) (f : Nat) : List En → Stv → Out Rv := fun ens S => callC cb f ens S
@[simp] theorem kCall_ap (cb : CB1) (f : Nat) (ens : List En) (S : Stv) : kCall cb f ens S = callC cb f ens S := rfl
@[simp] theorem evE_call (cb : CB) (ρ : Rho) (S : Stv) (f : Nat) (es : Exs) : evE cb ρ S (.call f es) = (evA cb ρ S es).bind (kCall (cb false) f) := rfl
def kMth2 (cb : CB1) (f n : Nat) : List En → Stv → Out Rv := fun ens S => callC cb f (.mu n :: ens) S
@[simp] theorem kMth2_ap (cb : CB1) (f n : Nat) (ens : List En) (S : Stv) : kMth2 cb f n ens S = callC cb f (.mu n :: ens) S := rfl
def mthR (cb : CB) (ρ : Rho) (c f : Nat) (m : Str) (es : Exs) (x : Rv) (S : Stv) : Out Rv := match x with
    | .mu n => match S[n]? with
      | some (.obj c' fs) => if c' = c ∧ fs.lookup m = none then (evA cb ρ S es).bind (kMth2 (cb false) f n) else .bad
      | _ => .bad
    | _ => .bad
@[simp] theorem mthR_mu (cb : CB) (ρ : Rho) (c f : Nat) (m : Str) (es : Exs) (n : Nat) (S : Stv) : mthR cb ρ c f m es (.mu n) S = match S[n]? with
      | some (.obj c' fs) => if c' = c ∧ fs.lookup m = none then (evA cb ρ S es).bind (kMth2 (cb false) f n) else .bad
      | _ => .bad := rfl
@[simp] theorem evE_mth (cb : CB) (ρ : Rho) (S : Stv) (c f : Nat) (m : Str) (o : Ex) (es : Exs) : evE cb ρ S (.mth c f m o es) = (evE cb ρ S o).bind (mthR cb ρ c f m es) := rfl
def kMak2 (n : Nat) : Rv → Stv → Out Rv := fun r S => match r with
    | .v .none => .ok (.mu n) S
    | _ => .bad
@[simp] theorem kMak2_none (n : Nat) (S : Stv) : kMak2 n (.v .none) S = .ok (.mu n) S := rfl
def kMak1 (cb : CB1) (c f : Nat) : List En → Stv → Out Rv := fun ens S => (callC cb f (.mu S.length :: ens) (S ++ [.obj c []])).bind (kMak2 S.length)
@[simp] theorem kMak1_ap (cb : CB1) (c f : Nat) (ens : List En) (S : Stv) : kMak1 cb c f ens S = (callC cb f (.mu S.length :: ens) (S ++ [.obj c []])).bind (kMak2 S.length) := rfl
@[simp] theorem evE_mak (cb : CB) (ρ : Rho) (S : Stv) (c f : Nat) (es : Exs) : evE cb ρ S (.mak c f es) = (evA cb ρ S es).bind (kMak1 (cb true) c f) := rfl
def fldR (m : Str) (x : Rv) (S : Stv) : Out Rv := match x with
    | .mu n => match S[n]? with
      | some (.obj _ fs) => match fs.lookup m with
        | some (.dt d) => okD d S
        | some (.mu k) => .ok (.mu k) S
        | _ => .bad
      | _ => .bad
    | _ => .bad
@[simp] theorem fldR_mu (m : Str) (n : Nat) (S : Stv) : fldR m (.mu n) S = match S[n]? with
      | some (.obj _ fs) => match fs.lookup m with
        | some (.dt d) => okD d S
        | some (.mu k) => .ok (.mu k) S
        | _ => .bad
      | _ => .bad := rfl
def isiR (T : String) (x : Rv) (S : Stv) : Out Rv := match x with
    | .v d => match kitB (tyD d) T with
      | some b => okD (.bool b) S
      | none => .bad
    | .nw (.lst _) => match kitB "list" T with
      | some b => okD (.bool b) S
      | none => .bad
    | .mu n => match S[n]? with
      | some (.lst _) => match kitB "list" T with
        | some b => okD (.bool b) S
        | none => .bad
      | _ => .bad
    | _ => .bad
@[simp] theorem isiR_v (T : String) (d : PyData) (S : Stv) : isiR T (.v d) S = match kitB (tyD d) T with
      | some b => okD (.bool b) S
      | none => .bad := rfl
@[simp] theorem evE_fld (cb : CB) (ρ : Rho) (S : Stv) (m : Str) (o : Ex) : evE cb ρ S (.fld m o) = (evE cb ρ S o).bind (fldR m) := rfl
@[simp] theorem evE_isi (cb : CB) (ρ : Rho) (S : Stv) (T : String) (a : Ex) : evE cb ρ S (.isi T a) = (evE cb ρ S a).bind (isiR T) := rfl
def kBi (b : Bif) : List Rv → Stv → Out Rv := fun xs S => biO b xs S
@[simp] theorem kBi_ap (b : Bif) (xs : List Rv) (S : Stv) : kBi b xs S = biO b xs S := rfl
@[simp] theorem evE_bi (cb : CB) (ρ : Rho) (S : Stv) (b : Bif) (es : Exs) : evE cb ρ S (.bi b es) = (evR cb ρ S es).bind (kBi b) := rfl
def kBm2 (b : Bmt) (x : Rv) : List Rv → Stv → Out Rv := fun xs S => bmO b x xs S
@[simp] theorem kBm2_ap (b : Bmt) (x : Rv) (xs : List Rv) (S : Stv) : kBm2 b x xs S = bmO b x xs S := rfl
def kBm1 (cb : CB) (ρ : Rho) (b : Bmt) (es : Exs) : Rv → Stv → Out Rv := fun x S => if (bmT b x S && bmA b es) = true then (evR cb ρ S es).bind (kBm2 b x) else .bad
@[simp] theorem kBm1_ap (cb : CB) (ρ : Rho) (b : Bmt) (es : Exs) (x : Rv) (S : Stv) : kBm1 cb ρ b es x S = if (bmT b x S && bmA b es) = true then (evR cb ρ S es).bind (kBm2 b x) else .bad := rfl
@[simp] theorem evE_bm (cb : CB) (ρ : Rho) (S : Stv) (b : Bmt) (o : Ex) (es : Exs) : evE cb ρ S (.bm b o es) = (evE cb ρ S o).bind (kBm1 cb ρ b es) := rfl
def lcT (cb : CB) (c : Txo) : Rho → Stv → Out Bool := fun ρ S => evC cb ρ S c
def lcE (cb : CB) (e : Ex) : Rho → Stv → Out Rv := fun ρ S => evE cb ρ S e
@[simp] theorem lcT_ap (cb : CB) (c : Txo) (ρ : Rho) (S : Stv) : lcT cb c ρ S = evC cb ρ S c := rfl
@[simp] theorem lcE_ap (cb : CB) (e : Ex) (ρ : Rho) (S : Stv) : lcE cb e ρ S = evE cb ρ S e := rfl
def kLc2  : List PyData → Stv → Out Rv := fun ds S => .ok (.nw (.lst ds)) S
@[simp] theorem kLc2_ap  (ds : List PyData) (S : Stv) : kLc2  ds S = .ok (.nw (.lst ds)) S := rfl
def kLc1 (cb : CB) (ρ : Rho) (ws : List Nat) (g : Tgt) (c : Txo) (e : Ex) : Items → Stv → Out Rv := fun is S => if is.1.length ≤ big ∧ tgIn g ws = true then (lcF (lcT cb c) (lcE cb e) (bindE g) is.2 S.length (wipeR ρ ws) is.1 [] S).bind kLc2 else .bad
@[simp] theorem kLc1_ap (cb : CB) (ρ : Rho) (ws : List Nat) (g : Tgt) (c : Txo) (e : Ex) (is : Items) (S : Stv) : kLc1 cb ρ ws g c e is S = if is.1.length ≤ big ∧ tgIn g ws = true then (lcF (lcT cb c) (lcE cb e) (bindE g) is.2 S.length (wipeR ρ ws) is.1 [] S).bind kLc2 else .bad := rfl
@[simp] theorem evE_lc (cb : CB) (ρ : Rho) (S : Stv) (ws : List Nat) (g : Tgt) (it : Itr) (c : Txo) (e : Ex) : evE cb ρ S (.lc ws g it c e) = (evI cb ρ S it).bind (kLc1 cb ρ ws g c e) := rfl
def kLrg2 (x : Option Int) (t : Bool) : Rv → Stv → Out Rv := fun y S => match x.getD 0, y with
    | i, .v (.int j) => if -1000000 ≤ i ∧ i ≤ 1000000 ∧ -1000000 ≤ j ∧ j ≤ 1000000 then (if t = true then okD (.tuple (rngD i (j - i).toNat)) S else .ok (.nw (.lst (rngD i (j - i).toNat))) S) else .bad
    | _, _ => .bad
@[simp] theorem kLrg2_ap (x : Option Int) (t : Bool) (j : Int) (S : Stv) : kLrg2 x t (.v (.int j)) S = if -1000000 ≤ x.getD 0 ∧ x.getD 0 ≤ 1000000 ∧ -1000000 ≤ j ∧ j ≤ 1000000 then (if t = true then okD (.tuple (rngD (x.getD 0) (j - x.getD 0).toNat)) S else .ok (.nw (.lst (rngD (x.getD 0) (j - x.getD 0).toNat))) S) else .bad := rfl
def kLrg1 (cb : CB) (ρ : Rho) (b : Ex) (t : Bool) : Option Int → Stv → Out Rv := fun x S => (evE cb ρ S b).bind (kLrg2 x t)
@[simp] theorem kLrg1_ap (cb : CB) (ρ : Rho) (b : Ex) (t : Bool) (x : Option Int) (S : Stv) : kLrg1 cb ρ b t x S = (evE cb ρ S b).bind (kLrg2 x t) := rfl
@[simp] theorem evE_lrg (cb : CB) (ρ : Rho) (S : Stv) (a : Exo) (b : Ex) (t : Bool) : evE cb ρ S (.lrg a b t) = (evO cb ρ S a).bind (kLrg1 cb ρ b t) := rfl
def ownR (x : Rv) (S : Stv) : Out Rv := match x with
    | .nw .gone => .bad
    | .nw c => .ok (.mu S.length) (S ++ [c])
    | _ => .bad
@[simp] theorem ownR_lst (ds : List PyData) (S : Stv) : ownR (.nw (.lst ds)) S = .ok (.mu S.length) (S ++ [.lst ds]) := rfl
@[simp] theorem ownR_lse (ds : List En) (S : Stv) : ownR (.nw (.lse ds)) S = .ok (.mu S.length) (S ++ [.lse ds]) := rfl
@[simp] theorem ownR_dct (t : Bool) (ds : List (PyData × PyData)) (S : Stv) : ownR (.nw (.dct t ds)) S = .ok (.mu S.length) (S ++ [.dct t ds]) := rfl
@[simp] theorem ownR_dcn (t : Bool) (ds : List (PyData × PyData)) (S : Stv) : ownR (.nw (.dcn t ds)) S = .ok (.mu S.length) (S ++ [.dcn t ds]) := rfl
@[simp] theorem ownR_obj (c : Nat) (ds : List (Str × En)) (S : Stv) : ownR (.nw (.obj c ds)) S = .ok (.mu S.length) (S ++ [.obj c ds]) := rfl
@[simp] theorem evE_own (cb : CB) (ρ : Rho) (S : Stv) (e : Ex) : evE cb ρ S (.own e) = (evE cb ρ S e).bind ownR := rfl
@[simp] theorem evT_val (cb : CB) (ρ : Rho) (S : Stv) (e : Ex) : evT cb ρ S (.val e) = (evE cb ρ S e).bind truO := rfl
def kTn  : Bool → Stv → Out Bool := fun b S => .ok (!b) S
@[simp] theorem kTn_ap  (b : Bool) (S : Stv) : kTn  b S = .ok (!b) S := rfl
@[simp] theorem evT_not (cb : CB) (ρ : Rho) (S : Stv) (a : Tx) : evT cb ρ S (.not a) = (evT cb ρ S a).bind kTn := rfl
def kTa (cb : CB) (ρ : Rho) (b : Tx) : Bool → Stv → Out Bool := fun k S => if k = true then evT cb ρ S b else .ok false S
@[simp] theorem kTa_ap (cb : CB) (ρ : Rho) (b : Tx) (k : Bool) (S : Stv) : kTa cb ρ b k S = if k = true then evT cb ρ S b else .ok false S := rfl
@[simp] theorem evT_and (cb : CB) (ρ : Rho) (S : Stv) (a b : Tx) : evT cb ρ S (.and a b) = (evT cb ρ S a).bind (kTa cb ρ b) := rfl
def kTo (cb : CB) (ρ : Rho) (b : Tx) : Bool → Stv → Out Bool := fun k S => if k = true then .ok true S else evT cb ρ S b
@[simp] theorem kTo_ap (cb : CB) (ρ : Rho) (b : Tx) (k : Bool) (S : Stv) : kTo cb ρ b k S = if k = true then .ok true S else evT cb ρ S b := rfl
@[simp] theorem evT_or (cb : CB) (ρ : Rho) (S : Stv) (a b : Tx) : evT cb ρ S (.or a b) = (evT cb ρ S a).bind (kTo cb ρ b) := rfl
def kTc2 (o : Cop) (x : Rv) : Rv → Stv → Out Bool := fun y S => cmpO o x y S
@[simp] theorem kTc2_ap (o : Cop) (x : Rv) (y : Rv) (S : Stv) : kTc2 o x y S = cmpO o x y S := rfl
def kTc1 (cb : CB) (ρ : Rho) (o : Cop) (b : Ex) : Rv → Stv → Out Bool := fun x S => (evE cb ρ S b).bind (kTc2 o x)
@[simp] theorem kTc1_ap (cb : CB) (ρ : Rho) (o : Cop) (b : Ex) (x : Rv) (S : Stv) : kTc1 cb ρ o b x S = (evE cb ρ S b).bind (kTc2 o x) := rfl
@[simp] theorem evT_cmp (cb : CB) (ρ : Rho) (S : Stv) (o : Cop) (a b : Ex) : evT cb ρ S (.cmp o a b) = (evE cb ρ S a).bind (kTc1 cb ρ o b) := rfl
def kTh3 (cb : CB) (ρ : Rho) (o' : Cop) (y : Rv) (c : Ex) : Bool → Stv → Out Bool := fun k S => if k = true then (evE cb ρ S c).bind (kTc2 o' y) else .ok false S
@[simp] theorem kTh3_ap (cb : CB) (ρ : Rho) (o' : Cop) (y : Rv) (c : Ex) (k : Bool) (S : Stv) : kTh3 cb ρ o' y c k S = if k = true then (evE cb ρ S c).bind (kTc2 o' y) else .ok false S := rfl
def kTh2 (cb : CB) (ρ : Rho) (o o' : Cop) (x : Rv) (c : Ex) : Rv → Stv → Out Bool := fun y S => (cmpO o x y S).bind (kTh3 cb ρ o' y c)
@[simp] theorem kTh2_ap (cb : CB) (ρ : Rho) (o o' : Cop) (x : Rv) (c : Ex) (y : Rv) (S : Stv) : kTh2 cb ρ o o' x c y S = (cmpO o x y S).bind (kTh3 cb ρ o' y c) := rfl
def kTh1 (cb : CB) (ρ : Rho) (o o' : Cop) (b c : Ex) : Rv → Stv → Out Bool := fun x S => (evE cb ρ S b).bind (kTh2 cb ρ o o' x c)
@[simp] theorem kTh1_ap (cb : CB) (ρ : Rho) (o o' : Cop) (b c : Ex) (x : Rv) (S : Stv) : kTh1 cb ρ o o' b c x S = (evE cb ρ S b).bind (kTh2 cb ρ o o' x c) := rfl
@[simp] theorem evT_chn (cb : CB) (ρ : Rho) (S : Stv) (o o' : Cop) (a b c : Ex) : evT cb ρ S (.chn o o' a b c) = (evE cb ρ S a).bind (kTh1 cb ρ o o' b c) := rfl
@[simp] theorem evA_nil (cb : CB) (ρ : Rho) (S : Stv)  : evA cb ρ S .nil = .ok [] S := rfl
def kA2 (e : En) : List En → Stv → Out (List En) := fun xs S => .ok (e :: xs) S
@[simp] theorem kA2_ap (e : En) (xs : List En) (S : Stv) : kA2 e xs S = .ok (e :: xs) S := rfl
def kA1 (cb : CB) (ρ : Rho) (es : Exs) : Rv → Stv → Out (List En) := fun x S => (evA cb ρ (rvE x S).2 es).bind (kA2 (rvE x S).1)
@[simp] theorem kA1_ap (cb : CB) (ρ : Rho) (es : Exs) (x : Rv) (S : Stv) : kA1 cb ρ es x S = (evA cb ρ (rvE x S).2 es).bind (kA2 (rvE x S).1) := rfl
@[simp] theorem evA_cons (cb : CB) (ρ : Rho) (S : Stv) (e : Ex) (es : Exs) : evA cb ρ S (.cons e es) = (evE cb ρ S e).bind (kA1 cb ρ es) := rfl
@[simp] theorem evE_bad (cb : CB) (ρ : Rho) (S : Stv) : evE cb ρ S .bad = .bad := rfl
@[simp] theorem Fl.seq_exc (c : Nat) (fs : List (Str × D)) (ρ : Rho) (S : Stv) (f : Rho → Stv → Fl) : (Fl.ex c fs ρ S).seq f = .ex c fs ρ S := rfl
def kRai (c : Nat) (ρ : Rho) : Rv → Stv → Fl := fun _ S => .ex c [] ρ S
@[simp] theorem kRai_ap (c : Nat) (ρ : Rho) (r : Rv) (S : Stv) : kRai c ρ r S = .ex c [] ρ S := rfl
@[simp] theorem ex_rai (cb : CB) (ρ : Rho) (S : Stv) (c : Nat) (m : Ex) : exec cb (.rai c m) ρ S = (evE cb ρ S m).fl ρ (kRai c ρ) := rfl
@[simp] theorem ex_tri (cb : CB) (ρ : Rho) (S : Stv) (i m k : Nat) (b : VM.St) (cs : List (Nat × List Bool)) : exec cb (.tri i m b k cs) ρ S = triF i m cs (exec cb b ρ S) := rfl
@[simp] theorem ex_trb (cb : CB) (ρ : Rho) (S : Stv) (i m k : Nat) (b : VM.St) (cs : List (Nat × Bool)) : exec cb (.trb i m b k cs) ρ S = trbF i m cs (exec cb b ρ S) := rfl
def kRaf (f : List En → Stv → Out Rv) (c : Nat) (fs : List Str) (ρ : Rho) : List En → Stv → Fl := fun ks S => rafO f c fs ρ ks S
@[simp] theorem kRaf_ap (f : List En → Stv → Out Rv) (c : Nat) (fs : List Str) (ρ : Rho) (ks : List En) (S : Stv) : kRaf f c fs ρ ks S = rafO f c fs ρ ks S := rfl
@[simp] theorem ex_raf (cb : CB) (ρ : Rho) (S : Stv) (c g : Nat) (fs : List Str) (es : Exs) : exec cb (.raf c fs g es) ρ S = (evA cb ρ S es).fl ρ (kRaf (cb true g) c fs ρ) := rfl
@[simp] theorem ex_trx (cb : CB) (ρ : Rho) (S : Stv) (i : Option Nat) (m k : Nat) (b : VM.St) (cs : List (Nat × List (Str × Bool) × Sx)) : exec cb (.trx i m b k cs) ρ S = trxF i m cs (exec cb b ρ S) := rfl
@[simp] theorem ex_bad (cb : CB) (ρ : Rho) (S : Stv) : exec cb .bad ρ S = .bad := rfl
@[simp] theorem evE_its (cb : CB) (ρ : Rho) (S : Stv) (e : Ex) : evE cb ρ S (.its e) = (evE cb ρ S e).bind itsO := rfl
def kFst : Str → Stv → Out Rv := fun y S => okD (.str y) S
@[simp] theorem kFst_ap (y : Str) (S : Stv) : kFst y S = okD (.str y) S := rfl
@[simp] theorem evE_fst (cb : CB) (ρ : Rho) (S : Stv) (es : Exs) : evE cb ρ S (.fst es) = (evJ cb ρ Str.empty S es).bind kFst := rfl
@[simp] theorem evJ_nil (cb : CB) (ρ : Rho) (acc : Str) (S : Stv) : evJ cb ρ acc S .nil = .ok acc S := rfl
def kJ2 (cb : CB) (ρ : Rho) (acc : Str) (es : Exs) : Str → Stv → Out Str := fun y S => if (acc ++ y).length ≤ sizeLine then evJ cb ρ (acc ++ y) S es else .bad
@[simp] theorem kJ2_ap (cb : CB) (ρ : Rho) (acc y : Str) (es : Exs) (S : Stv) : kJ2 cb ρ acc es y S = if (acc ++ y).length ≤ sizeLine then evJ cb ρ (acc ++ y) S es else .bad := rfl
def kJ1 (cb : CB) (ρ : Rho) (acc : Str) (es : Exs) : Rv → Stv → Out Str := fun x S => (txtO x S).bind (kJ2 cb ρ acc es)
@[simp] theorem kJ1_ap (cb : CB) (ρ : Rho) (acc : Str) (es : Exs) (x : Rv) (S : Stv) : kJ1 cb ρ acc es x S = (txtO x S).bind (kJ2 cb ρ acc es) := rfl
@[simp] theorem evJ_cons (cb : CB) (ρ : Rho) (acc : Str) (S : Stv) (e : Ex) (es : Exs) : evJ cb ρ acc S (.cons e es) = (evE cb ρ S e).bind (kJ1 cb ρ acc es) := rfl
@[simp] theorem evE_spr (cb : CB) (ρ : Rho) (S : Stv) (k : Nat) (a : Ex) : evE cb ρ S (.spr k a) = (evE cb ρ S a).bind (sprO k) := rfl
@[simp] theorem evE_rsl (cb : CB) (ρ : Rho) (S : Stv) (a : Ex) : evE cb ρ S (.rsl a) = (evE cb ρ S a).bind rslO := rfl
@[simp] theorem evE_ddc (cb : CB) (ρ : Rho) (S : Stv) (kvs : List (Str × Str)) : evE cb ρ S (.ddc kvs) = if 0 < kvs.length ∧ kvs.length ≤ 15 ∧ (kvs.map (·.1)).Nodup then .ok (.nw (.dct false (kvs.map fun p => (.str p.1, .str p.2)))) S else .bad := rfl
def kDg3 (y z : Rv) : Rv → Stv → Out Rv := fun r S => dgtO y z r S
@[simp] theorem kDg3_ap (y z r : Rv) (S : Stv) : kDg3 y z r S = dgtO y z r S := rfl
def kDg2 (cb : CB) (ρ : Rho) (x : Ex) (y : Rv) : Rv → Stv → Out Rv := fun z S => (evE cb ρ S x).bind (kDg3 y z)
@[simp] theorem kDg2_ap (cb : CB) (ρ : Rho) (x : Ex) (y z : Rv) (S : Stv) : kDg2 cb ρ x y z S = (evE cb ρ S x).bind (kDg3 y z) := rfl
def kDg1 (cb : CB) (ρ : Rho) (k x : Ex) : Rv → Stv → Out Rv := fun y S => if dctB y S = true then (evE cb ρ S k).bind (kDg2 cb ρ x y) else .bad
@[simp] theorem kDg1_ap (cb : CB) (ρ : Rho) (k x : Ex) (y : Rv) (S : Stv) : kDg1 cb ρ k x y S = if dctB y S = true then (evE cb ρ S k).bind (kDg2 cb ρ x y) else .bad := rfl
@[simp] theorem evE_dgt (cb : CB) (ρ : Rho) (S : Stv) (o k x : Ex) : evE cb ρ S (.dgt o k x) = (evE cb ρ S o).bind (kDg1 cb ρ k x) := rfl
def kTm2 (m : Tmt) (x : Rv) : List Rv → Stv → Out Rv := fun ys S => tmO m x ys S
@[simp] theorem kTm2_ap (m : Tmt) (x : Rv) (ys : List Rv) (S : Stv) : kTm2 m x ys S = tmO m x ys S := rfl
def kTm1 (cb : CB) (ρ : Rho) (m : Tmt) (es : Exs) : Rv → Stv → Out Rv := fun x S => if isTx x = true then (evR cb ρ S es).bind (kTm2 m x) else .bad
@[simp] theorem kTm1_ap (cb : CB) (ρ : Rho) (m : Tmt) (es : Exs) (x : Rv) (S : Stv) : kTm1 cb ρ m es x S = if isTx x = true then (evR cb ρ S es).bind (kTm2 m x) else .bad := rfl
@[simp] theorem evE_tm (cb : CB) (ρ : Rho) (S : Stv) (m : Tmt) (o : Ex) (es : Exs) : evE cb ρ S (.tm m o es) = (evE cb ρ S o).bind (kTm1 cb ρ m es) := rfl
@[simp] theorem tmO_upper (a : Str) (S : Stv) : tmO .upper (.v (.str a)) [] S = if a.length ≤ 5592405 then okD (.str (Txt.upper a)) S else .bad := rfl
@[simp] theorem tmO_lower (a : Str) (S : Stv) : tmO .lower (.v (.str a)) [] S = if a.length ≤ 5592405 then okD (.str (Txt.lower a)) S else .bad := rfl
@[simp] theorem tmO_isupper (a : Str) (S : Stv) : tmO .isupper (.v (.str a)) [] S = okD (.bool (Txt.isupper a)) S := rfl
@[simp] theorem tmO_find (a b : Str) (S : Stv) : tmO .find (.v (.str a)) [.v (.str b)] S = okD (.int (Txt.find a b)) S := rfl
@[simp] theorem tmO_find3 (a b : Str) (i : Int) (S : Stv) : tmO .find (.v (.str a)) [.v (.str b), .v (.int i)] S = okD (.int (Txt.find3 a b i)) S := rfl
@[simp] theorem tmO_split (a b : Str) (S : Stv) : tmO .split (.v (.str a)) [.v (.str b)] S = if (b.length == 0) = false ∧ a.length + 2 ≤ sizeLine then .ok (.nw (.lst ((Txt.split a b).map .str))) S else .bad := rfl
@[simp] theorem tmO_splitM (a b : Str) (k : Int) (S : Stv) : tmO .splitM (.v (.str a)) [.v (.str b), .v (.int k)] S = if (b.length == 0) = false ∧ -9223372036854775808 ≤ k ∧ k < 9223372036854775808 ∧ a.length + 2 ≤ sizeLine then .ok (.nw (.lst ((Txt.splitMax a b k).map .str))) S else .bad := rfl
@[simp] theorem tmO_index (a b : Str) (S : Stv) : tmO .index (.v (.str a)) [.v (.str b)] S = match Builtin.Str.occurrences a b 0 a.length 1 with
    | i :: _ => okD (.int (i : Nat)) S
    | [] => .bad := rfl
@[simp] theorem tmO_part (a b : Str) (S : Stv) : tmO .part (.v (.str a)) [.v (.str b)] S = if (b.length == 0) = false ∧ a.length ≤ sizeLine then okD (.tuple [.str (Txt.partition a b).1, .str (Txt.partition a b).2.1, .str (Txt.partition a b).2.2]) S else .bad := rfl
def kCdn (neg : Bool) (kvs : List (Str × D)) : Rv → Stv → Out Rv := fun x S => cdnO neg kvs x S
@[simp] theorem kCdn_ap (neg : Bool) (kvs : List (Str × D)) (x : Rv) (S : Stv) : kCdn neg kvs x S = cdnO neg kvs x S := rfl
@[simp] theorem evE_cdn (cb : CB) (ρ : Rho) (S : Stv) (neg : Bool) (k : Nat) (kvs : List (Str × D)) (e : Ex) : evE cb ρ S (.cdn neg k kvs e) = (evE cb ρ S e).bind (kCdn neg kvs) := rfl
def kCdi (kvs : List (Str × D)) : Rv → Stv → Out Rv := fun x S => cdiO kvs x S
@[simp] theorem kCdi_ap (kvs : List (Str × D)) (x : Rv) (S : Stv) : kCdi kvs x S = cdiO kvs x S := rfl
@[simp] theorem evE_cdi (cb : CB) (ρ : Rho) (S : Stv) (k : Nat) (kvs : List (Str × D)) (e : Ex) : evE cb ρ S (.cdi k kvs e) = (evE cb ρ S e).bind (kCdi kvs) := rfl
@[simp] theorem evE_hx2 (cb : CB) (ρ : Rho) (S : Stv) (e : Ex) : evE cb ρ S (.hx2 e) = (evE cb ρ S e).bind hx2O := rfl
@[simp] theorem evE_ddg (cb : CB) (ρ : Rho) (S : Stv) (kvs : List (Str × Option Nat × D)) : evE cb ρ S (.ddg kvs) = if 0 < kvs.length ∧ kvs.length ≤ 15 ∧ (kvs.map (·.1)).Nodup ∧ (kvs.all fun p => p.2.1.isSome || isC p.2.2) = true then .ok (.nw (.dct false (kvs.map fun p => (.str p.1, p.2.2)))) S else .bad := rfl
def kDg4 (y : Rv) : Rv → Stv → Out Rv := fun z S => dgtO y z (.v .none) S
@[simp] theorem kDg4_ap (y z : Rv) (S : Stv) : kDg4 y z S = dgtO y z (.v .none) S := rfl
def kDg5 (cb : CB) (ρ : Rho) (k : Ex) : Rv → Stv → Out Rv := fun y S => if dctB y S = true then (evE cb ρ S k).bind (kDg4 y) else .bad
@[simp] theorem kDg5_ap (cb : CB) (ρ : Rho) (k : Ex) (y : Rv) (S : Stv) : kDg5 cb ρ k y S = if dctB y S = true then (evE cb ρ S k).bind (kDg4 y) else .bad := rfl
@[simp] theorem evE_dg1 (cb : CB) (ρ : Rho) (S : Stv) (o k : Ex) : evE cb ρ S (.dg1 o k) = (evE cb ρ S o).bind (kDg5 cb ρ k) := rfl
@[simp] theorem evI_enu (cb : CB) (ρ : Rho) (S : Stv) (e : Ex) : evI cb ρ S (.enu e) = (evE cb ρ S e).bind enuO := rfl
@[simp] theorem evI_rev (cb : CB) (ρ : Rho) (S : Stv) (e : Ex) : evI cb ρ S (.rev e) = (evE cb ρ S e).bind revO := rfl
def kStar2 (ys : List En) : List En → Stv → Out (List En) := fun xs S => .ok (ys ++ xs) S
@[simp] theorem kStar2_ap (ys xs : List En) (S : Stv) : kStar2 ys xs S = .ok (ys ++ xs) S := rfl
def starR (cb : CB) (ρ : Rho) (es : Exs) (S : Stv) : Option (List En) → Out (List En)
  | some ys => (evA cb ρ S es).bind (kStar2 ys)
  | none => .bad
@[simp] theorem starR_some (cb : CB) (ρ : Rho) (es : Exs) (S : Stv) (ys : List En) : starR cb ρ es S (some ys) = (evA cb ρ S es).bind (kStar2 ys) := rfl
def kStar1 (cb : CB) (ρ : Rho) (es : Exs) : Rv → Stv → Out (List En) := fun x S => starR cb ρ es S (strO x S)
@[simp] theorem kStar1_ap (cb : CB) (ρ : Rho) (es : Exs) (x : Rv) (S : Stv) : kStar1 cb ρ es x S = starR cb ρ es S (strO x S) := rfl
@[simp] theorem evA_star (cb : CB) (ρ : Rho) (S : Stv) (e : Ex) (es : Exs) : evA cb ρ S (.star e es) = (evE cb ρ S e).bind (kStar1 cb ρ es) := by
  show (evE cb ρ S e).bind _ = (evE cb ρ S e).bind _
  congr 1
@[simp] theorem evR_nil (cb : CB) (ρ : Rho) (S : Stv)  : evR cb ρ S .nil = .ok [] S := rfl
def kR2 (e : Rv) : List Rv → Stv → Out (List Rv) := fun xs S => .ok (e :: xs) S
@[simp] theorem kR2_ap (e : Rv) (xs : List Rv) (S : Stv) : kR2 e xs S = .ok (e :: xs) S := rfl
def kR1 (cb : CB) (ρ : Rho) (es : Exs) : Rv → Stv → Out (List Rv) := fun x S => (evR cb ρ S es).bind (kR2 x)
@[simp] theorem kR1_ap (cb : CB) (ρ : Rho) (es : Exs) (x : Rv) (S : Stv) : kR1 cb ρ es x S = (evR cb ρ S es).bind (kR2 x) := rfl
@[simp] theorem evR_cons (cb : CB) (ρ : Rho) (S : Stv) (e : Ex) (es : Exs) : evR cb ρ S (.cons e es) = (evE cb ρ S e).bind (kR1 cb ρ es) := rfl
@[simp] theorem evO_none (cb : CB) (ρ : Rho) (S : Stv)  : evO cb ρ S .none = .ok none S := rfl
def kO (x : Rv) (S : Stv) : Out (Option Int) := match x with
    | .v (.int i) => .ok (some i) S
    | _ => .bad
@[simp] theorem kO_int (i : Int) (S : Stv) : kO (.v (.int i)) S = .ok (some i) S := rfl
@[simp] theorem evO_some (cb : CB) (ρ : Rho) (S : Stv) (e : Ex) : evO cb ρ S (.some e) = (evE cb ρ S e).bind kO := rfl
@[simp] theorem evC_none (cb : CB) (ρ : Rho) (S : Stv)  : evC cb ρ S .none = .ok true S := rfl
@[simp] theorem evC_some (cb : CB) (ρ : Rho) (S : Stv) (t : Tx) : evC cb ρ S (.some t) = evT cb ρ S t := rfl
@[simp] theorem evI_sq (cb : CB) (ρ : Rho) (S : Stv) (e : Ex) : evI cb ρ S (.sq e) = (evE cb ρ S e).bind itemsO := rfl
def kI1 (x : Rv) (S : Stv) : Out Items := match x with
    | .v (.int i) => if -1000000000 ≤ i ∧ i ≤ 1000000000 then .ok ((rngD 0 i.toNat).map .dt, none) S else .bad
    | _ => .bad
@[simp] theorem kI1_int (i : Int) (S : Stv) : kI1 (.v (.int i)) S = if -1000000000 ≤ i ∧ i ≤ 1000000000 then .ok ((rngD 0 i.toNat).map .dt, none) S else .bad := rfl
def kI2 (x y : Rv) (S : Stv) : Out Items := match x, y with
    | .v (.int i), .v (.int j) => if -1000000000 ≤ i ∧ i ≤ 1000000000 ∧ -1000000000 ≤ j ∧ j ≤ 1000000000 then .ok ((rngD i (j - i).toNat).map .dt, none) S else .bad
    | _, _ => .bad
@[simp] theorem kI2_int (i j : Int) (S : Stv) : kI2 (.v (.int i)) (.v (.int j)) S = if -1000000000 ≤ i ∧ i ≤ 1000000000 ∧ -1000000000 ≤ j ∧ j ≤ 1000000000 then .ok ((rngD i (j - i).toNat).map .dt, none) S else .bad := rfl
def kI1r (x : Rv) (S : Stv) : Out Items := match x with
  | .v (.int i) => if -1000000000 ≤ i ∧ i ≤ 1000000000 then .ok ((rngD 0 i.toNat).reverse.map .dt, none) S else .bad
  | _ => .bad
@[simp] theorem kI1r_int (i : Int) (S : Stv) : kI1r (.v (.int i)) S = if -1000000000 ≤ i ∧ i ≤ 1000000000 then .ok ((rngD 0 i.toNat).reverse.map .dt, none) S else .bad := rfl
@[simp] theorem evI_rrg (cb : CB) (ρ : Rho) (S : Stv) (a : Ex) : evI cb ρ S (.rrg a) = (evE cb ρ S a).bind kI1r := rfl
@[simp] theorem evI_rg1 (cb : CB) (ρ : Rho) (S : Stv) (a : Ex) : evI cb ρ S (.rg1 a) = (evE cb ρ S a).bind kI1 := rfl
def kI3 (cb : CB) (ρ : Rho) (b : Ex) : Rv → Stv → Out Items := fun x S => (evE cb ρ S b).bind (kI2 x)
@[simp] theorem kI3_ap (cb : CB) (ρ : Rho) (b : Ex) (x : Rv) (S : Stv) : kI3 cb ρ b x S = (evE cb ρ S b).bind (kI2 x) := rfl
@[simp] theorem evI_rg2 (cb : CB) (ρ : Rho) (S : Stv) (a b : Ex) : evI cb ρ S (.rg2 a b) = (evE cb ρ S a).bind (kI3 cb ρ b) := rfl
@[simp] theorem ex_nop (cb : CB) (ρ : Rho) (S : Stv)  : exec cb .nop ρ S = .nx ρ S := rfl
def kSeq (cb : CB) (b : St) : Rho → Stv → Fl := fun ρ S => exec cb b ρ S
@[simp] theorem kSeq_ap (cb : CB) (b : St) (ρ : Rho) (S : Stv) : kSeq cb b ρ S = exec cb b ρ S := rfl
@[simp] theorem ex_seq (cb : CB) (ρ : Rho) (S : Stv) (a b : St) : exec cb (.seq a b) ρ S = (exec cb a ρ S).seq (kSeq cb b) := rfl
def asgR (o : Option Rho) (S : Stv) : Fl := match o with
    | some ρ1 => .nx ρ1 S
    | none => .bad
@[simp] theorem asgR_some (ρ : Rho) (S : Stv) : asgR (some ρ) S = .nx ρ S := rfl
def kAsg (g : Tgt) (ρ : Rho) : Rv → Stv → Fl := fun x S => asgR (bindE g (rvE x S).1 ρ) (rvE x S).2
@[simp] theorem kAsg_ap (g : Tgt) (ρ : Rho) (x : Rv) (S : Stv) : kAsg g ρ x S = asgR (bindE g (rvE x S).1 ρ) (rvE x S).2 := rfl
@[simp] theorem ex_asg (cb : CB) (ρ : Rho) (S : Stv) (g : Tgt) (e : Ex) : exec cb (.asg g e) ρ S = (evE cb ρ S e).fl ρ (kAsg g ρ) := rfl
def augR (ρ : Rho) (i : Nat) (z : Option Int) (S : Stv) : Fl := match z with
    | some z => .nx (ρ.set i (.dt (.int z))) S
    | none => .bad
@[simp] theorem augR_some (ρ : Rho) (i : Nat) (z : Int) (S : Stv) : augR ρ i (some z) S = .nx (ρ.set i (.dt (.int z))) S := rfl
def kAug (ρ : Rho) (i : Nat) (o : Bop) (x : Int) : Rv → Stv → Fl := fun y S => match y with
    | .v (.int j) => match augI o x j with
      | some z => .nx (ρ.set i (.dt (.int z))) S
      | none => .bad
    | _ => .bad
@[simp] theorem kAug_ap (ρ : Rho) (i : Nat) (o : Bop) (x j : Int) (S : Stv) : kAug ρ i o x (.v (.int j)) S = augR ρ i (augI o x j) S := by unfold kAug augR; rfl
def augS (cb : CB) (ρ : Rho) (S : Stv) (i : Nat) (o : Bop) (e : Ex) (v : Option En) : Fl := match v with
    | some (.dt (.int x)) => (evE cb ρ S e).fl ρ (kAug ρ i o x)
    | _ => .bad
@[simp] theorem augS_int (cb : CB) (ρ : Rho) (S : Stv) (i : Nat) (o : Bop) (e : Ex) (x : Int) : augS cb ρ S i o e (some (.dt (.int x))) = (evE cb ρ S e).fl ρ (kAug ρ i o x) := rfl
@[simp] theorem ex_aug (cb : CB) (ρ : Rho) (S : Stv) (i : Nat) (o : Bop) (e : Ex) : exec cb (.aug i o e) ρ S = augS cb ρ S i o e ρ[i]? := rfl
def kIte (cb : CB) (ρ : Rho) (a b : St) : Bool → Stv → Fl := fun k S => if k = true then exec cb a ρ S else exec cb b ρ S
@[simp] theorem kIte_ap (cb : CB) (ρ : Rho) (a b : St) (k : Bool) (S : Stv) : kIte cb ρ a b k S = if k = true then exec cb a ρ S else exec cb b ρ S := rfl
@[simp] theorem ex_ite (cb : CB) (ρ : Rho) (S : Stv) (c : Tx) (a b : St) : exec cb (.ite c a b) ρ S = (evT cb ρ S c).fl ρ (kIte cb ρ a b) := rfl
def forB (cb : CB) (g : Tgt) (b : St) : En → Rho → Stv → Fl := fun e ρ S => match bindE g e ρ with
    | some ρ1 => exec cb b ρ1 S
    | none => .bad
theorem forB_ap (cb : CB) (g : Tgt) (b : St) (e : En) (ρ : Rho) (S : Stv) : forB cb g b e ρ S = match bindE g e ρ with
    | some ρ1 => exec cb b ρ1 S
    | none => .bad := rfl
@[simp] theorem forB_nm (cb : CB) (i : Nat) (b : St) (e : En) (ρ : Rho) (S : Stv) : forB cb (.nm i) b e ρ S = exec cb b (ρ.set i e) S := rfl
@[simp] theorem forB_tp (cb : CB) (is : List Nat) (b : St) (ds : List PyData) (ρ : Rho) (S : Stv) : forB cb (.tp is) b (.dt (.tuple ds)) ρ S = if ds.length = is.length then exec cb b (bindL is ds ρ) S else .bad := by
  unfold forB bindE
  by_cases h : ds.length = is.length <;> simp [h]
def kFor (cb : CB) (ρ : Rho) (g : Tgt) (b : St) (ks : List Nat) : Items → Stv → Fl := fun is S => loopF (forB cb g b) is.2 ks S.length is.1 ρ S
@[simp] theorem kFor_ap (cb : CB) (ρ : Rho) (g : Tgt) (b : St) (ks : List Nat) (is : Items) (S : Stv) : kFor cb ρ g b ks is S = loopF (forB cb g b) is.2 ks S.length is.1 ρ S := rfl
@[simp] theorem ex_for (cb : CB) (ρ : Rho) (S : Stv) (g : Tgt) (it : Itr) (b : St) (ks : List Nat) : exec cb (.for_ g it b ks) ρ S = (evI cb ρ S it).fl ρ (kFor cb ρ g b ks) := rfl
def whT (cb : CB) (c : Tx) : Rho → Stv → Out Bool := fun ρ S => evT cb ρ S c
@[simp] theorem whT_ap (cb : CB) (c : Tx) (ρ : Rho) (S : Stv) : whT cb c ρ S = evT cb ρ S c := rfl
@[simp] theorem ex_whl (cb : CB) (ρ : Rho) (S : Stv) (c : Tx) (b : St) (ks : List Nat) : exec cb (.whl c b ks) ρ S = whileF (whT cb c) (kSeq cb b) ks S.length ρ S := rfl
def kRet  : Rv → Stv → Fl := fun r S => .rt r S
@[simp] theorem kRet_ap  (r : Rv) (S : Stv) : kRet  r S = .rt r S := rfl
@[simp] theorem ex_ret (cb : CB) (ρ : Rho) (S : Stv) (e : Ex) : exec cb (.ret e) ρ S = (evE cb ρ S e).fl ρ kRet := rfl
@[simp] theorem ex_retn (cb : CB) (ρ : Rho) (S : Stv)  : exec cb .retn ρ S = .rt (.v .none) S := rfl
@[simp] theorem ex_brk (cb : CB) (ρ : Rho) (S : Stv)  : exec cb .brk ρ S = .bk ρ S := rfl
@[simp] theorem ex_cnt (cb : CB) (ρ : Rho) (S : Stv)  : exec cb .cnt ρ S = .ct ρ S := rfl
def kExp (ρ : Rho) : Rv → Stv → Fl := fun r S => .nx ρ S
@[simp] theorem kExp_ap (ρ : Rho) (r : Rv) (S : Stv) : kExp ρ r S = .nx ρ S := rfl
@[simp] theorem ex_exp (cb : CB) (ρ : Rho) (S : Stv) (e : Ex) : exec cb (.exp e) ρ S = (evE cb ρ S e).fl ρ (kExp ρ) := rfl
def setR (ρ : Rho) (o : Option Stv) : Fl := match o with
    | some S => .nx ρ S
    | none => .bad
@[simp] theorem setR_some (ρ : Rho) (S : Stv) : setR ρ (some S) = .nx ρ S := rfl
def kSet3 (ρ : Rho) (en : En) (y : Rv) : Rv → Stv → Fl := fun z S => match y, z with
    | .mu n, .v d => match setiO n d en S with
      | some S4 => .nx ρ S4
      | none => .bad
    | _, _ => .bad
@[simp] theorem kSet3_ap (ρ : Rho) (en : En) (n : Nat) (d : PyData) (S : Stv) : kSet3 ρ en (.mu n) (.v d) S = setR ρ (setiO n d en S) := by unfold kSet3 setR; rfl
def kSet2 (cb : CB) (ρ : Rho) (i : Ex) (en : En) : Rv → Stv → Fl := fun y S => (evE cb ρ S i).fl ρ (kSet3 ρ en y)
@[simp] theorem kSet2_ap (cb : CB) (ρ : Rho) (i : Ex) (en : En) (y : Rv) (S : Stv) : kSet2 cb ρ i en y S = (evE cb ρ S i).fl ρ (kSet3 ρ en y) := rfl
def kSet1 (cb : CB) (ρ : Rho) (o i : Ex) : Rv → Stv → Fl := fun x S => (evE cb ρ (rvE x S).2 o).fl ρ (kSet2 cb ρ i (rvE x S).1)
@[simp] theorem kSet1_ap (cb : CB) (ρ : Rho) (o i : Ex) (x : Rv) (S : Stv) : kSet1 cb ρ o i x S = (evE cb ρ (rvE x S).2 o).fl ρ (kSet2 cb ρ i (rvE x S).1) := rfl
@[simp] theorem ex_seti (cb : CB) (ρ : Rho) (S : Stv) (o i e : Ex) : exec cb (.seti o i e) ρ S = (evE cb ρ S e).fl ρ (kSet1 cb ρ o i) := rfl
def nsR (ρ : Rho) (o : Option Stv) : Fl := match o with
    | some S => .nx ρ S
    | none => .bad
@[simp] theorem nsR_some (ρ : Rho) (S : Stv) : nsR ρ (some S) = .nx ρ S := rfl
def kNp3 (ρ : Rho) (en : En) (y : Rv) : Rv → Stv → Fl := fun z S => nsR ρ (nputO y en z S)
@[simp] theorem kNp3_ap (ρ : Rho) (v : PyData) (n : Nat) (d : PyData) (S : Stv) : kNp3 ρ (.dt v) (.mu n) (.v d) S = nsR ρ (match S[n]? with
    | some (.dcn t kvs) => if kvs.length < big then (gput t kvs d v).map fun kvs' => S.set n (.dcn t kvs') else none
    | _ => none) := rfl
def kNp2 (cb : CB) (ρ : Rho) (i : Ex) (en : En) : Rv → Stv → Fl := fun y S => (evE cb ρ S i).fl ρ (kNp3 ρ en y)
@[simp] theorem kNp2_ap (cb : CB) (ρ : Rho) (i : Ex) (en : En) (y : Rv) (S : Stv) : kNp2 cb ρ i en y S = (evE cb ρ S i).fl ρ (kNp3 ρ en y) := rfl
def kNp1 (cb : CB) (ρ : Rho) (o i : Ex) : Rv → Stv → Fl := fun x S => (evE cb ρ (rvE x S).2 o).fl ρ (kNp2 cb ρ i (rvE x S).1)
@[simp] theorem kNp1_ap (cb : CB) (ρ : Rho) (o i : Ex) (x : Rv) (S : Stv) : kNp1 cb ρ o i x S = (evE cb ρ (rvE x S).2 o).fl ρ (kNp2 cb ρ i (rvE x S).1) := rfl
@[simp] theorem ex_nput (cb : CB) (ρ : Rho) (S : Stv) (o i e : Ex) : exec cb (.nput o i e) ρ S = (evE cb ρ S e).fl ρ (kNp1 cb ρ o i) := by
  unfold exec
  congr 1
def kNd3 (ρ : Rho) (y : Rv) : Rv → Stv → Fl := fun z S => nsR ρ (ndelO y z S)
@[simp] theorem kNd3_ap (ρ : Rho) (n : Nat) (d : PyData) (S : Stv) : kNd3 ρ (.mu n) (.v d) S = nsR ρ (match S[n]? with
    | some (.dcn t kvs) => (gdel t kvs d).map fun kvs' => S.set n (.dcn t kvs')
    | _ => none) := rfl
def kNd2 (cb : CB) (ρ : Rho) (i : Ex) : Rv → Stv → Fl := fun y S => (evE cb ρ S i).fl ρ (kNd3 ρ y)
@[simp] theorem kNd2_ap (cb : CB) (ρ : Rho) (i : Ex) (y : Rv) (S : Stv) : kNd2 cb ρ i y S = (evE cb ρ S i).fl ρ (kNd3 ρ y) := rfl
@[simp] theorem ex_ndel (cb : CB) (ρ : Rho) (S : Stv) (o i : Ex) : exec cb (.ndel o i) ρ S = (evE cb ρ S o).fl ρ (kNd2 cb ρ i) := by
  unfold exec
  congr 1
def kSf2 (ρ : Rho) (m : Str) (en : En) : Rv → Stv → Fl := fun y S2 => match y with
    | .mu n => match S2[n]? with
      | some (.obj c fs) => if fs.length < 1000 then .nx ρ (S2.set n (.obj c (putFE m en fs))) else .bad
      | _ => .bad
    | _ => .bad
@[simp] theorem kSf2_mu (ρ : Rho) (m : Str) (en : En) (n : Nat) (S : Stv) : kSf2 ρ m en (.mu n) S = match S[n]? with
      | some (.obj c fs) => if fs.length < 1000 then .nx ρ (S.set n (.obj c (putFE m en fs))) else .bad
      | _ => .bad := rfl
def kSf1 (cb : CB) (ρ : Rho) (m : Str) (o : Ex) : Rv → Stv → Fl := fun x S => (evE cb ρ (rvE x S).2 o).fl ρ (kSf2 ρ m (rvE x S).1)
@[simp] theorem kSf1_ap (cb : CB) (ρ : Rho) (m : Str) (o : Ex) (x : Rv) (S : Stv) : kSf1 cb ρ m o x S = (evE cb ρ (rvE x S).2 o).fl ρ (kSf2 ρ m (rvE x S).1) := rfl
def kTf2 (ρ : Rho) (m : Str) (b : D) : Rv → Stv → Fl := fun y S2 => match y with
    | .mu n => match S2[n]? with
      | some (.obj c fs) => if fs.length < 1000 then .nx ρ (S2.set n (.obj c (putFE m (.dt b) fs))) else .bad
      | _ => .bad
    | _ => .bad
@[simp] theorem kTf2_mu (ρ : Rho) (m : Str) (b : D) (n : Nat) (S : Stv) : kTf2 ρ m b (.mu n) S = match S[n]? with
      | some (.obj c fs) => if fs.length < 1000 then .nx ρ (S.set n (.obj c (putFE m (.dt b) fs))) else .bad
      | _ => .bad := rfl
def kTf1 (cb : CB) (ρ : Rho) (i : Nat) (m : Str) (o : Ex) : Rv → Stv → Fl := fun x S => match x with
    | .v (.tuple [a, b]) => (evE cb (ρ.set i (.dt a)) S o).fl (ρ.set i (.dt a)) (kTf2 (ρ.set i (.dt a)) m b)
    | _ => .bad
@[simp] theorem kTf1_ap (cb : CB) (ρ : Rho) (i : Nat) (m : Str) (o : Ex) (a b : D) (S : Stv) : kTf1 cb ρ i m o (.v (.tuple [a, b])) S = (evE cb (ρ.set i (.dt a)) S o).fl (ρ.set i (.dt a)) (kTf2 (ρ.set i (.dt a)) m b) := rfl
@[simp] theorem ex_tpf (cb : CB) (ρ : Rho) (S : Stv) (i : Nat) (m : Str) (o e : Ex) : exec cb (.tpf i m o e) ρ S = (evE cb ρ S e).fl ρ (kTf1 cb ρ i m o) := rfl
@[simp] theorem ex_setf (cb : CB) (ρ : Rho) (S : Stv) (m : Str) (o e : Ex) : exec cb (.setf m o e) ρ S = (evE cb ρ S e).fl ρ (kSf1 cb ρ m o) := rfl
def kSt3 (ρ : Rho) (en : En) (y : Rv) : List En → Stv → Fl := fun ks S3 => match y with
    | .mu n => match en with
      | .dt v => match enDs ks with
        | some ds => match S3[n]? with
          | some (.dct true kvs) => if kvs.length < big ∧ ds.length ≤ big then match putD true kvs (.tuple ds) v with
            | some kvs' => .nx ρ (S3.set n (.dct true kvs'))
            | none => .bad
            else .bad
          | _ => .bad
        | none => .bad
      | _ => .bad
    | _ => .bad
@[simp] theorem kSt3_ap (ρ : Rho) (v : PyData) (n : Nat) (ks : List En) (S3 : Stv) : kSt3 ρ (.dt v) (.mu n) ks S3 = match enDs ks with
        | some ds => match S3[n]? with
          | some (.dct true kvs) => if kvs.length < big ∧ ds.length ≤ big then match putD true kvs (.tuple ds) v with
            | some kvs' => .nx ρ (S3.set n (.dct true kvs'))
            | none => .bad
            else .bad
          | _ => .bad
        | none => .bad := rfl
def kSt2 (cb : CB) (ρ : Rho) (es : Exs) (en : En) : Rv → Stv → Fl := fun y S => (evA cb ρ S es).fl ρ (kSt3 ρ en y)
@[simp] theorem kSt2_ap (cb : CB) (ρ : Rho) (es : Exs) (en : En) (y : Rv) (S : Stv) : kSt2 cb ρ es en y S = (evA cb ρ S es).fl ρ (kSt3 ρ en y) := rfl
def kSt1 (cb : CB) (ρ : Rho) (o : Ex) (es : Exs) : Rv → Stv → Fl := fun x S => (evE cb ρ (rvE x S).2 o).fl ρ (kSt2 cb ρ es (rvE x S).1)
@[simp] theorem kSt1_ap (cb : CB) (ρ : Rho) (o : Ex) (es : Exs) (x : Rv) (S : Stv) : kSt1 cb ρ o es x S = (evE cb ρ (rvE x S).2 o).fl ρ (kSt2 cb ρ es (rvE x S).1) := rfl
@[simp] theorem ex_sett (cb : CB) (ρ : Rho) (S : Stv) (o : Ex) (es : Exs) (e : Ex) : exec cb (.sett o es e) ρ S = (evE cb ρ S e).fl ρ (kSt1 cb ρ o es) := rfl
def kAf2 (ρ : Rho) (m : Str) (b : Bop) (n c : Nat) (x : Int) : Rv → Stv → Fl := fun z S2 => match z with
          | .v (.int j) => match augI b x j, S2[n]? with
            | some w, some (.obj c' fs') => if fs'.length < 1000 ∧ c' = c then .nx ρ (S2.set n (.obj c (putFE m (.dt (.int w)) fs'))) else .bad
            | _, _ => .bad
          | _ => .bad
@[simp] theorem kAf2_ap (ρ : Rho) (m : Str) (b : Bop) (n c : Nat) (x j : Int) (S2 : Stv) : kAf2 ρ m b n c x (.v (.int j)) S2 = match augI b x j, S2[n]? with
            | some w, some (.obj c' fs') => if fs'.length < 1000 ∧ c' = c then .nx ρ (S2.set n (.obj c (putFE m (.dt (.int w)) fs'))) else .bad
            | _, _ => .bad := rfl
def kAf1 (cb : CB) (ρ : Rho) (m : Str) (b : Bop) (e : Ex) : Rv → Stv → Fl := fun y S1 => match y with
    | .mu n => match S1[n]? with
      | some (.obj c fs) => match fs.lookup m with
        | some (.dt (.int x)) => (evE cb ρ S1 e).fl ρ (kAf2 ρ m b n c x)
        | _ => .bad
      | _ => .bad
    | _ => .bad
@[simp] theorem kAf1_mu (cb : CB) (ρ : Rho) (m : Str) (b : Bop) (e : Ex) (n : Nat) (S1 : Stv) : kAf1 cb ρ m b e (.mu n) S1 = match S1[n]? with
      | some (.obj c fs) => match fs.lookup m with
        | some (.dt (.int x)) => (evE cb ρ S1 e).fl ρ (kAf2 ρ m b n c x)
        | _ => .bad
      | _ => .bad := rfl
@[simp] theorem ex_augf (cb : CB) (ρ : Rho) (S : Stv) (m : Str) (o : Ex) (b : Bop) (e : Ex) : exec cb (.augf m o b e) ρ S = (evE cb ρ S o).fl ρ (kAf1 cb ρ m b e) := by
  unfold exec
  congr 1
end
end VM
end

section
set_option Elab.async false
set_option linter.all false
set_option maxRecDepth 100000
set_option maxHeartbeats 4000000
namespace Lw
open PySem PySem.Spec PyProof.Rows L2 DL VM
def dat__SIGNS : List (Str × PyData) := [("$", .tuple [.str "text", .str "$"]), ("&", .tuple [.str "match"]), ("[", .tuple [.str "before"]), ("]", .tuple [.str "behind"])]
def f_TemplateError___init__ : Nat := 0
def f_read_template : Nat := 1
def f__groups_by_word : Nat := 2
def f__read_dollar : Nat := 3
def f__law_row : Nat := 4
def f__law_digit : Nat := 5
def f__law_same : Nat := 6
def f__law_name : Nat := 7
def f__law_names : Nat := 8
def f__law_piece : Nat := 9
def f__law_wrong : Nat := 10
def f__law_joined : Nat := 11
def f__law_column : Nat := 12
def f_law : Nat := 13
/-! TemplateError___init__: 0 self, 1 column -/
def body_TemplateError___init__ : VM.St := .nop
def fd_TemplateError___init__ : Fd := ⟨2, 0, body_TemplateError___init__⟩
/-! read_template: 0 template, 1 names, 2 groups, 3 parts, 4 at, 5 part -/
abbrev W_read_template_0 : Tx := (.cmp .lt (.var 4) (.bi .len (.cons (.var 0) .nil)))
abbrev L_read_template_0 : VM.St := (.seq (.ite (.cmp .eq (.idx (.var 0) (.var 4)) (.con (.str "$")))
  (.asg (.tp [5, 4]) (.call f__read_dollar (.cons (.var 0) (.cons (.var 4) (.cons (.var 2) .nil)))))
  (.seq (.asg (.nm 5) (.tup (.cons (.con (.str "text")) (.cons (.idx (.var 0) (.var 4)) .nil))))
  (.aug 4 .add (.con (.int 1)))))
  (.ite (.and (.cmp .eq (.idx (.var 5) (.con (.int 0))) (.con (.str "text"))) (.and (.val (.var 3)) (.cmp .eq (.idx (.idx (.var 3) (.neg (.con (.int 1)))) (.con (.int 0))) (.con (.str "text")))))
  (.seti (.var 3) (.neg (.con (.int 1))) (.tup (.cons (.con (.str "text")) (.cons (.bin .add (.idx (.idx (.var 3) (.neg (.con (.int 1)))) (.con (.int 1))) (.idx (.var 5) (.con (.int 1)))) .nil))))
  (.exp (.bm .append (.var 3) (.cons (.var 5) .nil)))))
def body_read_template : VM.St := (.seq (.asg (.nm 2) (.call f__groups_by_word (.cons (.var 1) .nil)))
  (.seq (.asg (.nm 3) (.own (.lst .nil)))
  (.seq (.asg (.nm 4) (.con (.int 0)))
  (.seq (.whl W_read_template_0
  L_read_template_0 [5])
  (.ret (.var 3))))))
def fd_read_template : Fd := ⟨2, 4, body_read_template⟩
/-! _groups_by_word: 0 names, 1 groups, 2 number, 3 name -/
abbrev L__groups_by_word_0 : VM.St := (.seq (.seti (.var 1) (.bi .str (.cons (.var 2) .nil)) (.var 2))
  (.ite (.cmp .notn (.var 3) (.con .none))
  (.seti (.var 1) (.var 3) (.var 2))
  .nop))
def body__groups_by_word : VM.St := (.seq (.asg (.nm 1) (.dnw false))
  (.seq (.for_ (.tp [2, 3]) (.enu (.var 0))
  L__groups_by_word_0 [2, 3])
  (.ret (.var 1))))
def fd__groups_by_word : Fd := ⟨1, 3, body__groups_by_word⟩
/-! _read_dollar: 0 template, 1 at, 2 groups, 3 sign, 4 end, 5 word -/
def body__read_dollar : VM.St := (.seq (.asg (.nm 3) (.slc (.var 0) (.some (.bin .add (.var 1) (.con (.int 1)))) (.some (.bin .add (.var 1) (.con (.int 2))))))
  (.seq (.ite (.val (.cdn false 5 dat__SIGNS (.var 3)))
  (.ret (.tup (.cons (.cdi 5 dat__SIGNS (.var 3)) (.cons (.bin .add (.var 1) (.con (.int 2))) .nil))))
  .nop)
  (.seq (.asg (.nm 4) (.tm .find (.var 0) (.cons (.con (.str "}")) (.cons (.var 1) .nil))))
  (.seq (.ite (.or (.cmp .ne (.var 3) (.con (.str "{"))) (.cmp .lt (.var 4) (.con (.int 0))))
  (.raf 0 ["column"] f_TemplateError___init__ (.cons (.bin .add (.var 1) (.con (.int 1))) .nil))
  .nop)
  (.seq (.asg (.nm 5) (.slc (.var 0) (.some (.bin .add (.var 1) (.con (.int 2)))) (.some (.var 4))))
  (.seq (.ite (.cmp .notin (.var 5) (.var 2))
  (.raf 0 ["column"] f_TemplateError___init__ (.cons (.bin .add (.var 1) (.con (.int 1))) .nil))
  .nop)
  (.ret (.tup (.cons (.tup (.cons (.con (.str "group")) (.cons (.idx (.var 2) (.var 5)) .nil))) (.cons (.bin .add (.var 4) (.con (.int 1))) .nil))))))))))
def fd__read_dollar : Fd := ⟨3, 3, body__read_dollar⟩
/-! _law_row: 0 script, 1 k, 2 cell, 3 mixed -/
def body__law_row : VM.St := (.seq (.asg (.nm 2) (.con (.int 0)))
  (.seq (.ite (.cmp .lt (.var 1) (.bi .len (.cons (.var 0) .nil)))
  (.asg (.nm 2) (.idx (.var 0) (.var 1)))
  .nop)
  (.seq (.ite (.cmp .lt (.var 2) (.con (.int 0)))
  (.asg (.nm 2) (.bin .sub (.con (.int 1)) (.bin .mul (.con (.int 2)) (.var 2))))
  .nop)
  (.seq (.ite (.cmp .ge (.var 2) (.bin .pow (.con (.int 10)) (.con (.int 9))))
  (.ret (.var 2))
  .nop)
  (.seq (.asg (.nm 3) (.bin .mod (.bi .int (.cons (.bin .add (.bin .mul (.bin .add (.bin .add (.var 2) (.bin .mul (.con (.int 7919)) (.var 1))) (.con (.int 1))) (.con (.int 6364136223846793005))) (.con (.int 1442695040888963407))) .nil)) (.con (.int 2305843009213693951))))
  (.ret (.bin .mod (.bi .int (.cons (.bin .add (.bin .add (.bin .mul (.var 3) (.var 3)) (.bin .mul (.con (.int 104729)) (.var 1))) (.con (.int 977))) .nil)) (.con (.int 2305843009213693951)))))))))
def fd__law_row : Fd := ⟨2, 2, body__law_row⟩
/-! _law_digit: 0 script, 1 state, 2 many, 3 digit -/
def body__law_digit : VM.St := (.seq (.ite (.cmp .eq (.idx (.var 1) (.con (.int 0))) (.con (.int 0)))
  (.seq (.seti (.var 1) (.con (.int 0)) (.call f__law_row (.cons (.var 0) (.cons (.idx (.var 1) (.con (.int 1))) .nil))))
  (.seti (.var 1) (.con (.int 1)) (.bin .add (.idx (.var 1) (.con (.int 1))) (.con (.int 1)))))
  .nop)
  (.seq (.asg (.nm 3) (.bin .mod (.bi .int (.cons (.idx (.var 1) (.con (.int 0))) .nil)) (.var 2)))
  (.seq (.seti (.var 1) (.con (.int 0)) (.bin .fdiv (.idx (.var 1) (.con (.int 0))) (.var 2)))
  (.ret (.var 3)))))
def fd__law_digit : Fd := ⟨3, 1, body__law_digit⟩
/-! _law_same: 0 actual, 1 expected, 2 k -/
abbrev L__law_same_0 : VM.St := (.ite (.not (.val (.call f__law_same (.cons (.idx (.var 0) (.var 2)) (.cons (.idx (.var 1) (.var 2)) .nil)))))
  (.ret (.con (.bool false)))
  .nop)
def body__law_same : VM.St := (.seq (.ite (.cmp .isn (.var 1) (.con .none))
  (.ret (.cmp .isn (.var 0) (.con .none)))
  .nop)
  (.seq (.ite (.val (.isi "bool" (.var 1)))
  (.ret (.and (.isi "bool" (.var 0)) (.cmp .eq (.var 0) (.var 1))))
  .nop)
  (.seq (.ite (.val (.isi "int" (.var 1)))
  (.ret (.and (.isi "int" (.var 0)) (.and (.not (.isi "bool" (.var 0))) (.cmp .eq (.var 0) (.var 1)))))
  .nop)
  (.seq (.ite (.val (.isi "str" (.var 1)))
  (.ret (.and (.isi "str" (.var 0)) (.cmp .eq (.var 0) (.var 1))))
  .nop)
  (.seq (.ite (.and (.val (.isi "tuple" (.var 1))) (.not (.val (.isi "tuple" (.var 0)))))
  (.ret (.con (.bool false)))
  .nop)
  (.seq (.ite (.and (.val (.isi "list" (.var 1))) (.not (.val (.isi "list" (.var 0)))))
  (.ret (.con (.bool false)))
  .nop)
  (.seq (.ite (.cmp .ne (.bi .len (.cons (.var 0) .nil)) (.bi .len (.cons (.var 1) .nil)))
  (.ret (.con (.bool false)))
  .nop)
  (.seq (.for_ (.nm 2) (.rg1 (.bi .len (.cons (.var 1) .nil)))
  L__law_same_0 [2])
  (.ret (.con (.bool true)))))))))))
def fd__law_same : Fd := ⟨2, 1, body__law_same⟩
/-! _law_name: 0 script, 1 state, 2 letters, 3 name, 4 k -/
abbrev L__law_name_0 : VM.St := (.asg (.nm 3) (.bin .add (.var 3) (.idx (.bin .add (.var 2) (.con (.str "0123456789"))) (.call f__law_digit (.cons (.var 0) (.cons (.var 1) (.cons (.con (.int 63)) .nil)))))))
def body__law_name : VM.St := (.seq (.asg (.nm 2) (.con (.str "abcdefghijklmnopqrstuvwxyzABCDEFGHIJKLMNOPQRSTUVWXYZ_")))
  (.seq (.asg (.nm 3) (.idx (.var 2) (.call f__law_digit (.cons (.var 0) (.cons (.var 1) (.cons (.con (.int 53)) .nil))))))
  (.seq (.for_ (.nm 4) (.rg1 (.call f__law_digit (.cons (.var 0) (.cons (.var 1) (.cons (.con (.int 4)) .nil)))))
  L__law_name_0 [4])
  (.ret (.var 3)))))
def fd__law_name : Fd := ⟨2, 3, body__law_name⟩
/-! _law_names: 0 script, 1 state, 2 names, 3 k, 4 name -/
abbrev L__law_names_0 : VM.St := (.seq (.asg (.nm 4) (.call f__law_name (.cons (.var 0) (.cons (.var 1) .nil))))
  (.ite (.or (.cmp .isin (.var 4) (.var 2)) (.cmp .eq (.call f__law_digit (.cons (.var 0) (.cons (.var 1) (.cons (.con (.int 3)) .nil)))) (.con (.int 0))))
  (.exp (.bm .append (.var 2) (.cons (.con .none) .nil)))
  (.exp (.bm .append (.var 2) (.cons (.var 4) .nil)))))
def body__law_names : VM.St := (.seq (.asg (.nm 2) (.own (.lst .nil)))
  (.seq (.for_ (.nm 3) (.rg1 (.call f__law_digit (.cons (.var 0) (.cons (.var 1) (.cons (.con (.int 6)) .nil)))))
  L__law_names_0 [3, 4])
  (.ret (.bi .tuple (.cons (.var 2) .nil)))))
def fd__law_names : Fd := ⟨2, 3, body__law_names⟩
/-! _law_piece: 0 script, 1 state, 2 names, 3 kind, 4 number, 5 plain, 6 sign -/
def body__law_piece : VM.St := (.seq (.asg (.nm 3) (.call f__law_digit (.cons (.var 0) (.cons (.var 1) (.cons (.con (.int 9)) .nil)))))
  (.seq (.ite (.and (.cmp .eq (.var 3) (.con (.int 4))) (.cmp .gt (.bi .len (.cons (.var 2) .nil)) (.con (.int 0))))
  (.seq (.asg (.nm 4) (.call f__law_digit (.cons (.var 0) (.cons (.var 1) (.cons (.bi .len (.cons (.var 2) .nil)) .nil)))))
  (.ret (.tup (.cons (.bin .add (.bin .add (.con (.str "${")) (.bi .str (.cons (.var 4) .nil))) (.con (.str "}"))) (.cons (.tup (.cons (.con (.str "group")) (.cons (.var 4) .nil))) .nil)))))
  .nop)
  (.seq (.ite (.and (.cmp .eq (.var 3) (.con (.int 5))) (.cmp .gt (.bi .len (.cons (.var 2) .nil)) (.con (.int 0))))
  (.seq (.asg (.nm 4) (.call f__law_digit (.cons (.var 0) (.cons (.var 1) (.cons (.bi .len (.cons (.var 2) .nil)) .nil)))))
  (.ite (.cmp .notn (.idx (.var 2) (.var 4)) (.con .none))
  (.ret (.tup (.cons (.bin .add (.bin .add (.con (.str "${")) (.idx (.var 2) (.var 4))) (.con (.str "}"))) (.cons (.tup (.cons (.con (.str "group")) (.cons (.var 4) .nil))) .nil))))
  .nop))
  .nop)
  (.seq (.ite (.cmp .lt (.var 3) (.con (.int 4)))
  (.ret (.idx (.lst (.cons (.tup (.cons (.con (.str "$$")) (.cons (.tup (.cons (.con (.str "text")) (.cons (.con (.str "$")) .nil))) .nil))) (.cons (.tup (.cons (.con (.str "$&")) (.cons (.tup (.cons (.con (.str "match")) .nil)) .nil))) (.cons (.tup (.cons (.con (.str "$[")) (.cons (.tup (.cons (.con (.str "before")) .nil)) .nil))) (.cons (.tup (.cons (.con (.str "$]")) (.cons (.tup (.cons (.con (.str "behind")) .nil)) .nil))) .nil))))) (.var 3)))
  .nop)
  (.seq (.asg (.nm 5) (.con (.str " !\"#&'()*+,-./0123456789:;<=>?@ABCDEFGHIJKLMNOPQRSTUVWXYZ[\\]^_`")))
  (.seq (.asg (.nm 5) (.bin .add (.var 5) (.con (.str "abcdefghijklmnopqrstuvwxyz{|}~\n\t"))))
  (.seq (.asg (.nm 6) (.idx (.var 5) (.call f__law_digit (.cons (.var 0) (.cons (.var 1) (.cons (.bi .len (.cons (.var 5) .nil)) .nil))))))
  (.ret (.tup (.cons (.var 6) (.cons (.tup (.cons (.con (.str "text")) (.cons (.var 6) .nil))) .nil)))))))))))
def fd__law_piece : Fd := ⟨3, 4, body__law_piece⟩
/-! _law_wrong: 0 script, 1 state, 2 names, 3 kind, 4 far, 5 name -/
abbrev T__law_wrong_0 : Tx := (.cmp .notn (.var 5) (.con .none))
abbrev E__law_wrong_0 : Ex := (.bin .add (.con (.str "q")) (.var 5))
def body__law_wrong : VM.St := (.seq (.asg (.nm 3) (.call f__law_digit (.cons (.var 0) (.cons (.var 1) (.cons (.con (.int 8)) .nil)))))
  (.seq (.asg (.nm 4) (.bi .str (.cons (.bin .add (.bi .len (.cons (.var 2) .nil)) (.call f__law_digit (.cons (.var 0) (.cons (.var 1) (.cons (.con (.int 100)) .nil))))) .nil)))
  (.seq (.ite (.cmp .eq (.var 3) (.con (.int 0)))
  (.ret (.idx (.lst (.cons (.con (.str "$a")) (.cons (.con (.str "$ ")) (.cons (.con (.str "$1")) (.cons (.con (.str "$}")) (.cons (.con (.str "$\n")) (.cons (.con (.str "$~")) .nil))))))) (.call f__law_digit (.cons (.var 0) (.cons (.var 1) (.cons (.con (.int 6)) .nil))))))
  .nop)
  (.seq (.ite (.cmp .eq (.var 3) (.con (.int 1)))
  (.ret (.bin .add (.bin .add (.con (.str "${")) (.var 4)) (.con (.str "}"))))
  .nop)
  (.seq (.ite (.cmp .eq (.var 3) (.con (.int 2)))
  (.ret (.bin .add (.bin .add (.con (.str "${0")) (.bi .str (.cons (.call f__law_digit (.cons (.var 0) (.cons (.var 1) (.cons (.con (.int 5)) .nil)))) .nil))) (.con (.str "}"))))
  .nop)
  (.seq (.ite (.cmp .eq (.var 3) (.con (.int 3)))
  (.ret (.con (.str "${}")))
  .nop)
  (.seq (.ite (.cmp .eq (.var 3) (.con (.int 4)))
  (.ret (.bin .add (.bin .add (.con (.str "${")) (.bm .join (.con (.str "")) (.cons (.lc [5] (.nm 5) (.sq (.var 2)) (.some T__law_wrong_0) E__law_wrong_0) .nil))) (.con (.str "qq}"))))
  .nop)
  (.seq (.ite (.cmp .eq (.var 3) (.con (.int 5)))
  (.ret (.con (.str "${ 0}")))
  .nop)
  (.seq (.ite (.cmp .eq (.var 3) (.con (.int 6)))
  (.ret (.con (.str "${-1}")))
  .nop)
  (.ret (.con (.str "${$&}"))))))))))))
def fd__law_wrong : Fd := ⟨3, 3, body__law_wrong⟩
/-! _law_joined: 0 parts, 1 joined, 2 part -/
abbrev L__law_joined_0 : VM.St := (.ite (.and (.cmp .eq (.idx (.var 2) (.con (.int 0))) (.con (.str "text"))) (.and (.cmp .gt (.bi .len (.cons (.var 1) .nil)) (.con (.int 0))) (.cmp .eq (.idx (.idx (.var 1) (.neg (.con (.int 1)))) (.con (.int 0))) (.con (.str "text")))))
  (.seti (.var 1) (.neg (.con (.int 1))) (.tup (.cons (.con (.str "text")) (.cons (.bin .add (.idx (.idx (.var 1) (.neg (.con (.int 1)))) (.con (.int 1))) (.idx (.var 2) (.con (.int 1)))) .nil))))
  (.exp (.bm .append (.var 1) (.cons (.var 2) .nil))))
def body__law_joined : VM.St := (.seq (.asg (.nm 1) (.own (.lst .nil)))
  (.seq (.for_ (.nm 2) (.sq (.var 0))
  L__law_joined_0 [2])
  (.ret (.var 1))))
def fd__law_joined : Fd := ⟨1, 2, body__law_joined⟩
/-! _law_column: 0 template, 1 names, 2 e -/
def body__law_column : VM.St := (.seq (.trx (some 2) 3
  (.exp (.call f_read_template (.cons (.var 0) (.cons (.var 1) .nil)))) 1 [(0, [("column", false)], (.f "column"))])
  (.ret (.con .none)))
def fd__law_column : Fd := ⟨2, 1, body__law_column⟩
/-! law: 0 script, 1 state, 2 names, 3 pieces, 4 template, 5 at, 6 before, 7 behind, 8 wrong, 9 ends, 10 k, 11 piece, 12 end -/
abbrev E_law_0 : Ex := (.con .none)
abbrev E_law_1 : Ex := (.call f__law_piece (.cons (.var 0) (.cons (.var 1) (.cons (.var 2) .nil))))
abbrev E_law_2 : Ex := (.idx (.var 11) (.con (.int 0)))
abbrev E_law_3 : Ex := (.idx (.var 11) (.con (.int 1)))
abbrev E_law_4 : Ex := (.idx (.var 11) (.con (.int 0)))
abbrev E_law_5 : Ex := (.idx (.var 11) (.con (.int 0)))
abbrev E_law_6 : Ex := (.call f__law_column (.cons (.var 12) (.cons (.var 2) .nil)))
abbrev E_law_7 : Ex := (.bin .add (.bi .len (.cons (.var 6) .nil)) (.con (.int 1)))
def body_law : VM.St := (.seq (.asg (.nm 1) (.own (.lst (.cons (.con (.int 0)) (.cons (.con (.int 0)) .nil)))))
  (.seq (.asg (.nm 2) (.call f__law_names (.cons (.var 0) (.cons (.var 1) .nil))))
  (.seq (.ite (.cmp .eq (.call f__law_digit (.cons (.var 0) (.cons (.var 1) (.cons (.con (.int 6)) .nil)))) (.con (.int 0)))
  (.asg (.nm 2) (.bin .add (.var 2) (.bi .tuple (.cons (.lc [10] (.nm 10) (.rg1 (.bin .add (.con (.int 9)) (.call f__law_digit (.cons (.var 0) (.cons (.var 1) (.cons (.con (.int 20)) .nil)))))) .none E_law_0) .nil))))
  .nop)
  (.seq (.asg (.nm 3) (.lc [10] (.nm 10) (.rg1 (.call f__law_digit (.cons (.var 0) (.cons (.var 1) (.cons (.con (.int 9)) .nil))))) .none E_law_1))
  (.seq (.asg (.nm 4) (.bm .join (.con (.str "")) (.cons (.lc [11] (.nm 11) (.sq (.var 3)) .none E_law_2) .nil)))
  (.seq (.ite (.not (.val (.call f__law_same (.cons (.call f_read_template (.cons (.var 4) (.cons (.var 2) .nil))) (.cons (.call f__law_joined (.cons (.lc [11] (.nm 11) (.sq (.var 3)) .none E_law_3) .nil)) .nil)))))
  (.ret (.con (.bool false)))
  .nop)
  (.seq (.ite (.cmp .eq (.call f__law_digit (.cons (.var 0) (.cons (.var 1) (.cons (.con (.int 2)) .nil)))) (.con (.int 0)))
  (.ret (.con (.bool true)))
  .nop)
  (.seq (.asg (.nm 5) (.call f__law_digit (.cons (.var 0) (.cons (.var 1) (.cons (.bin .add (.bi .len (.cons (.var 3) .nil)) (.con (.int 1))) .nil)))))
  (.seq (.asg (.nm 6) (.bm .join (.con (.str "")) (.cons (.lc [11] (.nm 11) (.sq (.slc (.var 3) .none (.some (.var 5)))) .none E_law_4) .nil)))
  (.seq (.asg (.nm 7) (.bm .join (.con (.str "")) (.cons (.lc [11] (.nm 11) (.sq (.slc (.var 3) (.some (.var 5)) .none)) .none E_law_5) .nil)))
  (.seq (.asg (.nm 8) (.call f__law_wrong (.cons (.var 0) (.cons (.var 1) (.cons (.var 2) .nil)))))
  (.seq (.ite (.not (.val (.call f__law_same (.cons (.call f__law_column (.cons (.bin .add (.bin .add (.var 6) (.var 8)) (.var 7)) (.cons (.var 2) .nil))) (.cons (.bin .add (.bi .len (.cons (.var 6) .nil)) (.con (.int 1))) .nil)))))
  (.ret (.con (.bool false)))
  .nop)
  (.seq (.asg (.nm 9) (.lst (.cons (.bin .add (.var 6) (.con (.str "$"))) (.cons (.bin .add (.var 6) (.con (.str "${"))) (.cons (.bin .add (.bin .add (.var 6) (.con (.str "${"))) (.bi .str (.cons (.bi .len (.cons (.var 2) .nil)) .nil))) (.cons (.bin .add (.var 6) (.con (.str "${0"))) .nil))))))
  (.ret (.cmp .eq (.lc [12] (.nm 12) (.sq (.var 9)) .none E_law_6) (.lc [12] (.nm 12) (.sq (.var 9)) .none E_law_7))))))))))))))))
def fd_law : Fd := ⟨1, 12, body_law⟩
def tb : Nat → Fd
  | 0 => fd_TemplateError___init__
  | 1 => fd_read_template
  | 2 => fd__groups_by_word
  | 3 => fd__read_dollar
  | 4 => fd__law_row
  | 5 => fd__law_digit
  | 6 => fd__law_same
  | 7 => fd__law_name
  | 8 => fd__law_names
  | 9 => fd__law_piece
  | 10 => fd__law_wrong
  | 11 => fd__law_joined
  | 12 => fd__law_column
  | 13 => fd_law
  | _ => ⟨0, 0, .nop⟩
theorem run_TemplateError___init__ (n : Nat) (es : List En) (S : Stv) : run tb (n + 1) f_TemplateError___init__ es S = runF (cbOf tb n) fd_TemplateError___init__ es S := run_succ tb n _ es S
theorem run_read_template (n : Nat) (es : List En) (S : Stv) : run tb (n + 1) f_read_template es S = runF (cbOf tb n) fd_read_template es S := run_succ tb n _ es S
theorem run__groups_by_word (n : Nat) (es : List En) (S : Stv) : run tb (n + 1) f__groups_by_word es S = runF (cbOf tb n) fd__groups_by_word es S := run_succ tb n _ es S
theorem run__read_dollar (n : Nat) (es : List En) (S : Stv) : run tb (n + 1) f__read_dollar es S = runF (cbOf tb n) fd__read_dollar es S := run_succ tb n _ es S
theorem run__law_row (n : Nat) (es : List En) (S : Stv) : run tb (n + 1) f__law_row es S = runF (cbOf tb n) fd__law_row es S := run_succ tb n _ es S
theorem run__law_digit (n : Nat) (es : List En) (S : Stv) : run tb (n + 1) f__law_digit es S = runF (cbOf tb n) fd__law_digit es S := run_succ tb n _ es S
theorem run__law_same (n : Nat) (es : List En) (S : Stv) : run tb (n + 1) f__law_same es S = runF (cbOf tb n) fd__law_same es S := run_succ tb n _ es S
theorem run__law_name (n : Nat) (es : List En) (S : Stv) : run tb (n + 1) f__law_name es S = runF (cbOf tb n) fd__law_name es S := run_succ tb n _ es S
theorem run__law_names (n : Nat) (es : List En) (S : Stv) : run tb (n + 1) f__law_names es S = runF (cbOf tb n) fd__law_names es S := run_succ tb n _ es S
theorem run__law_piece (n : Nat) (es : List En) (S : Stv) : run tb (n + 1) f__law_piece es S = runF (cbOf tb n) fd__law_piece es S := run_succ tb n _ es S
theorem run__law_wrong (n : Nat) (es : List En) (S : Stv) : run tb (n + 1) f__law_wrong es S = runF (cbOf tb n) fd__law_wrong es S := run_succ tb n _ es S
theorem run__law_joined (n : Nat) (es : List En) (S : Stv) : run tb (n + 1) f__law_joined es S = runF (cbOf tb n) fd__law_joined es S := run_succ tb n _ es S
theorem run__law_column (n : Nat) (es : List En) (S : Stv) : run tb (n + 1) f__law_column es S = runF (cbOf tb n) fd__law_column es S := run_succ tb n _ es S
theorem run_law (n : Nat) (es : List En) (S : Stv) : run tb (n + 1) f_law es S = runF (cbOf tb n) fd_law es S := run_succ tb n _ es S
end Lw
end

section
set_option Elab.async false
set_option linter.all false
set_option maxRecDepth 100000
set_option maxHeartbeats 4000000
namespace Lw
open PySem PySem.Spec PyProof.Rows L2 DL VM
/-! ### loops -/
open Classical in
theorem loopF_inv {f : En → Rho → Stv → Fl} {ch : Option (Nat × Cell)} {ks : List Nat} {n0 : Nat} (I : Nat → Rho → Stv → Prop) : ∀ (es : List En) (k : Nat) (ρ : Rho) (S : Stv), I k ρ S →
    (∀ i e ρ S, es[i]? = some e → I (k + i) ρ S → ∃ ρ' S', (f e ρ S = .nx ρ' S' ∨ f e ρ S = .ct ρ' S') ∧ chk ch (trim n0 (kill ks ρ') S') ∧ I (k + i + 1) (kill ks ρ') (trim n0 (kill ks ρ') S')) → ∃ ρ' S', loopF f ch ks n0 es ρ S = .nx ρ' S' ∧ I (k + es.length) ρ' S'
  | [], k, ρ, S, h, _ => ⟨ρ, S, rfl, h⟩
  | e :: es, k, ρ, S, h, hs => by
    obtain ⟨ρ', S', h1, h2, h3⟩ := hs 0 e ρ S rfl h
    obtain ⟨ρ2, S2, h4, h5⟩ := loopF_inv I es (k + 1) (kill ks ρ') (trim n0 (kill ks ρ') S') h3 fun i e ρ S he hi => by
      have := hs (i + 1) e ρ S he (by rw [← Nat.add_assoc, Nat.add_right_comm]; exact hi)
      rw [show k + 1 + i + 1 = k + (i + 1) + 1 by omega]
      exact this
    refine ⟨ρ2, S2, ?_, by rw [List.length_cons, show k + (es.length + 1) = k + 1 + es.length by omega]; exact h5⟩
    rw [loopF]
    rcases h1 with h1 | h1
    · rw [h1]
      show (if chk ch (trim n0 (kill ks ρ') S') then loopF f ch ks n0 es (kill ks ρ') (trim n0 (kill ks ρ') S') else .bad) = _
      rw [if_pos h2]
      exact h4
    · rw [h1]
      show (if chk ch (trim n0 (kill ks ρ') S') then loopF f ch ks n0 es (kill ks ρ') (trim n0 (kill ks ρ') S') else .bad) = _
      rw [if_pos h2]
      exact h4
/-- a loop that leaves all as it is -/
theorem loopF_same {f : En → Rho → Stv → Fl} {ch : Option (Nat × Cell)} {ks : List Nat} {n0 : Nat} {ρ : Rho} {S : Stv} {es : List En} (hc : chk ch S) (h : ∀ e ∈ es, ∃ ρ' S', f e ρ S = .nx ρ' S' ∧ kill ks ρ' = ρ ∧ trim n0 ρ S' = S) : loopF f ch ks n0 es ρ S = .nx ρ S := by
  obtain ⟨ρ', S', h1, rfl, rfl⟩ := loopF_inv (f := f) (ch := ch) (ks := ks) (n0 := n0) (fun _ ρ' S' => ρ' = ρ ∧ S' = S) es 0 ρ S ⟨rfl, rfl⟩ fun i e ρ1 S1 he hi => by
    obtain ⟨rfl, rfl⟩ := hi
    obtain ⟨ρ', S', h1, h2, h3⟩ := h e (List.mem_of_getElem? he)
    refine ⟨ρ', S', .inl h1, ?_, h2, ?_⟩
    · rw [h2, h3]; exact hc
    · rw [h2, h3]
  exact h1
open Classical in
/-- a comprehension whose items change nothing -/
theorem lcF_map {t : Rho → Stv → Out Bool} {f : Rho → Stv → Out Rv} {b : En → Rho → Option Rho} {ch : Option (Nat × Cell)} {n0 : Nat} {ρ : Rho} {S : Stv} (g : En → PyData) (hc : chk ch S) (hn : S.length ≤ n0) : ∀ (es : List En) (acc : List PyData), acc.length + es.length ≤ big → (∀ e ∈ es, ∃ ρ1 r, b e ρ = some ρ1 ∧ t ρ1 S = .ok true S ∧ f ρ1 S = .ok r S ∧ rvD r = some (g e)) →
    lcF t f b ch n0 ρ es acc S = .ok (acc ++ es.map g) S
  | [], acc, _, _ => by simp [lcF]
  | e :: es, acc, hl, h => by
    obtain ⟨ρ1, r, h1, h2, h3, h4⟩ := h e List.mem_cons_self
    have ht : trim n0 ρ S = S := by unfold trim; rw [if_pos hn]
    rw [List.length_cons] at hl
    rw [lcF, h1]
    simp only [h2, if_true, h3, h4, ht]
    rw [if_pos ⟨hc, show acc.length < big by omega⟩]
    rw [lcF_map g hc hn es (acc ++ [g e]) (by simp; omega) fun e' he => h e' (List.mem_cons_of_mem _ he)]
    simp
open Classical in
/-- a comprehension whose items keep a property of the store -/
theorem lcF_inv {t : Rho → Stv → Out Bool} {f : Rho → Stv → Out Rv} {b : En → Rho → Option Rho} {ch : Option (Nat × Cell)} {n0 : Nat} {ρ : Rho} (I : Stv → Prop) (P : PyData → Prop) : ∀ (es : List En) (acc : List PyData) (S : Stv), I S → acc.length + es.length ≤ big → (∀ e ∈ es, ∀ S, I S → ∃ ρ1 r S2 d, b e ρ = some ρ1 ∧ t ρ1 S = .ok true S ∧ f ρ1 S = .ok r S2 ∧ rvD r = some d ∧ P d ∧ chk ch (trim n0 ρ S2) ∧ I (trim n0 ρ S2)) →
    ∃ ds S', lcF t f b ch n0 ρ es acc S = .ok (acc ++ ds) S' ∧ ds.length = es.length ∧ (∀ d ∈ ds, P d) ∧ I S'
  | [], acc, S, hi, _, _ => ⟨[], S, by simp [lcF], rfl, nofun, hi⟩
  | e :: es, acc, S, hi, hl, h => by
    obtain ⟨ρ1, r, S2, d, h1, h2, h3, h4, h5, h6, h7⟩ := h e List.mem_cons_self S hi
    rw [List.length_cons] at hl
    obtain ⟨ds, S', g1, g2, g3, g4⟩ := lcF_inv I P es (acc ++ [d]) _ h7 (by simp; omega) fun e' he => h e' (List.mem_cons_of_mem _ he)
    refine ⟨d :: ds, S', ?_, by simp [g2], fun x hx => ?_, g4⟩
    · rw [lcF, h1]
      simp only [h2, if_true, h3, h4]
      rw [if_pos ⟨h6, show acc.length < big by omega⟩, g1]
      simp
    · rcases List.mem_cons.mp hx with rfl | hx
      · exact h5
      · exact g3 _ hx
@[simp] theorem rngD_0 (a : Int) : rngD a 0 = [] := by simp [rngD]
@[simp] theorem len_rngD (a : Int) (k : Nat) : (rngD a k).length = k := by simp [rngD]
theorem ofS_inj' {a b : String} (h : Str.ofString a = Str.ofString b) : a = b := by
  rw [Str.ofString_eq_toList, Str.ofString_eq_toList] at h
  injection h with h
  have h2 : a.toList.map Char.toNat = b.toList.map Char.toNat := by simpa using h
  have h3 : a.toList = b.toList := (List.map_inj_right (f := Char.toNat) fun x y e => by
    apply Char.ext
    exact UInt32.toNat_inj.mp e).mp h2
  exact String.toList_inj.mp h3
@[simp] theorem ofS_inj (a b : String) : (Str.ofString a = Str.ofString b) = (a = b) := propext ⟨ofS_inj', fun h => h ▸ rfl⟩
@[simp] theorem ofS_beq (a b : String) : (Str.ofString a == Str.ofString b) = decide (a = b) := by
  by_cases h : a = b
  · subst h; simp
  · have : Str.ofString a ≠ Str.ofString b := fun e => h (ofS_inj' e)
    simp [h, this]
theorem whileN_mono {t : Rho → Stv → Out Bool} {f : Rho → Stv → Fl} {ks : List Nat} {n0 : Nat} : ∀ (n m : Nat) (ρ : Rho) (S : Stv), n ≤ m → whileN t f ks n0 n ρ S ≠ .bad → whileN t f ks n0 m ρ S = whileN t f ks n0 n ρ S
  | 0, _, _, _, _, h => absurd rfl h
  | n + 1, 0, _, _, h, _ => by omega
  | n + 1, m + 1, ρ, S, h, hb => by
    unfold whileN at hb ⊢
    cases ht : t ρ S with
    | bad => rfl
    | ex c fs S1 => rfl
    | ok b S1 =>
      rw [ht] at hb
      simp only [Out.fl] at hb ⊢
      cases b with
      | false => rfl
      | true =>
        simp only [if_true] at hb ⊢
        cases hf : f ρ S1 with
        | nx ρ' S' =>
          rw [hf] at hb
          exact whileN_mono n m _ _ (by omega) hb
        | ct ρ' S' =>
          rw [hf] at hb
          exact whileN_mono n m _ _ (by omega) hb
        | _ => rfl
theorem whileF_of {t : Rho → Stv → Out Bool} {f : Rho → Stv → Fl} {ks : List Nat} {n0 : Nat} {n : Nat} {ρ : Rho} {S : Stv} {r : Fl} (h : whileN t f ks n0 n ρ S = r) (hr : r ≠ .bad) : whileF t f ks n0 ρ S = r := by
  have hn : whileN t f ks n0 n ρ S ≠ .bad := by rw [h]; exact hr
  have hx : ∃ n, whileN t f ks n0 n ρ S ≠ .bad := ⟨n, hn⟩
  unfold whileF
  rw [dif_pos hx]
  have hc := hx.choose_spec
  rcases Nat.le_total n hx.choose with hle | hle
  · rw [whileN_mono _ _ _ _ hle hn, h]
  · rw [← whileN_mono _ _ _ _ hle hc, h]
theorem whileN_end {t : Rho → Stv → Out Bool} {f : Rho → Stv → Fl} {ks : List Nat} {n0 n : Nat} {ρ : Rho} {S S1 : Stv} (h : t ρ S = .ok false S1) : whileN t f ks n0 (n + 1) ρ S = .nx ρ S1 := by
  unfold whileN
  rw [h]
  rfl
theorem whileN_nx {t : Rho → Stv → Out Bool} {f : Rho → Stv → Fl} {ks : List Nat} {n0 n : Nat} {ρ ρ' : Rho} {S S1 S' : Stv} {r : Fl} (h : t ρ S = .ok true S1) (h2 : f ρ S1 = .nx ρ' S') (h3 : whileN t f ks n0 n (kill ks ρ') (trim n0 (kill ks ρ') S') = r) : whileN t f ks n0 (n + 1) ρ S = r := by
  unfold whileN
  rw [h]
  simp only [Out.fl, if_true, h2, h3]
@[simp] theorem lookup_ofS {β : Type} (a b : String) (v : β) (l : List (Str × β)) : List.lookup (Str.ofString a) ((Str.ofString b, v) :: l) = if a = b then some v else List.lookup (Str.ofString a) l := by
  rw [List.lookup_cons, ofS_beq]
  by_cases h : a = b <;> simp [h]
@[simp] theorem idxOf_c (a b : Nat) (l : List Nat) : List.idxOf a (b :: l) = if b = a then 0 else List.idxOf a l + 1 := by
  rw [List.idxOf_cons]
  by_cases h : b = a
  · simp [h]
  · have e : (b == a) = false := by simpa using h
    rw [e, if_neg h]
    rfl
@[simp] theorem mergeC_0 (m : Nat) (S' : Stv) : ∀ (i : Nat) (X : Stv), mergeC [0] m S' (i + 1) X = X
  | _, [] => rfl
  | i, c :: X => by
    rw [mergeC, mergeC_0 m S' (i + 1) X]
    simp
@[simp] theorem mergeC_1 (m : Nat) (S' : Stv) (X : Stv) : mergeC [0] m S' 1 X = X := mergeC_0 m S' 0 X
@[simp] theorem mergeC_nil (m : Nat) (S' : Stv) : ∀ (i : Nat) (X : Stv), mergeC [] m S' i X = X
  | _, [] => rfl
  | i, c :: X => by
    rw [mergeC, mergeC_nil m S' (i + 1) X]
    simp
theorem atI_in {α : Type} {l : List α} {i : Int} (h0 : 0 ≤ i) (h : i < (l.length : Int)) : ∃ d, atI l i = some d ∧ d ∈ l := by
  obtain ⟨j, rfl⟩ : ∃ j : Nat, i = (j : Int) := ⟨i.toNat, by omega⟩
  have hl : j < l.length := by omega
  exact ⟨l[j], atI_nat (List.getElem?_eq_getElem hl), List.getElem_mem hl⟩
/-! ### kinds of values -/
@[simp] theorem kb_nb : kitB "NoneType" "bool" = some false := by decide +kernel
@[simp] theorem kb_ni : kitB "NoneType" "int" = some false := by decide +kernel
@[simp] theorem kb_ns : kitB "NoneType" "str" = some false := by decide +kernel
@[simp] theorem kb_nt : kitB "NoneType" "tuple" = some false := by decide +kernel
@[simp] theorem kb_nl : kitB "NoneType" "list" = some false := by decide +kernel
@[simp] theorem kb_bb : kitB "bool" "bool" = some true := by decide +kernel
@[simp] theorem kb_bi : kitB "bool" "int" = some true := by decide +kernel
@[simp] theorem kb_bs : kitB "bool" "str" = some false := by decide +kernel
@[simp] theorem kb_bt : kitB "bool" "tuple" = some false := by decide +kernel
@[simp] theorem kb_bl : kitB "bool" "list" = some false := by decide +kernel
@[simp] theorem kb_ib : kitB "int" "bool" = some false := by decide +kernel
@[simp] theorem kb_ii : kitB "int" "int" = some true := by decide +kernel
@[simp] theorem kb_is : kitB "int" "str" = some false := by decide +kernel
@[simp] theorem kb_it : kitB "int" "tuple" = some false := by decide +kernel
@[simp] theorem kb_il : kitB "int" "list" = some false := by decide +kernel
@[simp] theorem kb_sb : kitB "str" "bool" = some false := by decide +kernel
@[simp] theorem kb_si : kitB "str" "int" = some false := by decide +kernel
@[simp] theorem kb_ss : kitB "str" "str" = some true := by decide +kernel
@[simp] theorem kb_st : kitB "str" "tuple" = some false := by decide +kernel
@[simp] theorem kb_sl : kitB "str" "list" = some false := by decide +kernel
@[simp] theorem kb_tb : kitB "tuple" "bool" = some false := by decide +kernel
@[simp] theorem kb_ti : kitB "tuple" "int" = some false := by decide +kernel
@[simp] theorem kb_ts : kitB "tuple" "str" = some false := by decide +kernel
@[simp] theorem kb_tt : kitB "tuple" "tuple" = some true := by decide +kernel
@[simp] theorem kb_tl : kitB "tuple" "list" = some false := by decide +kernel
@[simp] theorem kb_lb : kitB "list" "bool" = some false := by decide +kernel
@[simp] theorem kb_li : kitB "list" "int" = some false := by decide +kernel
@[simp] theorem kb_ls : kitB "list" "str" = some false := by decide +kernel
@[simp] theorem kb_lt : kitB "list" "tuple" = some false := by decide +kernel
@[simp] theorem kb_ll : kitB "list" "list" = some true := by decide +kernel
@[simp] theorem ty_none : tyD .none = "NoneType" := rfl
@[simp] theorem ty_bool (b : Bool) : tyD (.bool b) = "bool" := rfl
@[simp] theorem ty_int (i : Int) : tyD (.int i) = "int" := rfl
@[simp] theorem ty_str (x : Str) : tyD (.str x) = "str" := rfl
@[simp] theorem ty_list (ds : List PyData) : tyD (.list ds) = "list" := rfl
@[simp] theorem ty_tup (ds : List PyData) : tyD (.tuple ds) = "tuple" := rfl
open Classical in
/-- a loop whose turns are steps of a function -/
theorem loopF_fold {τ σ : Type} {f : En → Rho → Stv → Fl} {ch : Option (Nat × Cell)} {ks : List Nat} {n0 : Nat} (R : σ → Rho) (T : σ → Stv) (step : σ → τ → σ) (g : τ → En) (I : σ → List τ → Prop)
    (h : ∀ s x xs, I s (x :: xs) → I (step s x) xs ∧ ∃ ρ' S', (f (g x) (R s) (T s) = .nx ρ' S' ∨ f (g x) (R s) (T s) = .ct ρ' S') ∧ kill ks ρ' = R (step s x) ∧ trim n0 (R (step s x)) S' = T (step s x) ∧ chk ch (T (step s x))) :
    ∀ (xs : List τ) (s : σ), I s xs → loopF f ch ks n0 (xs.map g) (R s) (T s) = .nx (R (xs.foldl step s)) (T (xs.foldl step s)) ∧ I (xs.foldl step s) []
  | [], s, hi => ⟨rfl, hi⟩
  | x :: xs, s, hi => by
    obtain ⟨h1, ρ', S', h2, h3, h4, h5⟩ := h s x xs hi
    have ih := loopF_fold R T step g I h xs (step s x) h1
    refine ⟨?_, ih.2⟩
    rw [List.map_cons, loopF]
    rcases h2 with h2 | h2
    · rw [h2]
      show (if chk ch (trim n0 (kill ks ρ') S') then loopF f ch ks n0 (xs.map g) (kill ks ρ') (trim n0 (kill ks ρ') S') else .bad) = _
      rw [h3, h4, if_pos h5]
      exact ih.1
    · rw [h2]
      show (if chk ch (trim n0 (kill ks ρ') S') then loopF f ch ks n0 (xs.map g) (kill ks ρ') (trim n0 (kill ks ρ') S') else .bad) = _
      rw [h3, h4, if_pos h5]
      exact ih.1
open Classical in
/-- a comprehension with a test, whose items change nothing -/
theorem lcF_filt {τ : Type} {t : Rho → Stv → Out Bool} {f : Rho → Stv → Out Rv} {b : En → Rho → Option Rho} {ch : Option (Nat × Cell)} {n0 : Nat} {ρ : Rho} {S : Stv} (e : τ → En) (c : τ → Bool) (g : τ → PyData) (hc : chk ch S) (hn : S.length ≤ n0) : ∀ (xs : List τ) (acc : List PyData), acc.length + xs.length ≤ big → (∀ x ∈ xs, ∃ ρ1, b (e x) ρ = some ρ1 ∧ t ρ1 S = .ok (c x) S ∧ (c x = true → ∃ r, f ρ1 S = .ok r S ∧ rvD r = some (g x))) →
    lcF t f b ch n0 ρ (xs.map e) acc S = .ok (acc ++ (xs.filter c).map g) S
  | [], acc, _, _ => by simp [lcF]
  | x :: xs, acc, hl, h => by
    obtain ⟨ρ1, h1, h2, h3⟩ := h x List.mem_cons_self
    have ht : trim n0 ρ S = S := by unfold trim; rw [if_pos hn]
    rw [List.length_cons] at hl
    rw [List.map_cons, lcF, h1]
    simp only [h2]
    cases hcx : c x with
    | true =>
      obtain ⟨r, h4, h5⟩ := h3 hcx
      simp only [if_true, h4, h5, ht]
      rw [if_pos ⟨hc, show acc.length < big by omega⟩, lcF_filt e c g hc hn xs (acc ++ [g x]) (by simp; omega) fun x' hx => h x' (List.mem_cons_of_mem _ hx), List.filter_cons, if_pos hcx]
      simp
    | false =>
      simp only [Bool.false_eq_true, if_false, ht]
      rw [if_pos hc, lcF_filt e c g hc hn xs acc (by omega) fun x' hx => h x' (List.mem_cons_of_mem _ hx), List.filter_cons, if_neg (by simp [hcx])]
theorem filt_true {τ : Type} {xs : List τ} {c : τ → Bool} (h : ∀ x ∈ xs, c x = true) : xs.filter c = xs := List.filter_eq_self.mpr h
/-- steps of a while loop -/
def Stps (t : Rho → Stv → Out Bool) (f : Rho → Stv → Fl) (ks : List Nat) (n0 : Nat) (ρ : Rho) (S : Stv) (ρ' : Rho) (S' : Stv) : Prop := ∃ k, ∀ m, whileN t f ks n0 (m + k) ρ S = whileN t f ks n0 m ρ' S'
theorem Stps.refl {t : Rho → Stv → Out Bool} {f : Rho → Stv → Fl} {ks : List Nat} {n0 : Nat} {ρ : Rho} {S : Stv} : Stps t f ks n0 ρ S ρ S := ⟨0, fun _ => rfl⟩
theorem Stps.trans {t : Rho → Stv → Out Bool} {f : Rho → Stv → Fl} {ks : List Nat} {n0 : Nat} {ρ ρ1 ρ2 : Rho} {S S1 S2 : Stv} (h : Stps t f ks n0 ρ S ρ1 S1) (h' : Stps t f ks n0 ρ1 S1 ρ2 S2) : Stps t f ks n0 ρ S ρ2 S2 := by
  obtain ⟨k, hk⟩ := h
  obtain ⟨j, hj⟩ := h'
  exact ⟨j + k, fun m => by rw [← Nat.add_assoc, hk, hj]⟩
theorem Stps.one {t : Rho → Stv → Out Bool} {f : Rho → Stv → Fl} {ks : List Nat} {n0 : Nat} {ρ ρ1 : Rho} {S S1 S2 : Stv} (h : t ρ S = .ok true S1) (h2 : f ρ S1 = .nx ρ1 S2 ∨ f ρ S1 = .ct ρ1 S2) : Stps t f ks n0 ρ S (kill ks ρ1) (trim n0 (kill ks ρ1) S2) := ⟨1, fun m => by
  rw [whileN]
  rw [h]
  rcases h2 with h2 | h2 <;> simp only [Out.fl, if_true, h2]⟩
theorem Stps.done {t : Rho → Stv → Out Bool} {f : Rho → Stv → Fl} {ks : List Nat} {n0 : Nat} {ρ ρ1 : Rho} {S S1 S2 : Stv} (h : Stps t f ks n0 ρ S ρ1 S1) (h2 : t ρ1 S1 = .ok false S2) : whileF t f ks n0 ρ S = .nx ρ1 S2 := by
  obtain ⟨k, hk⟩ := h
  exact whileF_of (n := 1 + k) (by rw [hk]; exact whileN_end h2) nofun
theorem whileN_more' {t : Rho → Stv → Out Bool} {f : Rho → Stv → Fl} {ks : List Nat} {n0 : Nat} {ρ ρ1 : Rho} {S S1 : Stv} (h : whileF t f ks n0 ρ S = .nx ρ1 S1) : ∃ n, whileN t f ks n0 n ρ S = .nx ρ1 S1 := by
  unfold whileF at h
  split at h
  · exact ⟨_, h⟩
  · cases h
/-- cells behind all those that a call sees stay -/
theorem mergeC_big {ks : List Nat} (m : Nat) (S' : Stv) : ∀ (X : Stv) (i : Nat), (∀ k ∈ ks, k < i) → mergeC ks m S' i X = X
  | [], _, _ => rfl
  | c :: X, i, h => by
    have hi : ¬ i ∈ ks := fun z => Nat.lt_irrefl _ (h i z)
    rw [mergeC, mergeC_big m S' X (i + 1) fun k hk => Nat.lt_succ_of_lt (h k hk), if_neg hi]

/-! ### a cell of the script, mixed -/
def scr (ns : List Int) : PyData := .list (ns.map PyData.int)
def rowCell (ns : List Int) (k : Int) : Int := if k < (ns.length : Int) then ns.getD k.toNat 0 else 0
def rowAbs (ns : List Int) (k : Int) : Int := if rowCell ns k < 0 then 1 - 2 * rowCell ns k else rowCell ns k
def rowMix (ns : List Int) (k : Int) : Int := ((rowAbs ns k + 7919 * k + 1) * 6364136223846793005 + 1442695040888963407) % 2305843009213693951
def lawRow (ns : List Int) (k : Int) : Int := if rowAbs ns k ≥ 10 ^ 9 then rowAbs ns k else (rowMix ns k * rowMix ns k + 104729 * k + 977) % 2305843009213693951
theorem lawRow_nn (ns : List Int) (k : Int) : 0 ≤ lawRow ns k := by
  unfold lawRow
  split
  · omega
  · exact Int.emod_nonneg _ (by decide)
theorem atI_ints {ns : List Int} {k : Int} (h0 : 0 ≤ k) (h : k < (ns.length : Int)) : atI (ns.map PyData.int) k = some (.int (ns.getD k.toNat 0)) := by
  obtain ⟨j, rfl⟩ : ∃ j : Nat, k = (j : Int) := ⟨k.toNat, by omega⟩
  have hl : j < ns.length := by omega
  refine atI_nat ?_
  rw [List.getElem?_map, List.getElem?_eq_getElem hl]
  simp [List.getD, List.getElem?_eq_getElem hl]
theorem ok_row {n : Nat} {ns : List Int} {k : Int} (hk : 0 ≤ k) : run tb (n + 1) f__law_row [.dt (scr ns), .dt (.int k)] [] = .ok (.v (.int (lawRow ns k))) [] := by
  have hmx : (rowMix ns k).natAbs < 2 ^ 61 := by
    have h1 := Int.emod_nonneg ((rowAbs ns k + 7919 * k + 1) * 6364136223846793005 + 1442695040888963407) (b := 2305843009213693951) (by decide)
    have h2 := Int.emod_lt_of_pos ((rowAbs ns k + 7919 * k + 1) * 6364136223846793005 + 1442695040888963407) (b := 2305843009213693951) (by decide)
    unfold rowMix
    omega
  have hm2 : -18446744073709551616 < rowMix ns k ∧ rowMix ns k < 18446744073709551616 := by omega
  rw [run__law_row]
  have e2 : rowAbs ns k = if rowCell ns k < 0 then 1 - 2 * rowCell ns k else rowCell ns k := rfl
  have e3 : lawRow ns k = if rowAbs ns k ≥ 10 ^ 9 then rowAbs ns k else (rowMix ns k * rowMix ns k + 104729 * k + 977) % 2305843009213693951 := rfl
  have em : ((rowAbs ns k + 7919 * k + 1) * 6364136223846793005 + 1442695040888963407) % 2305843009213693951 = rowMix ns k := rfl
  -- behind the first two ifs the cell is rowAbs
  have two : ∀ c, c = rowCell ns k → (exec (cbOf tb n) (.ite (.cmp .lt (.var 2) (.con (.int 0))) (.asg (.nm 2) (.bin .sub (.con (.int 1)) (.bin .mul (.con (.int 2)) (.var 2)))) .nop) [.dt (scr ns), .dt (.int k), .dt (.int c), .un] []) = .nx [.dt (scr ns), .dt (.int k), .dt (.int (rowAbs ns k)), .un] [] := by
    rintro c rfl
    rw [e2]
    by_cases h2 : rowCell ns k < 0
    · simp [h2]
    · simp [h2]
  have one : (exec (cbOf tb n) (.ite (.cmp .lt (.var 1) (.bi .len (.cons (.var 0) .nil))) (.asg (.nm 2) (.idx (.var 0) (.var 1))) .nop) [.dt (scr ns), .dt (.int k), .dt (.int 0), .un] []) = .nx [.dt (scr ns), .dt (.int k), .dt (.int (rowCell ns k)), .un] [] := by
    by_cases h1 : k < (ns.length : Int)
    · have e1 : atI (ns.map PyData.int) k = some (.int (rowCell ns k)) := by
        rw [atI_ints hk h1]
        unfold rowCell
        rw [if_pos h1]
      simp [scr, h1, e1]
    · have e1 : rowCell ns k = 0 := by unfold rowCell; rw [if_neg h1]
      simp [scr, h1, e1]
  refine run_of (fl := .rt (.v (.int (lawRow ns k))) []) rfl ?_ (by simp)
  show exec (cbOf tb n) body__law_row [.dt (scr ns), .dt (.int k), .un, .un] [] = _
  unfold body__law_row
  refine seq_nx rfl (seq_nx one (seq_nx (two _ rfl) ?_))
  rw [e3]
  by_cases h3 : (10 : Int) ^ 9 ≤ rowAbs ns k
  · rw [if_pos h3]
    simp at h3
    simp [h3]
  · rw [if_neg h3]
    simp at h3
    have h3' : ¬ (1000000000 : Int) ≤ rowAbs ns k := by omega
    simp [h3', em, hm2]

/-! ### digits of the script -/
abbrev St2 := Int × Int
def stD (s : St2) : List PyData := [.int s.1, .int s.2]
def okS (s : St2) : Prop := 0 ≤ s.1 ∧ 0 ≤ s.2
def dgV (ns : List Int) (s : St2) : Int := if s.1 = 0 then lawRow ns s.2 else s.1
def dg (ns : List Int) (s : St2) (m : Int) : Int := dgV ns s % m
def dgS (ns : List Int) (s : St2) (m : Int) : St2 := (dgV ns s / m, if s.1 = 0 then s.2 + 1 else s.2)
theorem dgV_nn {ns : List Int} {s : St2} (h : okS s) : 0 ≤ dgV ns s := by
  unfold dgV
  split
  · exact lawRow_nn _ _
  · exact h.1
theorem dg_nn {ns : List Int} {s : St2} {m : Int} (hm : 0 < m) : 0 ≤ dg ns s m := Int.emod_nonneg _ (by omega)
theorem dg_lt {ns : List Int} {s : St2} {m : Int} (hm : 0 < m) : dg ns s m < m := Int.emod_lt_of_pos _ hm
theorem dgS_ok {ns : List Int} {s : St2} {m : Int} (h : okS s) (hm : 0 < m) : okS (dgS ns s m) := ⟨Int.ediv_nonneg (dgV_nn h) (by omega), by
  unfold dgS
  have := h.2
  try dsimp only
  split <;> omega⟩
@[simp] theorem atI_zero {α : Type} (a : α) (l : List α) : atI (a :: l) 0 = some a := atI_nat (j := 0) rfl
@[simp] theorem atI_one {α : Type} (a b : α) (l : List α) : atI (a :: b :: l) 1 = some b := atI_nat (j := 1) rfl
@[simp] theorem atI_two {α : Type} (a b c : α) (l : List α) : atI (a :: b :: c :: l) 2 = some c := atI_nat (j := 2) rfl
@[simp] theorem atI_three {α : Type} (a b c d : α) (l : List α) : atI (a :: b :: c :: d :: l) 3 = some d := atI_nat (j := 3) rfl
@[simp] theorem atI_four {α : Type} (a b c d e : α) (l : List α) : atI (a :: b :: c :: d :: e :: l) 4 = some e := atI_nat (j := 4) rfl
@[simp] theorem ixN_0 (n : Nat) : ixN (n + 1) 0 = some 0 := @ixN_nat (n + 1) 0 (by omega)
@[simp] theorem ixN_1 (n : Nat) : ixN (n + 2) 1 = some 1 := @ixN_nat (n + 2) 1 (by omega)
@[simp] theorem ixN_2 (n : Nat) : ixN (n + 3) 2 = some 2 := @ixN_nat (n + 3) 2 (by omega)
@[simp] theorem ixN_3 (n : Nat) : ixN (n + 4) 3 = some 3 := @ixN_nat (n + 4) 3 (by omega)
theorem ok_digX {n : Nat} {ns : List Int} {s : St2} {m : Int} {xs : List PyData} (ho : okS s) (hm : 0 < m) (hm2 : m < 4611686018427387904) : run tb (n + 2) f__law_digit [.dt (scr ns), .mu 0, .dt (.int m)] [.lst (.int s.1 :: .int s.2 :: xs)] = .ok (.v (.int (dg ns s m))) [.lst (.int (dgS ns s m).1 :: .int (dgS ns s m).2 :: xs)] := by
  rw [run__law_digit]
  refine run_of (fl := .rt (.v (.int (dg ns s m))) [.lst (.int (dgS ns s m).1 :: .int (dgS ns s m).2 :: xs)]) rfl ?_ (by simp)
  show exec (cbOf tb (n + 1)) body__law_digit [.dt (scr ns), .mu 0, .dt (.int m), .un] _ = _
  unfold body__law_digit
  refine seq_nx (ρ1 := [.dt (scr ns), .mu 0, .dt (.int m), .un]) (S1 := [.lst (.int (dgV ns s) :: .int (dgS ns s m).2 :: xs)]) ?_ ?_
  · have hr : run tb (n + 1) f__law_row [.dt (scr ns), .dt (.int s.2)] [] = .ok (.v (.int (lawRow ns s.2))) [] := ok_row ho.2
    by_cases h : s.1 = 0
    · simp [h, hr, dgV, dgS]
    · simp [h, dgV, dgS]
  · simp [hm, hm2, dg, dgS]
theorem ok_dig {n : Nat} {ns : List Int} {s : St2} {m : Int} (ho : okS s) (hm : 0 < m) (hm2 : m < 4611686018427387904) : run tb (n + 2) f__law_digit [.dt (scr ns), .mu 0, .dt (.int m)] [.lst [.int s.1, .int s.2]] = .ok (.v (.int (dg ns s m))) [.lst [.int (dgS ns s m).1, .int (dgS ns s m).2]] := ok_digX (xs := []) ho hm hm2

/-! ### the same data -/
def dOk : Nat → PyData → Prop
  | 0, _ => False
  | n + 1, .list ds => ds.length ≤ 100000 ∧ ∀ d ∈ ds, dOk n d
  | n + 1, .tuple ds => ds.length ≤ 100000 ∧ ∀ d ∈ ds, dOk n d
  | _ + 1, .dict _ => False
  | _ + 1, .str x => x.length ≤ 100000
  | _ + 1, _ => True
def sameB : VM.St := (.ite (.not (.val (.call f__law_same (.cons (.idx (.var 0) (.var 2)) (.cons (.idx (.var 1) (.var 2)) .nil))))) (.ret (.con (.bool false))) .nop)
theorem same_loop {n : Nat} {d : PyData} {ds : List PyData} (hs : sqR [] (.v d) = some ds) (hd : ∀ z, d ≠ .str z) (h : ∀ e ∈ ds, run tb n f__law_same [.dt e, .dt e] [] = .ok (.v (.bool true)) []) :
    loopF (forB (cbOf tb n) (.nm 2) sameB) none [2] 0 ((rngD 0 ds.length).map .dt) [.dt d, .dt d, .un] [] = .nx [.dt d, .dt d, .un] [] := by
  refine loopF_same trivial fun e he => ?_
  obtain ⟨x, hx, rfl⟩ := List.mem_map.mp he
  unfold rngD at hx
  obtain ⟨i, hi, rfl⟩ := List.mem_map.mp hx
  have hi : i < ds.length := by simpa using hi
  have ha : atI ds (i : Int) = some ds[i] := atI_nat (List.getElem?_eq_getElem hi)
  have hx : idxO (.v d) (.v (.int (i : Int))) [] = .ok (.v ds[i]) [] := by
    cases d with
    | list _ => cases hs; simp [ha]
    | tuple _ => cases hs; simp [ha]
    | str z => exact absurd rfl (hd z)
    | _ => cases hs
  refine ⟨[.dt d, .dt d, .dt (.int (i : Int))], [], ?_, rfl, rfl⟩
  have hr := h _ (List.getElem_mem hi)
  unfold sameB
  simp only [forB_nm, Int.zero_add]
  simp [-idxO, hx, hr]
theorem ok_same : ∀ {n : Nat} {d : PyData}, dOk n d → run tb n f__law_same [.dt d, .dt d] [] = .ok (.v (.bool true)) []
  | 0, d, h => h.elim
  | n + 1, d, h => by
    rw [run__law_same]
    refine run_of (fl := .rt (.v (.bool true)) []) rfl ?_ (by simp)
    show exec (cbOf tb n) body__law_same [.dt d, .dt d, .un] _ = _
    unfold body__law_same
    cases d with
    | none => simp
    | bool b => simp
    | int i => simp
    | str x => simp
    | list ds =>
      have hl := same_loop (d := .list ds) rfl nofun fun e he => ok_same (h.2 e he)
      unfold sameB at hl
      have h1 : (ds.length : Int) ≤ 1000000000 := by have := h.1; omega
      have h2 : (-1000000000 : Int) ≤ (ds.length : Int) := by omega
      simp [h1, h2, hl]
    | tuple ds =>
      have hl := same_loop (d := .tuple ds) rfl nofun fun e he => ok_same (h.2 e he)
      unfold sameB at hl
      have h1 : (ds.length : Int) ≤ 1000000000 := by have := h.1; omega
      have h2 : (-1000000000 : Int) ≤ (ds.length : Int) := by omega
      simp [h1, h2, hl]
    | dict kvs => exact h.elim

/-! ### texts as lists of codes -/
def SL (l : List Nat) : Str := ⟨l.toArray⟩
@[simp] theorem SL_len (l : List Nat) : (SL l).length = l.length := by simp [SL, Str.length]
theorem SL_app (a b : List Nat) : SL a ++ SL b = SL (a ++ b) := by
  show (⟨a.toArray ++ b.toArray⟩ : Str) = ⟨(a ++ b).toArray⟩
  simp
theorem SL_of (t : Str) : t = SL t.cps.toList := by simp [SL]
theorem SL_cps (l : List Nat) : (SL l).cps.toList = l := by simp [SL]
theorem sIx_nat {n d i : Nat} (h : i ≤ n) : HT.sIx n d (some (i : Int)) = i := by
  unfold HT.sIx
  have h0 : ¬ (i : Int) < 0 := by omega
  simp only [h0, if_false, Int.toNat_natCast]
  omega
theorem cut_lo {l : List Nat} {p : Nat} (h : p ≤ l.length) : cutS (SL l) none (some (p : Int)) = SL (l.take p) := by
  have e : (SL l).length = l.length := SL_len l
  unfold cutS
  rw [e, sIx_nat h, SL_cps]
  rfl
theorem cut_hi {l : List Nat} {p : Nat} (h : p ≤ l.length) : cutS (SL l) (some (p : Int)) none = SL (l.drop p) := by
  have e : (SL l).length = l.length := SL_len l
  unfold cutS
  rw [e, sIx_nat h, SL_cps, show HT.sIx l.length l.length none = l.length from rfl, List.take_of_length_le (by rw [List.length_drop]; omega)]
  rfl
theorem cut_both {l : List Nat} {p q : Nat} (h : p ≤ l.length) (h2 : q ≤ l.length) : cutS (SL l) (some (p : Int)) (some (q : Int)) = SL ((l.drop p).take (q - p)) := by
  have e : (SL l).length = l.length := SL_len l
  unfold cutS
  rw [e, sIx_nat h, sIx_nat h2, SL_cps]
  rfl

/-! ### a digit, a comprehension that draws, loops -/
theorem drw {ns : List Int} {s : St2} (m : Nat) (ho : okS s) (hm : 0 < m) (hm2 : m < 4611686018427387904) : ∃ (k : Nat) (s' : St2), k < m ∧ okS s' ∧ ∀ n, run tb (n + 2) f__law_digit [.dt (scr ns), .mu 0, .dt (.int (m : Int))] [.lst [.int s.1, .int s.2]] = .ok (.v (.int (k : Int))) [.lst [.int s'.1, .int s'.2]] := by
  have h1 := dg_nn (ns := ns) (s := s) (m := m) (by omega)
  have h2 := dg_lt (ns := ns) (s := s) (m := m) (by omega)
  obtain ⟨k, hk⟩ : ∃ k : Nat, dg ns s m = (k : Int) := ⟨(dg ns s m).toNat, by omega⟩
  exact ⟨k, dgS ns s m, by omega, dgS_ok ho (by omega), fun n => by rw [← hk]; exact ok_dig ho (by omega) (by omega)⟩
theorem trimL {n : Nat} {ρ : Rho} {S : Stv} (h : S.length ≤ n) : trim n ρ S = S := by unfold trim; rw [if_pos h]
theorem lc_drw {cb : CB} {e : Ex} {i k n0 : Nat} {ρ : Rho} {I : Stv → Prop} {P : PyData → Prop} {S : Stv} (hk : k ≤ 1000) (h0 : ∀ S, I S → S.length ≤ n0) (hs : I S) (h : ∀ (j : Nat) S, I S → ∃ d S', evE cb (ρ.set i (.dt (.int (j : Int)))) S e = .ok (.v d) S' ∧ P d ∧ I S') :
    ∃ ds S', lcF (lcT cb .none) (lcE cb e) (bindE (.nm i)) none n0 ρ ((rngD 0 k).map .dt) [] S = .ok ds S' ∧ ds.length = k ∧ (∀ d ∈ ds, P d) ∧ I S' := by
  obtain ⟨ds, S', h1, h2, h3, h4⟩ := lcF_inv (t := lcT cb .none) (f := lcE cb e) (b := bindE (.nm i)) (ch := none) (n0 := n0) (ρ := ρ) I P ((rngD 0 k).map .dt) [] S hs (by simp [rngD, big]; omega) fun en he S hS => by
    obtain ⟨x, hx, rfl⟩ := List.mem_map.mp he
    unfold rngD at hx
    obtain ⟨j, hj, rfl⟩ := List.mem_map.mp hx
    obtain ⟨d, S', h1, h2, h3⟩ := h j S hS
    exact ⟨_, .v d, S', d, rfl, rfl, by simpa using h1, rfl, h2, trivial, by rw [trimL (h0 _ h3)]; exact h3⟩
  exact ⟨ds, S', h1, by simpa [rngD] using h2, h3, h4⟩
open Classical in
theorem loopF_ev {f : En → Rho → Stv → Fl} {ch : Option (Nat × Cell)} {ks : List Nat} {n0 : Nat} (I : Rho → Stv → Prop) {es : List En} {ρ : Rho} {S : Stv} (hi : I ρ S)
    (hs : ∀ e ∈ es, ∀ ρ S, I ρ S → ∃ ρ' S', (f e ρ S = .nx ρ' S' ∨ f e ρ S = .ct ρ' S') ∧ chk ch (trim n0 (kill ks ρ') S') ∧ I (kill ks ρ') (trim n0 (kill ks ρ') S')) : ∃ ρ' S', loopF f ch ks n0 es ρ S = .nx ρ' S' ∧ I ρ' S' := by
  obtain ⟨ρ', S', h1, h2⟩ := loopF_inv (f := f) (ch := ch) (ks := ks) (n0 := n0) (fun _ ρ S => I ρ S) es 0 ρ S hi fun i e ρ S he hi => hs e (List.mem_of_getElem? he) ρ S hi
  exact ⟨ρ', S', h1, h2⟩
theorem rng_mem {k : Nat} {e : En} (h : e ∈ (rngD 0 k).map En.dt) : ∃ j : Nat, j < k ∧ e = .dt (.int (j : Int)) := by
  obtain ⟨x, hx, rfl⟩ := List.mem_map.mp h
  unfold rngD at hx
  obtain ⟨j, hj, rfl⟩ := List.mem_map.mp hx
  exact ⟨j, by simpa using hj, by simp⟩
/-- texts -/
theorem len_apt (a b : Str) : (a ++ b).length = a.length + b.length := by
  show (a.cps ++ b.cps).size = _
  simp [Str.length]
theorem emp_app (a : Str) : Str.empty ++ a = a := by
  show (⟨#[] ++ a.cps⟩ : Str) = a
  simp
theorem SL_inj {a b : List Nat} : (SL a = SL b) ↔ a = b := ⟨fun h => by
  have := congrArg (fun s : Str => s.cps.toList) h
  simpa [SL_cps] using this, fun h => h ▸ rfl⟩
theorem cut_any {l : List Nat} {a b : Nat} : cutS (SL l) (some (a : Int)) (some (b : Int)) = SL ((l.drop a).take (b - a)) := by
  have e : (SL l).length = l.length := SL_len l
  have sx : ∀ i d : Nat, HT.sIx l.length d (some (i : Int)) = min i l.length := fun i d => by
    unfold HT.sIx
    have h0 : ¬ (i : Int) < 0 := by omega
    simp only [h0, if_false, Int.toNat_natCast]
  unfold cutS
  rw [e, sx, sx, SL_cps]
  show SL _ = _
  rw [SL_inj]
  by_cases h : a ≤ l.length
  · rw [Nat.min_eq_left h]
    apply List.ext_getElem?
    intro i
    simp only [List.getElem?_take, List.getElem?_drop]
    by_cases h1 : i < b - a
    · by_cases h2 : i < min b l.length - a
      · simp [h1, h2]
      · have h3 : l.length ≤ a + i := by omega
        simp [h1, h2, List.getElem?_eq_none h3]
    · have h2 : ¬ i < min b l.length - a := by omega
      simp [h1, h2]
  · have h1 : l.length ≤ a := by omega
    rw [Nat.min_eq_right h1, List.drop_of_length_le (Nat.le_refl _), List.drop_of_length_le h1]
    simp
theorem cut_len {l : List Nat} {a k : Nat} : cutS (SL l) (some (a : Int)) (some ((a : Int) + (k : Int))) = SL ((l.drop a).take k) := by
  have := cut_any (l := l) (a := a) (b := a + k)
  rwa [Nat.add_sub_cancel_left, Int.natCast_add] at this
theorem cut_one {l : List Nat} {a : Nat} : cutS (SL l) (some (a : Int)) (some ((a : Int) + 1)) = SL ((l.drop a).take 1) := cut_len (k := 1)
theorem Stps.one1 {t : Rho → Stv → Out Bool} {f : Rho → Stv → Fl} {ks : List Nat} {n0 : Nat} {ρ ρ1 ρ' : Rho} {S S1 S2 S' : Stv} (h : t ρ S = .ok true S1) (h2 : f ρ S1 = .nx ρ1 S2 ∨ f ρ S1 = .ct ρ1 S2) (hk : kill ks ρ1 = ρ') (hs : trim n0 ρ' S2 = S') : Stps t f ks n0 ρ S ρ' S' := by
  have := Stps.one (ks := ks) (n0 := n0) h h2
  rwa [hk, hs] at this
/-! ### a body step by step, its end open -/
theorem run_ex {cb : CB} {fd : Fd} {es : List En} {S : Stv} {out : Out Rv} (h : es.length = fd.args) (hx : ∃ fl, exec cb fd.body (es ++ List.replicate fd.more .un) S = fl ∧ finF S.length fl = out) : runF cb fd es S = out := by
  obtain ⟨fl, h1, h2⟩ := hx
  exact run_of h h1 h2
theorem seq_ex {cb : CB} {a b : VM.St} {ρ ρ1 : Rho} {S S1 : Stv} {P : Fl → Prop} (h : exec cb a ρ S = .nx ρ1 S1) (h2 : ∃ fl, exec cb b ρ1 S1 = fl ∧ P fl) : ∃ fl, exec cb (.seq a b) ρ S = fl ∧ P fl := by
  obtain ⟨fl, h3, h4⟩ := h2
  exact ⟨fl, seq_nx h h3, h4⟩
theorem seq_rtx {cb : CB} {a b : VM.St} {ρ : Rho} {S S1 : Stv} {r : Rv} {P : Fl → Prop} (h : exec cb a ρ S = .rt r S1) (h2 : P (.rt r S1)) : ∃ fl, exec cb (.seq a b) ρ S = fl ∧ P fl := ⟨_, seq_rt h, h2⟩
theorem seq_exx {cb : CB} {a b : VM.St} {ρ ρ1 : Rho} {S S1 : Stv} {c : Nat} {fs : List (Str × D)} {P : Fl → Prop} (h : exec cb a ρ S = .ex c fs ρ1 S1) (h2 : P (.ex c fs ρ1 S1)) : ∃ fl, exec cb (.seq a b) ρ S = fl ∧ P fl := ⟨_, by simp only [VM.exec, h, Fl.seq], h2⟩

/-! ### digits drawn where the state holds more -/
theorem drwX {ns : List Int} {s : St2} {xs : List PyData} (m : Nat) (ho : okS s) (hm : 0 < m) (hm2 : m < 4611686018427387904) : ∃ (k : Nat) (s' : St2), k < m ∧ okS s' ∧ ∀ n, run tb (n + 2) f__law_digit [.dt (scr ns), .mu 0, .dt (.int (m : Int))] [.lst (.int s.1 :: .int s.2 :: xs)] = .ok (.v (.int (k : Int))) [.lst (.int s'.1 :: .int s'.2 :: xs)] := by
  have h1 := dg_nn (ns := ns) (s := s) (m := m) (by omega)
  have h2 := dg_lt (ns := ns) (s := s) (m := m) (by omega)
  obtain ⟨k, hk⟩ : ∃ k : Nat, dg ns s m = (k : Int) := ⟨(dg ns s m).toNat, by omega⟩
  exact ⟨k, dgS ns s m, by omega, dgS_ok ho (by omega), fun n => by rw [← hk]; exact ok_digX ho (by omega) (by omega)⟩

/-! ### numbers as texts -/
def nT (k : Nat) : List Nat := (Nat.toDigits 10 k).map Char.toNat
def dgt (c : Nat) : Bool := decide (48 ≤ c) && decide (c ≤ 57)
theorem nT_str (k : Nat) : Str.ofString (Int.repr (k : Int)) = SL (nT k) := by
  have h : (Str.ofString (toString (k : Int))).cps.toList = nT k := PySem.W.KIN.signs_num k
  have e : Str.ofString (Int.repr (k : Int)) = SL ((Str.ofString (toString (k : Int))).cps.toList) := SL_of _
  rw [e, h]
theorem nT_str' (k : Nat) : Str.ofString (toString (k : Int)) = SL (nT k) := nT_str k
theorem nT_dig {k c : Nat} (h : c ∈ nT k) : dgt c = true := by
  obtain ⟨ch, hch, rfl⟩ := List.mem_map.mp h
  have r := Nat.isDigit_of_mem_toDigits (by decide) (by decide) hch
  simp only [Char.isDigit, Bool.and_eq_true, decide_eq_true_eq, ge_iff_le, UInt32.le_iff_toNat_le] at r
  unfold dgt
  simp only [Bool.and_eq_true, decide_eq_true_eq]
  exact r
theorem nT_len {k : Nat} (h : k < 1000000000) : (nT k).length ≤ 9 := by
  unfold nT
  rw [List.length_map]
  exact (Nat.length_toDigits_le_iff (by decide) (by decide)).mpr h
theorem nT_pos (k : Nat) : 0 < (nT k).length := by
  unfold nT
  rw [List.length_map]
  exact Nat.length_toDigits_pos
theorem dch_48 : ∀ k : Nat, k < 10 → (Nat.digitChar k).toNat = 48 → k = 0 := by decide
theorem nT_zero : ∀ k : Nat, (nT k)[0]? = some 48 → k = 0
  | k, h => by
    unfold nT at h
    by_cases hk : k < 10
    · rw [Nat.toDigits_of_lt_base hk] at h
      simp at h
      exact dch_48 k hk h
    · rw [Nat.toDigits_of_base_le (by decide) (by omega), List.map_append, List.getElem?_append_left (by have := nT_pos (k / 10); unfold nT at this; exact this)] at h
      have := nT_zero (k / 10) h
      omega
  termination_by k => k
theorem nT_read {k : Nat} (h : k < 1000000000) : PySem.intText? (SL (nT k)) = some (k : Int) := by
  rw [← nT_str']
  exact PySem.W.KIN.num_reads (by omega) (by omega)
theorem nT_0 : nT 0 = [48] := by decide +kernel

/-! ### messages with numbers -/
theorem len_apm (a b : Str) : (a ++ b).length = a.length + b.length := by
  show (a.cps ++ b.cps).size = _
  simp [Str.length]
theorem log2_small {k : Nat} (h : k < 2 ^ 40) : k.log2 < 1920 := by
  by_cases h0 : k = 0
  · subst h0
    decide
  · have : k.log2 < 40 := (Nat.log2_lt h0).mpr h
    omega
theorem tos_len {i : Int} (h : i.natAbs < 2 ^ 40) : (Str.ofString i.repr).length ≤ 2000 := by
  have h1 := PyProof.Rows.int_text_len_1921 (i := i) (log2_small h)
  have h2 : (Str.ofString i.repr).length ≤ 1921 := h1
  omega
def okP (i : Int) : Prop := i.natAbs < 2 ^ 40
theorem msg_ok {a b c d : Str} (ha : a.length ≤ 2000) (hb : b.length ≤ 2000) (hc : c.length ≤ 2000) (hd : d.length ≤ 2000) : (Str.empty ++ a).length ≤ sizeLine ∧ (Str.empty ++ a ++ b).length ≤ sizeLine ∧ (Str.empty ++ a ++ b ++ c).length ≤ sizeLine ∧ (Str.empty ++ a ++ b ++ c ++ d).length ≤ sizeLine := by
  have e : Str.empty.length = 0 := rfl
  rw [sizeLine_eq]
  simp only [len_apm, e]
  omega

def nmO : Option (List Nat) → PyData
  | none => .none
  | some t => .str (SL t)

/-! ### what names and numbers stand for -/
def kvW (L : List (List Nat × Nat)) : List (PyData × PyData) := L.map fun p => (.str (SL p.1), .int (p.2 : Int))
theorem keyK_s (w : List Nat) : keyK (.str (SL w)) = some (.inr (SL w)) := rfl
theorem kw_key (L : List (List Nat × Nat)) (w : List Nat) : ((kvW L).find? fun p => decide (keyK p.1 = some (.inr (SL w)))).map (·.2) = (L.find? fun p => decide (p.1 = w)).map fun p => PyData.int (p.2 : Int) := by
  unfold kvW
  rw [List.find?_map, Option.map_map]
  have : (fun p : List Nat × Nat => decide (p.1 = w)) = ((fun p : PyData × PyData => decide (keyK p.1 = some (.inr (SL w)))) ∘ fun p : List Nat × Nat => (PyData.str (SL p.1), PyData.int (p.2 : Int))) := by
    funext p
    show decide (p.1 = w) = decide (keyK (.str (SL p.1)) = some (.inr (SL w)))
    rw [keyK_s]
    simp [SL_inj]
  rw [this]
  rfl
theorem kw_get (L : List (List Nat × Nat)) (w : List Nat) : dgetD false (kvW L) (.str (SL w)) = some ((L.find? fun p => decide (p.1 = w)).map fun p => PyData.int (p.2 : Int)) := by
  unfold dgetD
  rw [keyK_s]
  exact congrArg some (kw_key L w)
theorem kw_put {L : List (List Nat × Nat)} {w : List Nat} (k : Nat) (h : ∀ p ∈ L, p.1 ≠ w) : putD false (kvW L) (.str (SL w)) (.int (k : Int)) = some (kvW (L ++ [(w, k)])) := by
  unfold putD
  rw [keyK_s]
  refine congrArg some ((if_neg ?_).trans ?_)
  · unfold kvW
    simp only [List.any_map, List.any_eq_true, not_exists, not_and]
    intro p hp hd
    have : keyK (.str (SL p.1)) = some (.inr (SL w)) := by simpa using hd
    rw [keyK_s] at this
    simp [SL_inj] at this
    exact h p hp this
  · unfold kvW; simp
def wl : Nat → List (Option (List Nat)) → List (List Nat × Nat)
  | _, [] => []
  | i, none :: ns => (nT i, i) :: wl (i + 1) ns
  | i, some w :: ns => (nT i, i) :: (w, i) :: wl (i + 1) ns
/-- names that may stand in a pattern -/
abbrev hdC (c : Nat) : Prop := dgt c = false ∧ c ≠ 32 ∧ c ≠ 45 ∧ c ≠ 36
structure NmOk (nms : List (Option (List Nat))) : Prop where
  nd : (nms.filterMap id).Nodup
  ch : ∀ w, some w ∈ nms → w ≠ [] ∧ w.length ≤ 4 ∧ (∀ c ∈ w, c ≠ 125 ∧ c < 128) ∧ (∀ c, w.head? = some c → hdC c)
theorem nT_inj {a b : Nat} (ha : a < 1000000000) (hb : b < 1000000000) (h : nT a = nT b) : a = b := by
  have e1 := nT_read ha
  have e2 := nT_read hb
  rw [h, e2] at e1
  simp at e1
  omega
theorem nm_num {nms : List (Option (List Nat))} (h : NmOk nms) {w : List Nat} (hw : some w ∈ nms) (k : Nat) : w ≠ nT k := by
  obtain ⟨h1, _, _, h4⟩ := h.ch w hw
  intro e
  cases hh : w with
  | nil => exact h1 hh
  | cons c r =>
    have hd := (h4 c (by rw [hh]; rfl)).1
    have : dgt c = true := nT_dig (k := k) (by rw [← e, hh]; exact List.mem_cons_self)
    rw [hd] at this
    cases this
theorem NmOk.tail {x : Option (List Nat)} {ns : List (Option (List Nat))} (h : NmOk (x :: ns)) : NmOk ns := by
  refine ⟨?_, fun w hw => h.ch w (List.mem_cons_of_mem _ hw)⟩
  have := h.nd
  cases x with
  | none => simpa using this
  | some w => simp at this; simpa using this.2
/-- the words of a list of names: numbers from i on, and names -/
theorem wl_mem : ∀ (ns : List (Option (List Nat))) (i : Nat) (p : List Nat × Nat), p ∈ wl i ns → (p.1 = nT p.2 ∧ i ≤ p.2 ∧ p.2 < i + ns.length) ∨ (some p.1 ∈ ns ∧ i ≤ p.2 ∧ ns[p.2 - i]? = some (some p.1))
  | [], i, p, h => by simp [wl] at h
  | none :: ns, i, p, h => by
    rw [wl] at h
    rcases List.mem_cons.mp h with rfl | h
    · exact .inl ⟨rfl, Nat.le_refl _, by simp⟩
    · rcases wl_mem ns (i + 1) p h with h | h
      · exact .inl ⟨h.1, by omega, by simp; omega⟩
      · refine .inr ⟨List.mem_cons_of_mem _ h.1, by omega, ?_⟩
        rw [show p.2 - i = p.2 - (i + 1) + 1 by omega]
        exact h.2.2
  | some w :: ns, i, p, h => by
    rw [wl] at h
    rcases List.mem_cons.mp h with rfl | h
    · exact .inl ⟨rfl, Nat.le_refl _, by simp⟩
    · rcases List.mem_cons.mp h with rfl | h
      · exact .inr ⟨List.mem_cons_self, Nat.le_refl _, by simp⟩
      · rcases wl_mem ns (i + 1) p h with h | h
        · exact .inl ⟨h.1, by omega, by simp; omega⟩
        · refine .inr ⟨List.mem_cons_of_mem _ h.1, by omega, ?_⟩
          rw [show p.2 - i = p.2 - (i + 1) + 1 by omega]
          exact h.2.2
theorem wl_has : ∀ (ns : List (Option (List Nat))) (i k : Nat), k < ns.length → (nT (i + k), i + k) ∈ wl i ns ∧ ∀ w, ns[k]? = some (some w) → (w, i + k) ∈ wl i ns
  | [], i, k, h => by simp at h
  | x :: ns, i, 0, h => by
    cases x with
    | none => rw [wl]; simp
    | some w => rw [wl]; simp
  | x :: ns, i, k + 1, h => by
    have ih := wl_has ns (i + 1) k (by simpa using h)
    rw [show i + 1 + k = i + (k + 1) by omega] at ih
    cases x with
    | none => rw [wl]; exact ⟨List.mem_cons_of_mem _ ih.1, fun w hw => List.mem_cons_of_mem _ (ih.2 w (by simpa using hw))⟩
    | some w => rw [wl]; exact ⟨List.mem_cons_of_mem _ (List.mem_cons_of_mem _ ih.1), fun w hw => List.mem_cons_of_mem _ (List.mem_cons_of_mem _ (ih.2 w (by simpa using hw)))⟩
/-- keys are told apart -/
theorem wl_uniq {ns : List (Option (List Nat))} (h : NmOk ns) (hl : ns.length ≤ 100) {p q : List Nat × Nat} (hp : p ∈ wl 0 ns) (hq : q ∈ wl 0 ns) (e : p.1 = q.1) : p.2 = q.2 := by
  rcases wl_mem ns 0 p hp with a | a <;> rcases wl_mem ns 0 q hq with b | b
  · exact nT_inj (by omega) (by omega) (by rw [← a.1, ← b.1, e])
  · exact absurd (e ▸ a.1) (nm_num h b.1 _)
  · exact absurd (e ▸ b.1 : p.1 = _) (nm_num h a.1 _)
  · have a3 := a.2.2
    have b3 := b.2.2
    rw [Nat.sub_zero] at a3 b3
    rw [e] at a3
    -- the same name at two places
    have key : ∀ (ns : List (Option (List Nat))) (i j : Nat) (w : List Nat), (ns.filterMap id).Nodup → ns[i]? = some (some w) → ns[j]? = some (some w) → i = j := by
      intro ns
      induction ns with
      | nil => intro i j w _ hi; simp at hi
      | cons x ns ih =>
        intro i j w hn hi hj
        have hmem : ∀ k, ns[k]? = some (some w) → w ∈ ns.filterMap id := fun k hk => List.mem_filterMap.mpr ⟨some w, List.mem_of_getElem? hk, rfl⟩
        have hn' : (ns.filterMap id).Nodup := by
          cases x with
          | none => simpa using hn
          | some v => simp at hn; simpa using hn.2
        cases i with
        | zero =>
          cases j with
          | zero => rfl
          | succ j =>
            simp at hi hj
            subst hi
            simp at hn
            exact absurd (List.mem_of_getElem? hj) (hn.1)
        | succ i =>
          cases j with
          | zero =>
            simp at hi hj
            subst hj
            simp at hn
            exact absurd (List.mem_of_getElem? hi) (hn.1)
          | succ j =>
            simp at hi hj
            rw [ih i j w hn' hi hj]
    exact key ns _ _ _ h.nd a3 b3
theorem wl_find {ns : List (Option (List Nat))} (h : NmOk ns) (hl : ns.length ≤ 100) {w : List Nat} {k : Nat} (hp : (w, k) ∈ wl 0 ns) : (wl 0 ns).find? (fun p => decide (p.1 = w)) = some (w, k) := by
  cases hf : (wl 0 ns).find? fun p => decide (p.1 = w) with
  | none =>
    rw [List.find?_eq_none] at hf
    have := hf _ hp
    simp at this
  | some q =>
    have h1 := List.mem_of_find?_eq_some hf
    have h2 : q.1 = w := by simpa using List.find?_some hf
    have h3 := wl_uniq h hl h1 hp (by simpa using h2)
    obtain ⟨a, b⟩ := q
    simp at h2 h3
    rw [h2, h3]
theorem wl_none {ns : List (Option (List Nat))} {w : List Nat} (h1 : ∀ k, k < ns.length → w ≠ nT k) (h2 : some w ∉ ns) : (wl 0 ns).find? (fun p => decide (p.1 = w)) = none := by
  rw [List.find?_eq_none]
  intro p hp
  simp only [decide_eq_true_eq]
  intro e
  rcases wl_mem ns 0 p hp with a | a
  · exact h1 p.2 (by omega) (by rw [← e]; exact a.1)
  · rw [e] at a; exact h2 a.1

/-! ### words of a list of names, made -/
theorem wl_app : ∀ (a b : List (Option (List Nat))) (i : Nat), wl i (a ++ b) = wl i a ++ wl (i + a.length) b
  | [], b, i => by simp [wl]
  | none :: a, b, i => by rw [List.cons_append, wl, wl, wl_app a b (i + 1), List.length_cons, show i + 1 + a.length = i + (a.length + 1) by omega]; rfl
  | some w :: a, b, i => by rw [List.cons_append, wl, wl, wl_app a b (i + 1), List.length_cons, show i + 1 + a.length = i + (a.length + 1) by omega]; rfl
theorem NmOk.left {a b : List (Option (List Nat))} (h : NmOk (a ++ b)) : NmOk a := by
  refine ⟨?_, fun w hw => h.ch w (List.mem_append_left _ hw)⟩
  have := h.nd
  rw [List.filterMap_append] at this
  exact (List.nodup_append.mp this).1
theorem enu_at (ds : List PyData) : ∀ (k i : Nat) (e : PyData), (enumD k ds)[i]? = some e → ∃ d, ds[i]? = some d ∧ e = .tuple [.int ((k + i : Nat) : Int), d] := by
  induction ds with
  | nil => intro k i e h; simp [enumD] at h
  | cons d ds ih =>
    intro k i e h
    cases i with
    | zero => simp [enumD] at h; exact ⟨d, rfl, by simpa using h.symm⟩
    | succ i =>
      rw [enumD, List.getElem?_cons_succ] at h
      obtain ⟨d', h1, h2⟩ := ih (k + 1) i e h
      exact ⟨d', by simpa using h1, by rw [h2, show k + 1 + i = k + (i + 1) by omega]⟩
theorem enu_len : ∀ (ds : List PyData) (k : Nat), (enumD k ds).length = ds.length
  | [], k => rfl
  | d :: ds, k => by rw [enumD, List.length_cons, enu_len ds, List.length_cons]
theorem take_succ1 {α : Type} {l : List α} {i : Nat} {x : α} (h : l[i]? = some x) : l.take (i + 1) = l.take i ++ [x] := by
  rw [List.take_succ, h]
  rfl
theorem ok_words {n : Nat} {nms : List (Option (List Nat))} (h : NmOk nms) (hl : nms.length ≤ 100) : run tb (n + 1) f__groups_by_word [.dt (.tuple (nms.map nmO))] [] = .ok (.nw (.dct false (kvW (wl 0 nms)))) [] := by
  rw [run__groups_by_word]
  refine run_ex rfl ?_
  show ∃ fl, exec (cbOf tb n) body__groups_by_word [.dt (.tuple (nms.map nmO)), .un, .un, .un] _ = fl ∧ _
  unfold body__groups_by_word
  refine seq_ex (ρ1 := [.dt (.tuple (nms.map nmO)), .mu 0, .un, .un]) (S1 := [.dct false []]) (by simp) ?_
  obtain ⟨ρ', S', lp, rfl, rfl⟩ := loopF_inv (f := forB (cbOf tb n) (.tp [2, 3]) L__groups_by_word_0) (ch := none) (ks := [2, 3]) (n0 := 1) (fun i ρ S => ρ = [.dt (.tuple (nms.map nmO)), .mu 0, .un, .un] ∧ S = [.dct false (kvW (wl 0 (nms.take i)))]) ((enumD 0 (nms.map nmO)).map .dt) 0 [.dt (.tuple (nms.map nmO)), .mu 0, .un, .un] [.dct false []] ⟨rfl, rfl⟩ (by
    intro i e ρ S he hh
    simp only [Nat.zero_add] at hh ⊢
    obtain ⟨rfl, rfl⟩ := hh
    rw [List.getElem?_map] at he
    cases hen : (enumD 0 (nms.map nmO))[i]? with
    | none => rw [hen] at he; simp at he
    | some e0 =>
      rw [hen] at he
      simp at he
      obtain ⟨d, hd, rfl⟩ := enu_at _ 0 i e0 hen
      subst he
      rw [Nat.zero_add]
      rw [List.getElem?_map] at hd
      cases hnm : nms[i]? with
      | none => rw [hnm] at hd; simp at hd
      | some x =>
        rw [hnm] at hd
        simp at hd
        have hi : i < nms.length := (List.getElem?_eq_some_iff.mp hnm).1
        have hok : NmOk (nms.take (i + 1)) := by
          have : NmOk (nms.take (i + 1) ++ nms.drop (i + 1)) := by rw [List.take_append_drop]; exact h
          exact this.left
        have hti : (nms.take i).length = i := by rw [List.length_take]; omega
        have ht := take_succ1 hnm
        have hok0 : NmOk (nms.take i) := by rw [ht] at hok; exact hok.left
        have hm := wl_mem (nms.take i) 0
        have f1 : ∀ p ∈ wl 0 (nms.take i), p.1 ≠ nT i := by
          intro p hp e
          rcases hm p hp with a | a
          · have := nT_inj (a := p.2) (b := i) (by omega) (by omega) (by rw [← a.1, e])
            omega
          · exact nm_num hok0 a.1 i e
        have p1 := kw_put (L := wl 0 (nms.take i)) (w := nT i) i f1
        have hs := nT_str i
        have hlg : i.log2 < 1920 := by have := Nat.log2_le_self i; omega
        have hlen : (kvW (wl 0 (nms.take i))).length < 16000000 := by
          have : ∀ (ns : List (Option (List Nat))) (j : Nat), (wl j ns).length ≤ 2 * ns.length := by
            intro ns
            induction ns with
            | nil => intro j; simp [wl]
            | cons x ns ih => intro j; cases x <;> (rw [wl]; simp; have := ih (j + 1); omega)
          have := this (nms.take i) 0
          unfold kvW
          rw [List.length_map]
          omega
        have hwt : wl 0 (nms.take (i + 1)) = wl 0 (nms.take i) ++ wl i [x] := by rw [ht, wl_app, hti, Nat.zero_add]
        rw [hwt]
        refine ⟨[.dt (.tuple (nms.map nmO)), .mu 0, .dt (.int (i : Int)), .dt (nmO x)], [.dct false (kvW (wl 0 (nms.take i) ++ wl i [x]))], .inl ?_, trivial, rfl, trimL (Nat.le_refl _)⟩
        rw [← hd]
        cases x with
        | none =>
          have e : wl i [none] = [(nT i, i)] := rfl
          rw [e]
          generalize kvW (wl 0 (nms.take i) ++ [(nT i, i)]) = K2 at *
          generalize kvW (wl 0 (nms.take i)) = K1 at *
          generalize nms.map nmO = y at *
          show forB _ _ _ (.dt (.tuple [.int (i : Int), .none])) _ _ = .nx [_, _, _, .dt .none] _
          simp [hs, hlg, p1, hlen]
        | some w =>
          have e : wl i [some w] = [(nT i, i), (w, i)] := rfl
          have f2 : ∀ p ∈ wl 0 (nms.take i) ++ [(nT i, i)], p.1 ≠ w := by
            intro p hp e
            have hw : some w ∈ nms.take (i + 1) := by rw [ht]; simp
            rcases List.mem_append.mp hp with hp | hp
            · rcases hm p hp with a | a
              · exact nm_num hok hw p.2 (by rw [← e]; exact a.1)
              · have hnd := hok.nd
                rw [ht, List.filterMap_append] at hnd
                have := (List.nodup_append.mp hnd).2.2
                rw [e] at a
                exact this w (List.mem_filterMap.mpr ⟨some w, a.1, rfl⟩) w (by simp) rfl
            · simp at hp
              subst hp
              exact nm_num hok hw i e.symm
          have p2 := kw_put (L := wl 0 (nms.take i) ++ [(nT i, i)]) (w := w) i f2
          rw [e, show wl 0 (nms.take i) ++ [(nT i, i), (w, i)] = wl 0 (nms.take i) ++ [(nT i, i)] ++ [(w, i)] by simp]
          have hlen2 : (kvW (wl 0 (nms.take i) ++ [(nT i, i)])).length < 16000000 := by
            have : (kvW (wl 0 (nms.take i) ++ [(nT i, i)])).length = (kvW (wl 0 (nms.take i))).length + 1 := by simp [kvW]
            have h9 : (kvW (wl 0 (nms.take i))).length ≤ 1000 := by
              have : ∀ (ns : List (Option (List Nat))) (j : Nat), (wl j ns).length ≤ 2 * ns.length := by
                intro ns
                induction ns with
                | nil => intro j; simp [wl]
                | cons x ns ih => intro j; cases x <;> (rw [wl]; simp; have := ih (j + 1); omega)
              have := this (nms.take i) 0
              unfold kvW
              rw [List.length_map]
              omega
            omega
          generalize kvW (wl 0 (nms.take i) ++ [(nT i, i)] ++ [(w, i)]) = K3 at *
          generalize kvW (wl 0 (nms.take i) ++ [(nT i, i)]) = K2 at *
          generalize kvW (wl 0 (nms.take i)) = K1 at *
          generalize nms.map nmO = y at *
          show forB _ _ _ (.dt (.tuple [.int (i : Int), .str (SL w)])) _ _ = .nx [_, _, _, .dt (.str (SL w))] _
          simp [hs, hlg, p1, p2, hlen, hlen2])
  have er : 0 + ((enumD 0 (nms.map nmO)).map En.dt).length = nms.length := by simp [enu_len]
  rw [er, List.take_length] at lp
  generalize kvW (wl 0 nms) = K at *
  generalize nms.map nmO = y at *
  refine seq_ex (ρ1 := [.dt (.tuple y), .mu 0, .un, .un]) (S1 := [.dct false K]) (by rw [ex_for]; simp [lp]) ?_
  exact ⟨.rt (.mu 0) [.dct false K], by simp, by simp⟩

/-! ### where a sign stands first -/
theorem occ_done (s sub : Str) (hi x : Nat) : ∀ (ps : List Nat) (free : Nat), (forIn (m := Id) ps ((#[x] : Array Nat), free) (PySem.StrLaws.occBody s sub hi 1)).run.1 = #[x]
  | [], free => rfl
  | p :: ps, free => by
    rw [List.forIn_cons]
    have e : PySem.StrLaws.occBody s sub hi 1 p (#[x], free) = pure (ForInStep.yield (#[x], free)) := by
      unfold PySem.StrLaws.occBody
      rw [if_neg (by simp)]
    rw [e]
    exact occ_done s sub hi x ps free
theorem occ_find (s sub : Str) (hi : Nat) (P : Nat → Bool) (hP : ∀ i, P i = true ↔ (i + sub.length ≤ hi ∧ Builtin.Str.subAt s sub i = true)) : ∀ (ps : List Nat) (free : Nat), (∀ i ∈ ps, free ≤ i) → (forIn (m := Id) ps ((#[] : Array Nat), free) (PySem.StrLaws.occBody s sub hi 1)).run.1.toList = (ps.find? P).toList
  | [], free, _ => rfl
  | p :: ps, free, h => by
    rw [List.forIn_cons, List.find?_cons]
    have hp := h p List.mem_cons_self
    cases hb : P p with
    | true =>
      have hq := (hP p).mp hb
      have e : PySem.StrLaws.occBody s sub hi 1 p (#[], free) = pure (ForInStep.yield (#[p], p + sub.length)) := by
        unfold PySem.StrLaws.occBody
        rw [if_pos ⟨⟨⟨by simp, hp⟩, hq.1⟩, hq.2⟩]
        rfl
      rw [e]
      show (forIn (m := Id) ps ((#[p] : Array Nat), p + sub.length) (PySem.StrLaws.occBody s sub hi 1)).run.1.toList = _
      rw [occ_done]
      rfl
    | false =>
      have hq : ¬ (p + sub.length ≤ hi ∧ Builtin.Str.subAt s sub p = true) := fun z => by rw [(hP p).mpr z] at hb; cases hb
      have e : PySem.StrLaws.occBody s sub hi 1 p (#[], free) = pure (ForInStep.yield (#[], free)) := by
        unfold PySem.StrLaws.occBody
        rw [if_neg (fun z => hq ⟨z.1.2, z.2⟩)]
      rw [e]
      exact occ_find s sub hi P hP ps free fun i hi => h i (List.mem_cons_of_mem _ hi)
theorem occ_one (l : List Nat) (c lo : Nat) : Builtin.Str.occurrences (SL l) (SL [c]) lo (SL l).length 1 = ((List.range' lo ((SL l).length + 1 - lo)).find? fun i => decide (l[i]? = some c)).toList := by
  rw [PySem.StrLaws.occ_eq]
  refine occ_find (SL l) (SL [c]) _ _ (fun i => ?_) _ _ (fun i hi => (List.mem_range'_1.mp hi).1)
  rw [decide_eq_true_eq]
  exact (PySem.StrLaws.subAt_one (SL l) c i).symm
theorem rng_miss {l : List Nat} {c : Nat} : ∀ (n lo : Nat), c ∉ l.drop lo → (List.range' lo n).find? (fun i => decide (l[i]? = some c)) = none := by
  intro n lo h
  rw [List.find?_eq_none]
  intro i hi
  have := (List.mem_range'_1.mp hi).1
  simp only [decide_eq_true_eq]
  intro e
  apply h
  refine List.mem_of_getElem? (i := i - lo) ?_
  rw [List.getElem?_drop, show lo + (i - lo) = i by omega]
  exact e
theorem rng_hit {l : List Nat} {c : Nat} : ∀ (u v : List Nat) (n lo : Nat), l.drop lo = u ++ c :: v → c ∉ u → u.length < n → (List.range' lo n).find? (fun i => decide (l[i]? = some c)) = some (lo + u.length)
  | [], v, n, lo, h, _, hn => by
    obtain ⟨n, rfl⟩ : ∃ m, n = m + 1 := ⟨n - 1, by simp at hn; omega⟩
    have e : l[lo]? = some c := by rw [← List.head?_drop, h]; rfl
    rw [List.range'_succ, List.find?_cons, decide_eq_true e]
    rfl
  | x :: u, v, n, lo, h, hx, hn => by
    obtain ⟨n, rfl⟩ : ∃ m, n = m + 1 := ⟨n - 1, by simp at hn; omega⟩
    have e : l[lo]? = some x := by rw [← List.head?_drop, h]; rfl
    have hne : ¬ l[lo]? = some c := by
      rw [e]
      intro z
      simp at z hx
      exact hx.1 z.symm
    have hd : l.drop (lo + 1) = u ++ c :: v := by rw [← List.drop_drop, h]; rfl
    rw [List.range'_succ, List.find?_cons, decide_eq_false hne]
    have ih := rng_hit u v n (lo + 1) hd (fun z => hx (List.mem_cons_of_mem _ z)) (by simp at hn; omega)
    rw [show lo + (x :: u).length = lo + 1 + u.length by simp; omega]
    exact ih
theorem from_nat (n a : Nat) : fromIndex n (a : Int) = a := by
  unfold fromIndex
  rw [if_neg (by omega)]
  omega
theorem find_hit {l u v : List Nat} {c a : Nat} (h : l.drop a = u ++ c :: v) (hu : c ∉ u) : Txt.find3 (SL l) (SL [c]) (a : Int) = ((a + u.length : Nat) : Int) := by
  unfold Txt.find3
  have hl : a + u.length < l.length := by
    have := congrArg List.length h
    rw [List.length_drop, List.length_append, List.length_cons] at this
    omega
  rw [from_nat, occ_one, rng_hit u v _ a h hu (by rw [SL_len]; omega)]
  rfl
theorem find_miss {l : List Nat} {c a : Nat} (h : c ∉ l.drop a) : Txt.find3 (SL l) (SL [c]) (a : Int) = -1 := by
  unfold Txt.find3
  rw [from_nat, occ_one, rng_miss _ a h]
  rfl

theorem ite_t {cb : CB} {c : Tx} {a b : VM.St} {ρ : Rho} {S S1 : Stv} (h : evT cb ρ S c = .ok true S1) : exec cb (.ite c a b) ρ S = exec cb a ρ S1 := by rw [ex_ite, h]; rfl
theorem ite_f {cb : CB} {c : Tx} {a b : VM.St} {ρ : Rho} {S S1 : Stv} (h : evT cb ρ S c = .ok false S1) : exec cb (.ite c a b) ρ S = exec cb b ρ S1 := by rw [ex_ite, h]; rfl

/-! ### dollars -/
theorem atLast (l : List PyData) (d : PyData) : atI (l ++ [d]) (-1) = some d := by
  have : ixN (l ++ [d]).length (-1) = some l.length := by
    unfold ixN
    simp
    omega
  unfold atI
  rw [this]
  simp
def tmF (col : Int) : List (Str × PyData) := [("column", .int col)]
theorem ok_terr {n : Nat} {x : En} : run tb (n + 1) f_TemplateError___init__ [.un, x] [] = .ok (.v .none) [] := by
  rw [run_TemplateError___init__]
  refine run_ex rfl ?_
  show ∃ fl, exec (cbOf tb n) body_TemplateError___init__ [.un, x] _ = fl ∧ _
  unfold body_TemplateError___init__
  exact ⟨_, by simp; rfl, by simp⟩
theorem raf_t {n col : Nat} {ρ : Rho} {S : Stv} {es : Exs} (h : evA (cbOf tb (n + 2)) ρ S es = .ok [.dt (.int (col : Int))] S) (hc : col < 1099511627776) : exec (cbOf tb (n + 2)) (.raf 0 ["column"] f_TemplateError___init__ es) ρ S = .ex 0 (tmF (col : Int)) ρ S := by
  have pe := ok_terr (n := n) (x := .dt (.int (col : Int)))
  rw [ex_raf, h]
  simp [hc, pe, tmF]
def sgnT (c : Nat) : Option PyData := if c = 36 then some (.tuple [.str "text", .str "$"]) else if c = 38 then some (.tuple [.str "match"]) else if c = 91 then some (.tuple [.str "before"]) else if c = 93 then some (.tuple [.str "behind"]) else none
theorem sg_look (u : List Nat) (h : u.length ≤ 1) : dat__SIGNS.lookup (SL u) = (match u with | [c] => sgnT c | _ => none) := by
  have e1 : Str.ofString "$" = SL [36] := by decide
  have e2 : Str.ofString "&" = SL [38] := by decide
  have e3 : Str.ofString "[" = SL [91] := by decide
  have e4 : Str.ofString "]" = SL [93] := by decide
  unfold dat__SIGNS
  rw [e1, e2, e3, e4]
  match u, h with
  | [], _ =>
    have b : ∀ c : Nat, (SL [] == SL [c]) = false := fun c => beq_false_of_ne fun e => by simp [SL_inj] at e
    simp [List.lookup, b]
  | [c], _ =>
    show _ = sgnT c
    unfold sgnT
    have b : ∀ x : Nat, (SL [c] == SL [x]) = decide (c = x) := fun x => by
      by_cases h : c = x
      · subst h; simp
      · rw [decide_eq_false h]; exact beq_false_of_ne fun e => h (by simpa [SL_inj] using e)
    simp only [List.lookup, b]
    by_cases h1 : c = 36
    · simp [h1, e1]
    by_cases h2 : c = 38
    · simp [h1, h2]
    by_cases h3 : c = 91
    · simp [h1, h2, h3]
    by_cases h4 : c = 93
    · simp [h1, h2, h3, h4]
    simp [h1, h2, h3, h4]
theorem cut_n {l : List Nat} {a : Nat} : cutS (SL l) (some ((a : Int) + 1)) (some ((a : Int) + 2)) = SL ((l.drop (a + 1)).take 1) := by
  have := cut_one (l := l) (a := a + 1)
  rw [show ((a + 1 : Nat) : Int) = (a : Int) + 1 by omega] at this
  rwa [show (a : Int) + 2 = (a : Int) + 1 + 1 by omega]
theorem ok_dol1 {n a c : Nat} {l r : List Nat} {D : PyData} {G : Cell} (hd : l.drop a = 36 :: c :: r) (hs : sgnT c = some D) (hlen : l.length ≤ 100000) : run tb (n + 3) f__read_dollar [.dt (.str (SL l)), .dt (.int (a : Int)), .mu 0] [G] = .ok (.v (.tuple [D, .int ((a + 2 : Nat) : Int)])) [G] := by
  have hsz : l.length ≤ sizeLine := by rw [sizeLine_eq]; omega
  have c1 := cut_n (l := l) (a := a)
  rw [← List.drop_drop, hd] at c1
  have c1 : cutS (SL l) (some ((a : Int) + 1)) (some ((a : Int) + 2)) = SL [c] := c1
  have lk := sg_look [c] (by simp)
  simp only [hs] at lk
  rw [show ((a + 2 : Nat) : Int) = (a : Int) + 2 by omega]
  rw [run__read_dollar]
  refine run_ex rfl ?_
  show ∃ fl, exec (cbOf tb (n + 2)) body__read_dollar [.dt (.str (SL l)), .dt (.int (a : Int)), .mu 0, .un, .un, .un] _ = fl ∧ _
  unfold body__read_dollar
  refine seq_ex (ρ1 := [.dt (.str (SL l)), .dt (.int (a : Int)), .mu 0, .dt (.str (SL [c])), .un, .un]) (S1 := [G]) (by simp [c1, hsz]) ?_
  exact seq_rtx (r := .v (.tuple [D, .int ((a : Int) + 2)])) (S1 := [G]) (by simp [lk, big]) (by simp)
theorem ok_dol2 {n a k : Nat} {l w r : List Nat} {L : List (List Nat × Nat)} (hd : l.drop a = 36 :: 123 :: (w ++ 125 :: r)) (hw : 125 ∉ w) (hf : L.find? (fun p => decide (p.1 = w)) = some (w, k)) (hlen : l.length ≤ 100000) : run tb (n + 3) f__read_dollar [.dt (.str (SL l)), .dt (.int (a : Int)), .mu 0] [.dct false (kvW L)] = .ok (.v (.tuple [.tuple [.str "group", .int (k : Int)], .int ((a + w.length + 3 : Nat) : Int)])) [.dct false (kvW L)] := by
  have hsz : l.length ≤ sizeLine := by rw [sizeLine_eq]; omega
  have c1 := cut_n (l := l) (a := a)
  rw [← List.drop_drop, hd] at c1
  have c1 : cutS (SL l) (some ((a : Int) + 1)) (some ((a : Int) + 2)) = SL [123] := c1
  have lk := sg_look [123] (by simp)
  have lk : dat__SIGNS.lookup (SL [123]) = none := lk
  have eb : Str.ofString "}" = SL [125] := by decide
  have eo : Str.ofString "{" = SL [123] := by decide
  have fh := find_hit (l := l) (u := 36 :: 123 :: w) (v := r) (c := 125) (a := a) (by rw [hd]; rfl) (by simp; exact hw)
  have fl : (((36 :: 123 :: w).length : Nat) : Int) = (w.length : Int) + 2 := by simp; omega
  have e1 : ((a + (36 :: 123 :: w).length : Nat) : Int) = (a : Int) + (w.length : Int) + 2 := by simp; omega
  rw [e1] at fh
  have c2 : cutS (SL l) (some ((a : Int) + 2)) (some ((a : Int) + (w.length : Int) + 2)) = SL w := by
    have := cut_any (l := l) (a := a + 2) (b := a + 2 + w.length)
    rw [show a + 2 + w.length - (a + 2) = w.length by omega, show l.drop (a + 2) = w ++ 125 :: r by rw [← List.drop_drop, hd]; rfl, List.take_left] at this
    rw [show ((a + 2 : Nat) : Int) = (a : Int) + 2 by omega, show ((a + 2 + w.length : Nat) : Int) = (a : Int) + (w.length : Int) + 2 by omega] at this
    exact this
  have kg := kw_get L w
  rw [hf] at kg
  have kg : dgetD false (kvW L) (.str (SL w)) = some (some (.int (k : Int))) := kg
  have hneg : ¬ (a : Int) + (w.length : Int) + 2 < 0 := by omega
  rw [show ((a + w.length + 3 : Nat) : Int) = (a : Int) + (w.length : Int) + 2 + 1 by omega]
  generalize (a : Int) + (w.length : Int) + 2 = e at *
  generalize kvW L = K at *
  rw [run__read_dollar]
  refine run_ex rfl ?_
  show ∃ fl, exec (cbOf tb (n + 2)) body__read_dollar [.dt (.str (SL l)), .dt (.int (a : Int)), .mu 0, .un, .un, .un] _ = fl ∧ _
  unfold body__read_dollar
  refine seq_ex (ρ1 := [.dt (.str (SL l)), .dt (.int (a : Int)), .mu 0, .dt (.str (SL [123])), .un, .un]) (S1 := [.dct false K]) (by simp [c1, hsz]) ?_
  refine seq_ex (ρ1 := [.dt (.str (SL l)), .dt (.int (a : Int)), .mu 0, .dt (.str (SL [123])), .un, .un]) (S1 := [.dct false K]) (by simp [lk]) ?_
  refine seq_ex (ρ1 := [.dt (.str (SL l)), .dt (.int (a : Int)), .mu 0, .dt (.str (SL [123])), .dt (.int e), .un]) (S1 := [.dct false K]) (by simp [eb, fh]) ?_
  refine seq_ex (ρ1 := [.dt (.str (SL l)), .dt (.int (a : Int)), .mu 0, .dt (.str (SL [123])), .dt (.int e), .un]) (S1 := [.dct false K]) (by
    rw [ite_f (S1 := [.dct false K]) (by simp [eo, hneg])]
    simp) ?_
  refine seq_ex (ρ1 := [.dt (.str (SL l)), .dt (.int (a : Int)), .mu 0, .dt (.str (SL [123])), .dt (.int e), .dt (.str (SL w))]) (S1 := [.dct false K]) (by simp [c2, hsz]) ?_
  refine seq_ex (ρ1 := [.dt (.str (SL l)), .dt (.int (a : Int)), .mu 0, .dt (.str (SL [123])), .dt (.int e), .dt (.str (SL w))]) (S1 := [.dct false K]) (by
    have ni : VM.inR (.v (.str (SL w))) (.mu 0) [Cell.dct false K] = some true := by simp [VM.inR, kg]
    rw [ite_f (S1 := [.dct false K]) (by simp [ni])]
    simp) ?_
  exact ⟨.rt (.v (.tuple [.tuple [.str "group", .int (k : Int)], .int (e + 1)])) [.dct false K], by simp [kg, big], by simp⟩
/-- a dollar that begins nothing -/
inductive DolX (L : List (List Nat × Nat)) : List Nat → Prop
  | sign {r : List Nat} (h : r.take 1 ≠ [123]) (h2 : ∀ c, r.take 1 = [c] → sgnT c = none) : DolX L r
  | miss {r : List Nat} (h : 125 ∉ r) : DolX L (123 :: r)
  | word {w r : List Nat} (hw : 125 ∉ w) (hf : L.find? (fun p => decide (p.1 = w)) = none) : DolX L (123 :: (w ++ 125 :: r))
theorem ok_dolX {n a : Nat} {l r : List Nat} {L : List (List Nat × Nat)} (hd : l.drop a = 36 :: r) (hx : DolX L r) (hlen : l.length ≤ 100000) : run tb (n + 3) f__read_dollar [.dt (.str (SL l)), .dt (.int (a : Int)), .mu 0] [.dct false (kvW L)] = .ex 0 (tmF ((a + 1 : Nat) : Int)) [.dct false (kvW L)] := by
  have hsz : l.length ≤ sizeLine := by rw [sizeLine_eq]; omega
  have hal : a < l.length := by
    have := congrArg List.length hd
    rw [List.length_drop, List.length_cons] at this
    omega
  have c1 := cut_n (l := l) (a := a)
  rw [← List.drop_drop, hd] at c1
  have c1 : cutS (SL l) (some ((a : Int) + 1)) (some ((a : Int) + 2)) = SL (r.take 1) := c1
  have eb : Str.ofString "}" = SL [125] := by decide
  have eo : Str.ofString "{" = SL [123] := by decide
  rw [run__read_dollar]
  refine run_ex rfl ?_
  show ∃ fl, exec (cbOf tb (n + 2)) body__read_dollar [.dt (.str (SL l)), .dt (.int (a : Int)), .mu 0, .un, .un, .un] _ = fl ∧ _
  unfold body__read_dollar
  cases hx with
  | sign h h2 =>
    obtain ⟨e, he⟩ : ∃ e, Txt.find3 (SL l) (SL [125]) (a : Int) = e := ⟨_, rfl⟩
    obtain ⟨u, hu⟩ : ∃ u, u = r.take 1 := ⟨_, rfl⟩
    have hul : u.length ≤ 1 := by rw [hu]; simp; omega
    rw [← hu] at h h2 c1
    have lk : dat__SIGNS.lookup (SL u) = none := by
      rw [sg_look u hul]
      match u, hul, h2 with
      | [], _, _ => rfl
      | [x], _, h2 => exact h2 x rfl
      | _ :: _ :: _, h, _ => simp at h
    clear hu
    generalize kvW L = K at *
    have q1 : (SL u = SL [123]) = False := by rw [SL_inj]; simp [h]
    refine seq_ex (ρ1 := [.dt (.str (SL l)), .dt (.int (a : Int)), .mu 0, .dt (.str (SL u)), .un, .un]) (S1 := [.dct false K]) (by simp [c1, hsz]) ?_
    refine seq_ex (ρ1 := [.dt (.str (SL l)), .dt (.int (a : Int)), .mu 0, .dt (.str (SL u)), .un, .un]) (S1 := [.dct false K]) (by simp [lk]) ?_
    refine seq_ex (ρ1 := [.dt (.str (SL l)), .dt (.int (a : Int)), .mu 0, .dt (.str (SL u)), .dt (.int e), .un]) (S1 := [.dct false K]) (by simp [eb, he]) ?_
    refine seq_exx (c := 0) (fs := tmF ((a + 1 : Nat) : Int)) (ρ1 := [.dt (.str (SL l)), .dt (.int (a : Int)), .mu 0, .dt (.str (SL u)), .dt (.int e), .un]) (S1 := [.dct false K]) ?_ (by simp)
    rw [ite_t (S1 := [.dct false K]) (by simp [eo, q1])]
    exact raf_t (n := n) (by simp) (by omega)
  | @miss r h =>
    have fm := find_miss (l := l) (c := 125) (a := a) (by rw [hd]; simp; exact h)
    have lk : dat__SIGNS.lookup (SL [123]) = none := sg_look [123] (by simp)
    have c1 : cutS (SL l) (some ((a : Int) + 1)) (some ((a : Int) + 2)) = SL [123] := c1
    generalize kvW L = K at *
    refine seq_ex (ρ1 := [.dt (.str (SL l)), .dt (.int (a : Int)), .mu 0, .dt (.str (SL [123])), .un, .un]) (S1 := [.dct false K]) (by simp [c1, hsz]) ?_
    refine seq_ex (ρ1 := [.dt (.str (SL l)), .dt (.int (a : Int)), .mu 0, .dt (.str (SL [123])), .un, .un]) (S1 := [.dct false K]) (by simp [lk]) ?_
    refine seq_ex (ρ1 := [.dt (.str (SL l)), .dt (.int (a : Int)), .mu 0, .dt (.str (SL [123])), .dt (.int (-1)), .un]) (S1 := [.dct false K]) (by simp [eb, fm]) ?_
    refine seq_exx (c := 0) (fs := tmF ((a + 1 : Nat) : Int)) (ρ1 := [.dt (.str (SL l)), .dt (.int (a : Int)), .mu 0, .dt (.str (SL [123])), .dt (.int (-1)), .un]) (S1 := [.dct false K]) ?_ (by simp)
    rw [ite_t (S1 := [.dct false K]) (by simp [eo])]
    exact raf_t (n := n) (by simp) (by omega)
  | @word w r hw hf =>
    have fh := find_hit (l := l) (u := 36 :: 123 :: w) (v := r) (c := 125) (a := a) (by rw [hd]; rfl) (by simp; exact hw)
    have e1 : ((a + (36 :: 123 :: w).length : Nat) : Int) = (a : Int) + (w.length : Int) + 2 := by simp; omega
    rw [e1] at fh
    have c2 : cutS (SL l) (some ((a : Int) + 2)) (some ((a : Int) + (w.length : Int) + 2)) = SL w := by
      have := cut_any (l := l) (a := a + 2) (b := a + 2 + w.length)
      rw [show a + 2 + w.length - (a + 2) = w.length by omega, show l.drop (a + 2) = w ++ 125 :: r by rw [← List.drop_drop, hd]; rfl, List.take_left] at this
      rw [show ((a + 2 : Nat) : Int) = (a : Int) + 2 by omega, show ((a + 2 + w.length : Nat) : Int) = (a : Int) + (w.length : Int) + 2 by omega] at this
      exact this
    have lk : dat__SIGNS.lookup (SL [123]) = none := sg_look [123] (by simp)
    have c1 : cutS (SL l) (some ((a : Int) + 1)) (some ((a : Int) + 2)) = SL [123] := c1
    have kg := kw_get L w
    rw [hf] at kg
    have kg : dgetD false (kvW L) (.str (SL w)) = some none := kg
    have hneg : ¬ (a : Int) + (w.length : Int) + 2 < 0 := by omega
    generalize (a : Int) + (w.length : Int) + 2 = e at *
    generalize kvW L = K at *
    refine seq_ex (ρ1 := [.dt (.str (SL l)), .dt (.int (a : Int)), .mu 0, .dt (.str (SL [123])), .un, .un]) (S1 := [.dct false K]) (by simp [c1, hsz]) ?_
    refine seq_ex (ρ1 := [.dt (.str (SL l)), .dt (.int (a : Int)), .mu 0, .dt (.str (SL [123])), .un, .un]) (S1 := [.dct false K]) (by simp [lk]) ?_
    refine seq_ex (ρ1 := [.dt (.str (SL l)), .dt (.int (a : Int)), .mu 0, .dt (.str (SL [123])), .dt (.int e), .un]) (S1 := [.dct false K]) (by simp [eb, fh]) ?_
    refine seq_ex (ρ1 := [.dt (.str (SL l)), .dt (.int (a : Int)), .mu 0, .dt (.str (SL [123])), .dt (.int e), .un]) (S1 := [.dct false K]) (by
      rw [ite_f (S1 := [.dct false K]) (by simp [eo, hneg])]
      simp) ?_
    refine seq_ex (ρ1 := [.dt (.str (SL l)), .dt (.int (a : Int)), .mu 0, .dt (.str (SL [123])), .dt (.int e), .dt (.str (SL w))]) (S1 := [.dct false K]) (by simp [c2, hsz]) ?_
    refine seq_exx (c := 0) (fs := tmF ((a + 1 : Nat) : Int)) (ρ1 := [.dt (.str (SL l)), .dt (.int (a : Int)), .mu 0, .dt (.str (SL [123])), .dt (.int e), .dt (.str (SL w))]) (S1 := [.dct false K]) ?_ (by simp)
    have ni : VM.inR (.v (.str (SL w))) (.mu 0) [Cell.dct false K] = some false := by simp [VM.inR, kg]
    rw [ite_t (S1 := [.dct false K]) (by simp [ni])]
    exact raf_t (n := n) (by simp) (by omega)

/-! ### parts of templates, put together -/
inductive Pa where
  | tx (w : List Nat)
  | mk (s : Str)
  | gp (k : Nat)
def paD : Pa → PyData
  | .tx w => .tuple [.str "text", .str (SL w)]
  | .mk s => .tuple [.str s]
  | .gp k => .tuple [.str "group", .int (k : Int)]
def paOk : Pa → Prop
  | .tx w => w.length ≤ 10000
  | .mk s => s ≠ Str.ofString "text" ∧ s.length ≤ 100
  | .gp _ => True
def jst (J : List Pa) (p : Pa) : List Pa := match p, J.getLast? with
  | .tx w, some (.tx v) => J.dropLast ++ [.tx (v ++ w)]
  | p, _ => J ++ [p]
theorem jst_nt {J : List Pa} {p : Pa} (h : ∀ w, p ≠ .tx w) : jst J p = J ++ [p] := by
  unfold jst
  split
  · exact absurd rfl (h _)
  · rfl
theorem jst_emp (p : Pa) : jst [] p = [p] := by
  unfold jst
  simp
theorem jst_tt (J : List Pa) (v w : List Nat) : jst (J ++ [.tx v]) (.tx w) = J ++ [.tx (v ++ w)] := by
  unfold jst
  simp
theorem jst_tn {J : List Pa} {q : Pa} {w : List Nat} (h : ∀ v, q ≠ .tx v) : jst (J ++ [q]) (.tx w) = J ++ [q] ++ [.tx w] := by
  unfold jst
  cases q with
  | tx v => exact absurd rfl (h v)
  | mk s => simp
  | gp k => simp
theorem pa_kind {p : Pa} (hp : paOk p) (h : ∀ w, p ≠ .tx w) : ∃ s l, paD p = .tuple (.str s :: l) ∧ s ≠ Str.ofString "text" := by
  cases p with
  | tx w => exact absurd rfl (h w)
  | mk s => exact ⟨s, _, rfl, hp.1⟩
  | gp k => exact ⟨_, _, rfl, by decide⟩
theorem at_h (a : PyData) (l : List PyData) : atI (a :: l) 0 = some a := by unfold atI ixN; simp
/-- how many characters there are of text, and parts, in all -/
def paN : Pa → Nat
  | .tx w => w.length
  | _ => 1
def JOk (J : List Pa) (m : Nat) : Prop := (∀ p ∈ J, paOk p) ∧ (J.map paN).sum ≤ m ∧ J.length ≤ m
theorem jok_nil : JOk [] 0 := ⟨nofun, by simp, by simp⟩
theorem jok_step {J : List Pa} {m : Nat} {p : Pa} (h : JOk J m) (hp : paOk p) (hm : m + paN p + 1 ≤ 10000) : JOk (jst J p) (m + paN p + 1) := by
  obtain ⟨h1, h2, h3⟩ := h
  have plain : JOk (J ++ [p]) (m + paN p + 1) := by
    refine ⟨fun q hq => ?_, by simp; omega, by simp; omega⟩
    rcases List.mem_append.mp hq with hq | hq
    · exact h1 q hq
    · simp at hq; subst hq; exact hp
  by_cases hw : ∃ w, p = .tx w
  · obtain ⟨w, rfl⟩ := hw
    rcases List.eq_nil_or_concat J with rfl | ⟨I, q, rfl⟩
    · rw [jst_emp]
      exact plain
    · rw [List.concat_eq_append] at *
      cases q with
      | tx v =>
        rw [jst_tt]
        have hv : v.length ≤ m := by
          simp [paN] at h2
          omega
        refine ⟨fun q hq => ?_, ?_, ?_⟩
        · rcases List.mem_append.mp hq with hq | hq
          · exact h1 q (List.mem_append_left _ hq)
          · simp at hq
            subst hq
            show (v ++ w).length ≤ 10000
            rw [List.length_append]
            have : paN (.tx w) = w.length := rfl
            omega
        · simp [paN] at h2 ⊢
          omega
        · simp at h3 ⊢
          omega
      | mk s =>
        rw [jst_tn (by intro v h; cases h)]
        exact plain
      | gp k =>
        rw [jst_tn (by intro v h; cases h)]
        exact plain
  · rw [jst_nt fun w h => hw ⟨w, h⟩]
    exact plain
/-- one part, by the program -/
theorem rt_join {cb : CB} {ρ : Rho} {S : Stv} {J : List Pa} {m : Nat} {p : Pa} (h5 : ρ[5]? = some (.dt (paD p))) (h3 : ρ[3]? = some (.mu 1)) (hS : S[1]? = some (.lst (J.map paD))) (hJ : JOk J m) (hp : paOk p) (hm : m + paN p + 1 ≤ 10000) :
    exec cb (.ite (.and (.cmp .eq (.idx (.var 5) (.con (.int 0))) (.con (.str "text"))) (.and (.val (.var 3)) (.cmp .eq (.idx (.idx (.var 3) (.neg (.con (.int 1)))) (.con (.int 0))) (.con (.str "text")))))
      (.seti (.var 3) (.neg (.con (.int 1))) (.tup (.cons (.con (.str "text")) (.cons (.bin .add (.idx (.idx (.var 3) (.neg (.con (.int 1)))) (.con (.int 1))) (.idx (.var 5) (.con (.int 1)))) .nil))))
      (.exp (.bm .append (.var 3) (.cons (.var 5) .nil)))) ρ S = .nx ρ (S.set 1 (.lst ((jst J p).map paD))) := by
  obtain ⟨hJ1, hJ2, hJ3⟩ := hJ
  have a1 : ∀ a b : PyData, atI [a, b] 1 = some b := fun _ _ => rfl
  have hlen : (J.map paD).length < 16000000 := by rw [List.length_map]; omega
  by_cases hw : ∃ w, p = .tx w
  · obtain ⟨w, rfl⟩ := hw
    have hwl : w.length ≤ 10000 := hp
    rcases List.eq_nil_or_concat J with rfl | ⟨I, q, rfl⟩
    · rw [jst_emp]
      have h5 : ρ[5]? = some (.dt (.tuple [.str "text", .str (SL w)])) := h5
      have hS : S[1]? = some (.lst []) := hS
      rw [ite_f (S1 := S) (by simp [h5, h3, hS, at_h])]
      simp [h5, h3, hS, big, paD]
    · rw [List.concat_eq_append] at *
      have h5 : ρ[5]? = some (.dt (.tuple [.str "text", .str (SL w)])) := h5
      rw [List.map_append] at hS hlen
      have hS : S[1]? = some (.lst (I.map paD ++ [paD q])) := hS
      have hne : (I.map paD ++ [paD q]) ≠ [] := by simp
      have hl := atLast (I.map paD) (paD q)
      have hix : ixN ((I.map paD).length + 1) (-1) = some (I.map paD).length := by
        unfold ixN
        simp
        omega
      have hlen2 : (I.map paD).length + 1 < 16000000 := by simpa using hlen
      clear hlen
      have hemp : (I.map paD ++ [paD q]).isEmpty = false := by simp
      by_cases hq : ∃ v, q = .tx v
      · obtain ⟨v, rfl⟩ := hq
        rw [jst_tt]
        have hv : v.length ≤ m := by
          simp [paN] at hJ2
          omega
        have hvw : v.length + w.length ≤ 16777216 := by omega
        have hset : (I.map paD ++ [paD (.tx v)]).set (I.map paD).length (.tuple [.str "text", .str (SL (v ++ w))]) = (I ++ [Pa.tx (v ++ w)]).map paD := by
          rw [List.set_append_right _ _ (Nat.le_refl _)]
          simp [paD]
        have hD : paD (.tx v) = .tuple [.str "text", .str (SL v)] := rfl
        rw [← hset]
        rw [hD] at hl hS hemp ⊢
        generalize I.map paD = X at *
        rw [ite_t (S1 := S) (by simp [h5, h3, hS, at_h, hl])]
        simp [h5, h3, hS, at_h, a1, hl, hix, hvw, SL_app, sizeLine, big]
      · have hqn : ∀ v, q ≠ .tx v := fun v h => hq ⟨v, h⟩
        obtain ⟨s, l, e, hs⟩ := pa_kind (hJ1 q (by simp)) hqn
        rw [jst_tn hqn]
        have hmap : (I ++ [q] ++ [Pa.tx w]).map paD = I.map paD ++ [paD q] ++ [.tuple [.str "text", .str (SL w)]] := by simp [paD]
        rw [hmap]
        rw [e] at hl hS hemp ⊢
        generalize I.map paD = X at *
        rw [ite_f (S1 := S) (by simp [h5, h3, hS, at_h, hl, hs])]
        simp [h5, h3, hS, big, hlen2]
  · have hpn : ∀ w, p ≠ .tx w := fun w h => hw ⟨w, h⟩
    obtain ⟨s, l, e, hs⟩ := pa_kind hp hpn
    rw [jst_nt hpn]
    rw [e] at h5
    rw [List.map_append, List.map_cons, List.map_nil, e]
    generalize J.map paD = X at *
    rw [ite_f (S1 := S) (by simp [h5, at_h, hs])]
    simp [h5, h3, hS, big, hlen]

/-! ### calls over a store of which little is known -/
theorem idx1 {α : Type} [DecidableEq α] (a : α) (l : List α) : List.idxOf a (a :: l) = 0 := by simp
theorem mrg_len {ks : List Nat} {m : Nat} {S' : Stv} : ∀ (i : Nat) (S : Stv), (mergeC ks m S' i S).length = S.length
  | _, [] => rfl
  | i, c :: cs => by simp [mergeC, mrg_len (i + 1) cs]
theorem mrg_get {ks : List Nat} {m : Nat} {S' : Stv} : ∀ (i : Nat) (S : Stv) (n : Nat), (mergeC ks m S' i S)[n]? = S[n]?.map fun c => if i + n ∈ ks then mapC (unK ks m) (S'.getD (ks.idxOf (i + n)) .gone) else c
  | _, [], n => by simp [mergeC]
  | i, c :: cs, 0 => by simp [mergeC]
  | i, c :: cs, n + 1 => by
    have := mrg_get (ks := ks) (m := m) (S' := S') (i + 1) cs n
    simp only [mergeC, List.getElem?_cons_succ, this]
    rw [show i + 1 + n = i + (n + 1) by omega]
theorem merge_get {ks : List Nat} {S S' : Stv} {n : Nat} (h : n < S.length) : (merge S ks S')[n]? = S[n]?.map fun c => if n ∈ ks then mapC (unK ks S.length) (S'.getD (ks.idxOf n) .gone) else c := by
  unfold merge
  rw [List.getElem?_append_left (by rw [mrg_len]; exact h), mrg_get]
  simp
theorem merge_tail {ks : List Nat} {S S' : Stv} {n : Nat} : (merge S ks S')[S.length + n]? = ((S'.drop ks.length).map (mapC (unK ks S.length)))[n]? := by
  unfold merge
  rw [List.getElem?_append_right (by rw [mrg_len]; omega), mrg_len]
  congr 1
  omega
theorem merge_len {ks : List Nat} {S S' : Stv} : (merge S ks S').length = S.length + (S'.length - ks.length) := by
  unfold merge
  simp [mrg_len]
theorem callC_gen {cb : CB1} {f : Nat} {ens : List En} {S S2 : Stv} {ks : List Nat} {r : Rv} (h1 : reach 100 S [] (ens.flatMap refE) = ks) (h2 : subOk S ks = true) (h3 : ens.all (inK ks) = true)
    (h4 : cb f (ens.map (mapE fun j => ks.idxOf j)) (subS S ks) = .ok r S2) (h5 : ks.length ≤ S2.length) : callC cb f ens S = .ok (mapR (unK ks S.length) r) (merge S ks S2) := by
  unfold callC
  rw [h1]
  unfold callK
  rw [if_pos ⟨h2, h3⟩, h4]
  simp only [h5, if_true]
theorem set_same {S : Stv} {k : Nat} {c : Cell} (h : S[k]? = some c) : S.set k c = S := by
  refine List.ext_getElem? fun j => ?_
  rw [List.getElem?_set]
  by_cases e : k = j
  · subst e
    rw [if_pos rfl, h, if_pos (List.getElem?_eq_some_iff.mp h).1]
  · rw [if_neg e]
/-- one cell that knows no other -/
theorem callC_1 {cb : CB1} {f i : Nat} {ens : List En} {S : Stv} {c c' : Cell} {r : Rv} (hc : S[i]? = some c) (hl : refC c = []) (hl' : refC c' = []) (hm : ∀ g, mapC g c = c) (hm' : ∀ g, mapC g c' = c') (hr : ∀ g, mapR g r = r)
    (he : ens.flatMap refE = [i]) (ha : ens.all (inK [i]) = true) (h : cb f (ens.map (mapE fun j => [i].idxOf j)) [c] = .ok r [c']) : callC cb f ens S = .ok r (S.set i c') := by
  have hi : i < S.length := (List.getElem?_eq_some_iff.mp hc).1
  have e := callC_gen (cb := cb) (f := f) (ens := ens) (S := S) (S2 := [c']) (ks := [i]) (r := r) (by rw [he]; simp [-refC, hc, hl]) (by simp [-refC, hc, hl]) ha (by
    rw [← h]
    congr 1
    simp [-mapC, hc, hm]) (by simp)
  rw [e, hr]
  congr 1
  refine List.ext_getElem? fun n => ?_
  rcases Nat.lt_or_ge n S.length with hn | hn
  · rw [merge_get hn, List.getElem?_set]
    by_cases en : i = n
    · subst en
      rw [if_pos rfl, if_pos hi, hc]
      simp [-mapC, hm']
    · rw [if_neg en]
      have : ¬ n ∈ [i] := by simp; exact fun z => en z.symm
      simp only [this, if_false]
      cases S[n]? <;> rfl
  · obtain ⟨m, rfl⟩ : ∃ m, n = S.length + m := ⟨n - S.length, by omega⟩
    rw [merge_tail, List.getElem?_eq_none (by simp), List.getElem?_eq_none (by simp)]
/-- an object with one field that is a cell, which knows no other -/
theorem callC_2 {cb : CB1} {f i k : Nat} {ens : List En} {S : Stv} {o : Nat → Cell} {c c' : Cell} {r : Rv} (ho : S[i]? = some (o k)) (hc : S[k]? = some c) (hik : i ≠ k) (hor : ∀ j, refC (o j) = [j]) (hom : ∀ g j, mapC g (o j) = o (g j)) (hl : refC c = []) (hm : ∀ g, mapC g c = c) (hm' : ∀ g, mapC g c' = c') (hr : ∀ g, mapR g r = r)
    (he : ens.flatMap refE = [i]) (ha : ens.all (inK [i, k]) = true) (h : cb f (ens.map (mapE fun j => [i, k].idxOf j)) [o 1, c] = .ok r [o 1, c']) : callC cb f ens S = .ok r (S.set k c') := by
  have hi : i < S.length := (List.getElem?_eq_some_iff.mp ho).1
  have hk : k < S.length := (List.getElem?_eq_some_iff.mp hc).1
  have hki : ¬ k = i := fun z => hik z.symm
  have ix : [i, k].idxOf k = 1 := by
    have hb : (i == k) = false := beq_false_of_ne hik
    simp [List.idxOf_cons, hb]
  have e := callC_gen (cb := cb) (f := f) (ens := ens) (S := S) (S2 := [o 1, c']) (ks := [i, k]) (r := r) (by rw [he]; simp [-refC, ho, hc, hor, hl, hki]) (by simp [-refC, ho, hc, hor, hl, hik]) ha (by
    rw [← h]
    congr 1
    simp [-mapC, ho, hc, hom, hm, ix, hik]) (by simp)
  rw [e, hr]
  congr 1
  refine List.ext_getElem? fun n => ?_
  rcases Nat.lt_or_ge n S.length with hn | hn
  · rw [merge_get hn, List.getElem?_set]
    by_cases en : k = n
    · subst en
      rw [if_pos rfl, if_pos hk, hc]
      simp [-mapC, hm', ix]
    · rw [if_neg en]
      by_cases ei : n = i
      · subst ei
        rw [ho]
        simp [-mapC, hom]
      · have : ¬ n ∈ [i, k] := by simp [ei]; exact fun z => en z.symm
        simp only [this, if_false]
        cases S[n]? <;> rfl
  · obtain ⟨m, rfl⟩ : ∃ m, n = S.length + m := ⟨n - S.length, by omega⟩
    rw [merge_tail, List.getElem?_eq_none (by simp), List.getElem?_eq_none (by simp)]
/-- .. whose field is given a new cell -/
theorem callC_2n {cb : CB1} {f i k : Nat} {ens : List En} {S : Stv} {o : Nat → Cell} {c c' : Cell} {r : Rv} (ho : S[i]? = some (o k)) (hc : S[k]? = some c) (hik : i ≠ k) (hor : ∀ j, refC (o j) = [j]) (hom : ∀ g j, mapC g (o j) = o (g j)) (hl : refC c = []) (hm : ∀ g, mapC g c = c) (hm' : ∀ g, mapC g c' = c') (hr : ∀ g, mapR g r = r)
    (he : ens.flatMap refE = [i]) (ha : ens.all (inK [i, k]) = true) (h : cb f (ens.map (mapE fun j => [i, k].idxOf j)) [o 1, c] = .ok r [o 2, c, c']) : callC cb f ens S = .ok r (S.set i (o S.length) ++ [c']) := by
  have hi : i < S.length := (List.getElem?_eq_some_iff.mp ho).1
  have hk : k < S.length := (List.getElem?_eq_some_iff.mp hc).1
  have hki : ¬ k = i := fun z => hik z.symm
  have ix : [i, k].idxOf k = 1 := by
    have hb : (i == k) = false := beq_false_of_ne hik
    simp [List.idxOf_cons, hb]
  have e := callC_gen (cb := cb) (f := f) (ens := ens) (S := S) (S2 := [o 2, c, c']) (ks := [i, k]) (r := r) (by rw [he]; simp [-refC, ho, hc, hor, hl, hki]) (by simp [-refC, ho, hc, hor, hl, hik]) ha (by
    rw [← h]
    congr 1
    simp [-mapC, ho, hc, hom, hm, ix, hik]) (by simp)
  rw [e, hr]
  congr 1
  refine List.ext_getElem? fun n => ?_
  rcases Nat.lt_or_ge n S.length with hn | hn
  · rw [merge_get hn, List.getElem?_append_left (by simpa using hn), List.getElem?_set]
    by_cases ei : i = n
    · subst ei
      rw [if_pos rfl, if_pos hi, ho]
      simp [-mapC, hom]
    · rw [if_neg ei]
      by_cases en : n = k
      · subst en
        rw [hc]
        simp [-mapC, hm, ix]
      · have : ¬ n ∈ [i, k] := by simp [en]; exact fun z => ei z.symm
        simp only [this, if_false]
        cases S[n]? <;> rfl
  · obtain ⟨m, rfl⟩ : ∃ m, n = S.length + m := ⟨n - S.length, by omega⟩
    rw [merge_tail, List.getElem?_append_right (by simp)]
    simp [-mapC, hm']

/-! ### calls with an object that changes -/
theorem callC_2o {cb : CB1} {f i k : Nat} {ens : List En} {S : Stv} {o o' : Nat → Cell} {c c' : Cell} {r : Rv} (ho : S[i]? = some (o k)) (hc : S[k]? = some c) (hik : i ≠ k) (hor : ∀ j, refC (o j) = [j]) (hom : ∀ g j, mapC g (o j) = o (g j)) (hom' : ∀ g j, mapC g (o' j) = o' (g j)) (hl : refC c = []) (hm : ∀ g, mapC g c = c) (hm' : ∀ g, mapC g c' = c') (hr : ∀ g, mapR g r = r)
    (he : ens.flatMap refE = [i]) (ha : ens.all (inK [i, k]) = true) (h : cb f (ens.map (mapE fun j => [i, k].idxOf j)) [o 1, c] = .ok r [o' 1, c']) : callC cb f ens S = .ok r ((S.set i (o' k)).set k c') := by
  have hi : i < S.length := (List.getElem?_eq_some_iff.mp ho).1
  have hk : k < S.length := (List.getElem?_eq_some_iff.mp hc).1
  have hki : ¬ k = i := fun z => hik z.symm
  have ix : [i, k].idxOf k = 1 := by
    have hb : (i == k) = false := beq_false_of_ne hik
    simp [List.idxOf_cons, hb]
  have e := callC_gen (cb := cb) (f := f) (ens := ens) (S := S) (S2 := [o' 1, c']) (ks := [i, k]) (r := r) (by rw [he]; simp [-refC, ho, hc, hor, hl, hki]) (by simp [-refC, ho, hc, hor, hl, hik]) ha (by
    rw [← h]
    congr 1
    simp [-mapC, ho, hc, hom, hm, ix, hik]) (by simp)
  rw [e, hr]
  congr 1
  refine List.ext_getElem? fun n => ?_
  rcases Nat.lt_or_ge n S.length with hn | hn
  · rw [merge_get hn, List.getElem?_set]
    by_cases en : k = n
    · subst en
      rw [if_pos rfl, if_pos (by simpa using hk), hc]
      simp [-mapC, hm', ix]
    · rw [if_neg en, List.getElem?_set]
      by_cases ei : i = n
      · subst ei
        rw [if_pos rfl, if_pos hi, ho]
        simp [-mapC, hom']
      · rw [if_neg ei]
        have : ¬ n ∈ [i, k] := by simp; exact ⟨fun z => ei z.symm, fun z => en z.symm⟩
        simp only [this, if_false]
        cases S[n]? <;> rfl
  · obtain ⟨m, rfl⟩ : ∃ m, n = S.length + m := ⟨n - S.length, by omega⟩
    rw [merge_tail, List.getElem?_eq_none (by simp), List.getElem?_eq_none (by simp)]
theorem callC_2on {cb : CB1} {f i k : Nat} {ens : List En} {S : Stv} {o o' : Nat → Cell} {c c' : Cell} {r : Rv} (ho : S[i]? = some (o k)) (hc : S[k]? = some c) (hik : i ≠ k) (hor : ∀ j, refC (o j) = [j]) (hom : ∀ g j, mapC g (o j) = o (g j)) (hom' : ∀ g j, mapC g (o' j) = o' (g j)) (hl : refC c = []) (hm : ∀ g, mapC g c = c) (hm' : ∀ g, mapC g c' = c') (hr : ∀ g, mapR g r = r)
    (he : ens.flatMap refE = [i]) (ha : ens.all (inK [i, k]) = true) (h : cb f (ens.map (mapE fun j => [i, k].idxOf j)) [o 1, c] = .ok r [o' 2, c, c']) : callC cb f ens S = .ok r (S.set i (o' S.length) ++ [c']) := by
  have hi : i < S.length := (List.getElem?_eq_some_iff.mp ho).1
  have hk : k < S.length := (List.getElem?_eq_some_iff.mp hc).1
  have hki : ¬ k = i := fun z => hik z.symm
  have ix : [i, k].idxOf k = 1 := by
    have hb : (i == k) = false := beq_false_of_ne hik
    simp [List.idxOf_cons, hb]
  have e := callC_gen (cb := cb) (f := f) (ens := ens) (S := S) (S2 := [o' 2, c, c']) (ks := [i, k]) (r := r) (by rw [he]; simp [-refC, ho, hc, hor, hl, hki]) (by simp [-refC, ho, hc, hor, hl, hik]) ha (by
    rw [← h]
    congr 1
    simp [-mapC, ho, hc, hom, hm, ix, hik]) (by simp)
  rw [e, hr]
  congr 1
  refine List.ext_getElem? fun n => ?_
  rcases Nat.lt_or_ge n S.length with hn | hn
  · rw [merge_get hn, List.getElem?_append_left (by simpa using hn), List.getElem?_set]
    by_cases ei : i = n
    · subst ei
      rw [if_pos rfl, if_pos hi, ho]
      simp [-mapC, hom']
    · rw [if_neg ei]
      by_cases en : n = k
      · subst en
        rw [hc]
        simp [-mapC, hm, ix]
      · have : ¬ n ∈ [i, k] := by simp [en]; exact fun z => ei z.symm
        simp only [this, if_false]
        cases S[n]? <;> rfl
  · obtain ⟨m, rfl⟩ : ∃ m, n = S.length + m := ⟨n - S.length, by omega⟩
    rw [merge_tail, List.getElem?_append_right (by simp)]
    simp [-mapC, hm']
theorem merge_nil (S : Stv) : merge S [] [] = S := by
  refine List.ext_getElem? fun n => ?_
  rcases Nat.lt_or_ge n S.length with hn | hn
  · rw [merge_get hn]
    simp
  · obtain ⟨m, rfl⟩ : ∃ m, n = S.length + m := ⟨n - S.length, by omega⟩
    rw [merge_tail, List.getElem?_eq_none (by simp), List.getElem?_eq_none (by simp)]
/-- arguments that are data -/
theorem callC_0 {cb : CB1} {f : Nat} {ens : List En} {S : Stv} {r : Rv} (he : ens.flatMap refE = []) (ha : ens.all (inK []) = true) (hm : ens.map (mapE fun j => ([] : List Nat).idxOf j) = ens) (hr : ∀ g, mapR g r = r) (h : cb f ens [] = .ok r []) : callC cb f ens S = .ok r S := by
  have e := callC_gen (cb := cb) (f := f) (ens := ens) (S := S) (S2 := []) (ks := []) (r := r) (by rw [he]; unfold reach; rfl) rfl ha (by rw [hm]; exact h) (by simp)
  rw [e, hr, merge_nil]

/-! ### templates, read -/
theorem callX_1 {cb : CB1} {f i : Nat} {ens : List En} {S S2 : Stv} {c : Cell} {cc : Nat} {fs : List (Str × PyData)} (hc : S[i]? = some c) (hl : refC c = []) (hm : ∀ g, mapC g c = c)
    (he : ens.flatMap refE = [i]) (ha : ens.all (inK [i]) = true) (h : cb f (ens.map (mapE fun j => [i].idxOf j)) [c] = .ex cc fs S2) (h2 : 1 ≤ S2.length) : ∃ S', callC cb f ens S = .ex cc fs S' := by
  have hi : i < S.length := (List.getElem?_eq_some_iff.mp hc).1
  have h1 : reach 100 S [] (ens.flatMap refE) = [i] := by rw [he]; simp [-refC, hc, hl]
  have h3 : subOk S [i] = true := by simp [-refC, hc, hl]
  refine ⟨merge S [i] S2, ?_⟩
  unfold callC
  rw [h1]
  unfold callK
  rw [if_pos ⟨h3, ha⟩]
  have h4 : cb f (ens.map (mapE fun j => [i].idxOf j)) (subS S [i]) = .ex cc fs S2 := by
    rw [← h]
    congr 1
    simp [-mapC, hc, hm]
  rw [h4]
  simp only [List.length_cons, List.length_nil, h2, if_true]
theorem trim0 (S : Stv) : trim 0 [] S = [] := by
  unfold trim
  cases S with
  | nil => rfl
  | cons c S => rw [if_neg (by simp)]; rfl
theorem Stps.raise {t : Rho → Stv → Out Bool} {f : Rho → Stv → Fl} {ks : List Nat} {n0 : Nat} {ρ ρ1 ρ2 : Rho} {S S1 S2 S3 : Stv} {c : Nat} {fs : List (Str × PyData)} (h : Stps t f ks n0 ρ S ρ1 S1) (h1 : t ρ1 S1 = .ok true S2) (h2 : f ρ1 S2 = .ex c fs ρ2 S3) : whileF t f ks n0 ρ S = .ex c fs ρ2 S3 := by
  obtain ⟨k, hk⟩ := h
  refine whileF_of (n := 1 + k) ?_ nofun
  rw [hk]
  unfold whileN
  rw [h1]
  simp [Out.fl, h2]
theorem of_ex {cb : CB} {a : VM.St} {ρ : Rho} {S : Stv} {X : Fl} (h : ∃ fl, exec cb a ρ S = fl ∧ fl = X) : exec cb a ρ S = X := by
  obtain ⟨fl, h1, h2⟩ := h
  rw [h1, h2]
inductive Pc where
  | ch (c : Nat)
  | dol (c : Nat)
  | grp (w : List Nat) (k : Nat)
def pcW : Pc → List Nat
  | .ch c => [c]
  | .dol c => [36, c]
  | .grp w _ => 36 :: 123 :: (w ++ [125])
def pcA : Pc → Pa
  | .ch c => .tx [c]
  | .dol c => if c = 36 then .tx [36] else if c = 38 then .mk "match" else if c = 91 then .mk "before" else .mk "behind"
  | .grp _ k => .gp k
def pcOk (L : List (List Nat × Nat)) : Pc → Prop
  | .ch c => c ≠ 36
  | .dol c => c = 36 ∨ c = 38 ∨ c = 91 ∨ c = 93
  | .grp w k => 125 ∉ w ∧ L.find? (fun p => decide (p.1 = w)) = some (w, k) ∧ w.length ≤ 50
theorem pa_ok (p : Pc) : paOk (pcA p) ∧ paN (pcA p) ≤ 1 := by
  cases p with
  | ch c => exact ⟨by simp [pcA, paOk], by simp [pcA, paN]⟩
  | dol c =>
    by_cases h1 : c = 36
    · subst h1
      exact ⟨by simp [pcA, paOk], by simp [pcA, paN]⟩
    by_cases h2 : c = 38
    · subst h2
      exact ⟨by show paOk (.mk "match"); exact ⟨by decide, by decide⟩, by simp [pcA, paN]⟩
    by_cases h3 : c = 91
    · subst h3
      exact ⟨by show paOk (.mk "before"); exact ⟨by decide, by decide⟩, by simp [pcA, paN]⟩
    have e : pcA (.dol c) = .mk "behind" := by simp [pcA, h1, h2, h3]
    rw [e]
    exact ⟨⟨by decide, by decide⟩, by simp [paN]⟩
  | grp w k => exact ⟨trivial, by simp [pcA, paN]⟩
theorem dol_sgn {c : Nat} (h : c = 36 ∨ c = 38 ∨ c = 91 ∨ c = 93) : sgnT c = some (paD (pcA (.dol c))) := by
  have e1 : Str.ofString "$" = SL [36] := by decide
  rcases h with rfl | rfl | rfl | rfl
  · show some (PyData.tuple [.str "text", .str "$"]) = some (.tuple [.str "text", .str (SL [36])])
    rw [e1]
  · rfl
  · rfl
  · rfl
def TR (l : List Nat) (nm : PyData) (a : Nat) (z : En) : Rho := [.dt (.str (SL l)), .dt nm, .mu 0, .mu 1, .dt (.int (a : Int)), z]
abbrev TStps (n : Nat) (l : List Nat) (nm : PyData) (L : List (List Nat × Nat)) (a : Nat) (J : List Pa) (b : Nat) (J' : List Pa) : Prop := Stps (whT (cbOf tb n) W_read_template_0) (kSeq (cbOf tb n) L_read_template_0) [5] 2 (TR l nm a .un) [.dct false (kvW L), .lst (J.map paD)] (TR l nm b .un) [.dct false (kvW L), .lst (J'.map paD)]
theorem tp_step {n a m : Nat} {l r : List Nat} {nm : PyData} {L : List (List Nat × Nat)} {J : List Pa} {p : Pc} (hd : l.drop a = pcW p ++ r) (hp : pcOk L p) (hJ : JOk J m) (hm : m + 2 ≤ 10000) (hlen : l.length ≤ 100000) : TStps (n + 3) l nm L a J (a + (pcW p).length) (jst J (pcA p)) := by
  have hsz : l.length ≤ sizeLine := by rw [sizeLine_eq]; omega
  obtain ⟨x, t, hx⟩ : ∃ x t, pcW p = x :: t := by cases p <;> exact ⟨_, _, rfl⟩
  have hd1 : l.drop a = x :: (t ++ r) := by rw [hd, hx]; rfl
  have hal : a < l.length := by
    have := congrArg List.length hd1
    rw [List.length_drop, List.length_cons] at this
    omega
  have hal' : (a : Int) < (l.length : Int) := by omega
  have ix : atI l (a : Int) = some x := by
    refine atI_nat ?_
    rw [← List.head?_drop, hd1]
    rfl
  have e1 : ∀ c : Nat, (⟨#[c]⟩ : Str) = SL [c] := fun _ => rfl
  have ed : Str.ofString "$" = SL [36] := by decide
  obtain ⟨hpa, hpn⟩ := pa_ok p
  have jn := rt_join (cb := cbOf tb (n + 3)) (ρ := TR l nm (a + (pcW p).length) (.dt (paD (pcA p)))) (S := [.dct false (kvW L), .lst (J.map paD)]) (J := J) (m := m) (p := pcA p) rfl rfl rfl hJ hpa (by omega)
  refine Stps.one1 (ρ1 := TR l nm (a + (pcW p).length) (.dt (paD (pcA p)))) (S1 := [.dct false (kvW L), .lst (J.map paD)]) (S2 := [.dct false (kvW L), .lst ((jst J (pcA p)).map paD)]) ?_ (.inl ?_) rfl (trimL (by simp))
  · unfold TR
    simp [hal, hal', hsz]
  · refine of_ex ?_
    refine seq_ex (ρ1 := TR l nm (a + (pcW p).length) (.dt (paD (pcA p)))) (S1 := [.dct false (kvW L), .lst (J.map paD)]) ?_ ⟨_, jn, rfl⟩
    clear jn
    unfold TR
    by_cases hc : x = 36
    · subst hc
      have rd : run tb (n + 3) f__read_dollar [.dt (.str (SL l)), .dt (.int (a : Int)), .mu 0] [.dct false (kvW L)] = .ok (.v (.tuple [paD (pcA p), .int ((a + (pcW p).length : Nat) : Int)])) [.dct false (kvW L)] := by
        cases p with
        | ch c => cases hx; exact absurd rfl hp
        | dol c => exact ok_dol1 (n := n) (c := c) (r := r) hd (dol_sgn hp) hlen
        | grp w k =>
          have := ok_dol2 (n := n) (k := k) (w := w) (r := r) (L := L) (by rw [hd]; simp [pcW]) hp.1 hp.2.1 hlen
          have e : (pcW (.grp w k)).length = w.length + 3 := by simp [pcW]
          rw [e]
          exact this
      have cc := callC_1 (cb := run tb (n + 3)) (f := f__read_dollar) (i := 0) (ens := [.dt (.str (SL l)), .dt (.int (a : Int)), .mu 0]) (S := [.dct false (kvW L), .lst (J.map paD)]) (c := .dct false (kvW L)) (c' := .dct false (kvW L)) rfl rfl rfl (fun _ => rfl) (fun _ => rfl) (fun _ => rfl) (by simp) (by simp) (by simp; exact rd)
      generalize ((a + (pcW p).length : Nat) : Int) = e at *
      generalize paD (pcA p) = D at *
      generalize kvW L = K at *
      generalize J.map paD = X at *
      rw [ite_t (S1 := [.dct false K, .lst X]) (by simp [SL_cps, ix, hsz, e1, ed])]
      simp [-callC, cc]
    · have hch : p = .ch x := by
        cases p with
        | ch c => cases hx; rfl
        | dol c => cases hx; exact absurd rfl hc
        | grp w k => cases hx; exact absurd rfl hc
      subst hch
      have q1 : (SL [x] = SL [36]) = False := by rw [SL_inj]; simp [hc]
      have ee : ((a + (pcW (.ch x)).length : Nat) : Int) = (a : Int) + 1 := by simp [pcW]
      rw [ee]
      generalize kvW L = K at *
      generalize J.map paD = X at *
      rw [ite_f (S1 := [.dct false K, .lst X]) (by simp [SL_cps, ix, hsz, e1, ed, q1])]
      simp [SL_cps, ix, hsz, e1, big, pcA, paD]
def pcsW (ps : List Pc) : List Nat := ps.flatMap pcW
theorem pcsW_cons (p : Pc) (ps : List Pc) : pcsW (p :: ps) = pcW p ++ pcsW ps := rfl
def jall : List Pa → List Pc → List Pa
  | J, [] => J
  | J, p :: ps => jall (jst J (pcA p)) ps
theorem jall_ok : ∀ (ps : List Pc) (J : List Pa) (m : Nat), JOk J m → m + 2 * ps.length ≤ 9000 → JOk (jall J ps) (m + 2 * ps.length)
  | [], J, m, h, _ => h
  | p :: ps, J, m, h, hm => by
    obtain ⟨h1, h2⟩ := pa_ok p
    rw [List.length_cons] at hm ⊢
    have st := jok_step h h1 (by omega)
    have st2 : JOk (jst J (pcA p)) (m + 2) := ⟨st.1, by have := st.2.1; omega, by have := st.2.2; omega⟩
    have := jall_ok ps _ _ st2 (by omega)
    rw [show m + 2 * (ps.length + 1) = m + 2 + 2 * ps.length by omega]
    exact this
theorem tp_run {n : Nat} {l : List Nat} {nm : PyData} {L : List (List Nat × Nat)} (hlen : l.length ≤ 100000) : ∀ (ps : List Pc) (a m : Nat) (J : List Pa) (r : List Nat), l.drop a = pcsW ps ++ r → (∀ p ∈ ps, pcOk L p) → JOk J m → m + 2 * ps.length ≤ 9000 → TStps (n + 3) l nm L a J (a + (pcsW ps).length) (jall J ps)
  | [], a, m, J, r, _, _, _, _ => Stps.refl
  | p :: ps, a, m, J, r, hd, hp, hJ, hm => by
    rw [List.length_cons] at hm
    rw [pcsW_cons, List.append_assoc] at hd
    have st := tp_step (n := n) (nm := nm) hd (hp p List.mem_cons_self) hJ (by omega) hlen
    obtain ⟨h1, h2⟩ := pa_ok p
    have sj := jok_step hJ h1 (by omega)
    have sj2 : JOk (jst J (pcA p)) (m + 2) := ⟨sj.1, by have := sj.2.1; omega, by have := sj.2.2; omega⟩
    have ih := tp_run (n := n) (nm := nm) hlen ps (a + (pcW p).length) (m + 2) (jst J (pcA p)) r (by rw [← List.drop_drop, hd, List.drop_left]) (fun q hq => hp q (List.mem_cons_of_mem _ hq)) sj2 (by omega)
    rw [pcsW_cons, List.length_append, ← Nat.add_assoc]
    exact Stps.trans st ih
theorem tp_pre {n : Nat} {nms : List (Option (List Nat))} {l : List Nat} {P : Fl → Prop} {p : VM.St} (h : NmOk nms) (hl : nms.length ≤ 100)
    (hp : ∃ fl, exec (cbOf tb (n + 3)) p (TR l (.tuple (nms.map nmO)) 0 .un) [.dct false (kvW (wl 0 nms)), .lst []] = fl ∧ P fl) :
    ∃ fl, exec (cbOf tb (n + 3)) (.seq (.asg (.nm 2) (.call f__groups_by_word (.cons (.var 1) .nil))) (.seq (.asg (.nm 3) (.own (.lst .nil))) (.seq (.asg (.nm 4) (.con (.int 0))) p))) [.dt (.str (SL l)), .dt (.tuple (nms.map nmO)), .un, .un, .un, .un] [] = fl ∧ P fl := by
  have wd := ok_words (n := n + 2) h hl
  unfold TR at hp
  generalize kvW (wl 0 nms) = K at *
  generalize nms.map nmO = y at *
  refine seq_ex (ρ1 := [.dt (.str (SL l)), .dt (.tuple y), .mu 0, .un, .un, .un]) (S1 := [.dct false K]) (by simp [wd]) ?_
  refine seq_ex (ρ1 := [.dt (.str (SL l)), .dt (.tuple y), .mu 0, .mu 1, .un, .un]) (S1 := [.dct false K, .lst []]) (by simp [big]) ?_
  exact seq_ex (ρ1 := [.dt (.str (SL l)), .dt (.tuple y), .mu 0, .mu 1, .dt (.int 0), .un]) (S1 := [.dct false K, .lst []]) (by simp) hp
theorem ok_templ {n : Nat} {nms : List (Option (List Nat))} {ps : List Pc} (h : NmOk nms) (hl : nms.length ≤ 100) (hp : ∀ p ∈ ps, pcOk (wl 0 nms) p) (hps : ps.length ≤ 1000) (hlen : (pcsW ps).length ≤ 100000) :
    run tb (n + 4) f_read_template [.dt (.str (SL (pcsW ps))), .dt (.tuple (nms.map nmO))] [] = .ok (.nw (.lst ((jall [] ps).map paD))) [] := by
  have st := tp_run (n := n) (l := pcsW ps) (nm := .tuple (nms.map nmO)) hlen ps 0 0 [] [] (by simp) hp jok_nil (by omega)
  rw [Nat.zero_add] at st
  have hsz : (pcsW ps).length ≤ sizeLine := by rw [sizeLine_eq]; omega
  rw [run_read_template]
  refine run_ex rfl ?_
  show ∃ fl, exec (cbOf tb (n + 3)) body_read_template [.dt (.str (SL (pcsW ps))), .dt (.tuple (nms.map nmO)), .un, .un, .un, .un] _ = fl ∧ _
  unfold body_read_template
  refine tp_pre h hl ?_
  refine seq_ex (ρ1 := TR (pcsW ps) (.tuple (nms.map nmO)) (pcsW ps).length .un) (S1 := [.dct false (kvW (wl 0 nms)), .lst ((jall [] ps).map paD)]) ?_ ?_
  · rw [ex_whl]
    exact Stps.done st (by unfold TR; simp [hsz])
  · unfold TR
    generalize (jall [] ps).map paD = X at *
    generalize kvW (wl 0 nms) = K at *
    exact ⟨.rt (.mu 1) [.dct false K, .lst X], by simp, by simp⟩
theorem ok_templX {n : Nat} {nms : List (Option (List Nat))} {ps : List Pc} {r : List Nat} (h : NmOk nms) (hl : nms.length ≤ 100) (hp : ∀ p ∈ ps, pcOk (wl 0 nms) p) (hps : ps.length ≤ 1000) (hx : DolX (wl 0 nms) r) (hlen : (pcsW ps ++ 36 :: r).length ≤ 100000) :
    run tb (n + 4) f_read_template [.dt (.str (SL (pcsW ps ++ 36 :: r))), .dt (.tuple (nms.map nmO))] [] = .ex 0 (tmF (((pcsW ps).length + 1 : Nat) : Int)) [] := by
  have st := tp_run (n := n) (l := pcsW ps ++ 36 :: r) (nm := .tuple (nms.map nmO)) hlen ps 0 0 [] (36 :: r) (by simp) hp jok_nil (by omega)
  rw [Nat.zero_add] at st
  have hd : (pcsW ps ++ 36 :: r).drop (pcsW ps).length = 36 :: r := List.drop_left ..
  have hsz : (pcsW ps ++ 36 :: r).length ≤ sizeLine := by rw [sizeLine_eq]; omega
  have rd := ok_dolX (n := n) hd hx hlen
  have hal : (pcsW ps).length < (pcsW ps ++ 36 :: r).length := by simp
  have ix : atI (pcsW ps ++ 36 :: r) (((pcsW ps).length : Nat) : Int) = some 36 := by
    refine atI_nat ?_
    rw [← List.head?_drop, hd]
    rfl
  rw [run_read_template]
  refine run_ex rfl ?_
  show ∃ fl, exec (cbOf tb (n + 3)) body_read_template [.dt (.str (SL (pcsW ps ++ 36 :: r))), .dt (.tuple (nms.map nmO)), .un, .un, .un, .un] _ = fl ∧ _
  unfold body_read_template
  refine tp_pre h hl ?_
  obtain ⟨S', cc⟩ : ∃ S', callC (run tb (n + 3)) f__read_dollar [.dt (.str (SL (pcsW ps ++ 36 :: r))), .dt (.int (((pcsW ps).length : Nat) : Int)), .mu 0] [.dct false (kvW (wl 0 nms)), .lst ((jall [] ps).map paD)] = .ex 0 (tmF (((pcsW ps).length + 1 : Nat) : Int)) S' :=
    callX_1 (i := 0) (ens := [.dt (.str (SL (pcsW ps ++ 36 :: r))), .dt (.int (((pcsW ps).length : Nat) : Int)), .mu 0]) (S := [.dct false (kvW (wl 0 nms)), .lst ((jall [] ps).map paD)]) (S2 := [.dct false (kvW (wl 0 nms))]) (c := .dct false (kvW (wl 0 nms))) rfl rfl (fun _ => rfl) (by simp) (by simp) (by simp; exact rd) (by simp)
  generalize pcsW ps ++ 36 :: r = l at *
  generalize (pcsW ps).length = a at *
  have hal' : (a : Int) < (l.length : Int) := by omega
  have e1 : ∀ c : Nat, (⟨#[c]⟩ : Str) = SL [c] := fun _ => rfl
  have ed : Str.ofString "$" = SL [36] := by decide
  refine seq_exx (c := 0) (fs := tmF ((a + 1 : Nat) : Int)) (ρ1 := TR l (.tuple (nms.map nmO)) a .un) (S1 := S') ?_ (by simp [trim0])
  rw [ex_whl]
  refine Stps.raise st (S2 := [.dct false (kvW (wl 0 nms)), .lst ((jall [] ps).map paD)]) ?_ ?_
  · unfold TR
    simp [hal, hal', hsz]
  · unfold TR tmF at *
    generalize kvW (wl 0 nms) = K at *
    generalize (jall [] ps).map paD = X at *
    generalize ((a + 1 : Nat) : Int) = col at *
    refine of_ex ?_
    refine seq_exx (c := 0) (fs := [("column", .int col)]) (ρ1 := [.dt (.str (SL l)), .dt (.tuple (nms.map nmO)), .mu 0, .mu 1, .dt (.int (a : Int)), .un]) (S1 := S') ?_ rfl
    rw [ite_t (S1 := [.dct false K, .lst X]) (by simp [SL_cps, ix, hsz, e1, ed])]
    simp [-callC, cc]

/-! ### law_k79: names that a script draws -/
theorem strOk_w {w : List Nat} (h : ∀ c ∈ w, c < 128) : PyData.strOk (SL w) = true := by
  unfold PyData.strOk
  show (w.toArray).all _ = true
  rw [List.all_toArray, List.all_eq_true]
  intro c hc
  have := h c hc
  simp
  omega
def lnT : List Nat := (Str.ofString "abcdefghijklmnopqrstuvwxyzABCDEFGHIJKLMNOPQRSTUVWXYZ_").cps.toList
def dgT : List Nat := (Str.ofString "0123456789").cps.toList
theorem lnT_e : Str.ofString "abcdefghijklmnopqrstuvwxyzABCDEFGHIJKLMNOPQRSTUVWXYZ_" = SL lnT := SL_of _
theorem dgT_e : Str.ofString "0123456789" = SL dgT := SL_of _
theorem lnT_len : lnT.length = 53 := by decide +kernel
theorem ldT_len : (lnT ++ dgT).length = 63 := by decide +kernel
theorem ln_ok : ∀ c ∈ lnT, c ≠ 125 ∧ c < 128 ∧ hdC c := by decide +kernel
theorem ld_ok : ∀ c ∈ lnT ++ dgT, c ≠ 125 ∧ c < 128 := by decide +kernel
def nmC (w : List Nat) : Prop := w ≠ [] ∧ w.length ≤ 4 ∧ (∀ c ∈ w, c ≠ 125 ∧ c < 128) ∧ (∀ c, w.head? = some c → hdC c)
theorem ok_name {n : Nat} {ns : List Int} {s : St2} (ho : okS s) : ∃ (w : List Nat) (s' : St2), okS s' ∧ nmC w ∧ run tb (n + 3) f__law_name [.dt (scr ns), .mu 0] [.lst [.int s.1, .int s.2]] = .ok (.v (.str (SL w))) [.lst [.int s'.1, .int s'.2]] := by
  obtain ⟨a, s1, ha, o1, d1⟩ := drwX (ns := ns) (xs := []) 53 ho (by omega) (by omega)
  replace d1 := d1 n
  simp at d1
  obtain ⟨k, s2, hk, o2, d2⟩ := drwX (ns := ns) (xs := []) 4 o1 (by omega) (by omega)
  replace d2 := d2 n
  simp at d2
  have e1 : ∀ c : Nat, (⟨#[c]⟩ : Str) = SL [c] := fun _ => rfl
  obtain ⟨x, hx⟩ : ∃ x, lnT[a]? = some x := ⟨lnT[a]'(by rw [lnT_len]; exact ha), List.getElem?_eq_getElem _⟩
  have xo := ln_ok x (List.mem_of_getElem? hx)
  have ax : atI lnT (a : Int) = some x := atI_nat hx
  have le := lnT_e
  have de := dgT_e
  have l53 := lnT_len
  have l63 := ldT_len
  have ldo := ld_ok
  have lsum : lnT.length + dgT.length = 63 := by rw [← l63, List.length_append]
  have b53 : lnT.length ≤ 16777216 := by omega
  have b63 : lnT.length + dgT.length ≤ 16777216 := by omega
  generalize lnT = L at *
  generalize dgT = D at *
  obtain ⟨ρ', S', h1, h2⟩ := loopF_inv (f := forB (cbOf tb (n + 2)) (.nm 4) L__law_name_0) (ch := none) (ks := [4]) (n0 := 1) (fun i ρ S => ∃ (w : List Nat) (s' : St2), okS s' ∧ w.length = i + 1 ∧ (∀ c ∈ w, c ≠ 125 ∧ c < 128) ∧ (∀ c, w.head? = some c → hdC c) ∧ ρ = [.dt (scr ns), .mu 0, .dt (.str (SL L)), .dt (.str (SL w)), .un] ∧ S = [.lst [.int s'.1, .int s'.2]]) ((rngD 0 k).map .dt) 0 [.dt (scr ns), .mu 0, .dt (.str (SL L)), .dt (.str (SL [x])), .un] [.lst [.int s2.1, .int s2.2]] ⟨[x], s2, o2, rfl, by simp; exact ⟨xo.1, xo.2.1⟩, by simp; exact xo.2.2, rfl, rfl⟩ (fun i e ρ S he hi => by
    obtain ⟨w, s3, o3, hl, hc, hh, rfl, rfl⟩ := hi
    have hik : i < k := by
      have := (List.getElem?_eq_some_iff.mp he).1
      simpa [rngD] using this
    obtain ⟨j, hj, rfl⟩ := rng_mem (List.mem_of_getElem? he)
    obtain ⟨b, s4, hb, o4, d3⟩ := drwX (ns := ns) (xs := []) 63 o3 (by omega) (by omega)
    replace d3 := d3 n
    simp at d3
    obtain ⟨y, hy⟩ : ∃ y, (L ++ D)[b]? = some y := ⟨(L ++ D)[b]'(by rw [l63]; exact hb), List.getElem?_eq_getElem _⟩
    have ay : atI (L ++ D) (b : Int) = some y := atI_nat hy
    have yo := ldo y (List.mem_of_getElem? hy)
    have hwl : w.length ≤ 16777215 := by omega
    have hwl2 : w.length + 1 ≤ 16777216 := by omega
    have es : SL L ++ SL D = SL (L ++ D) := SL_app ..
    have bLD : (L ++ D).length ≤ 16777216 := by omega
    generalize L ++ D = LD at *
    refine ⟨[.dt (scr ns), .mu 0, .dt (.str (SL L)), .dt (.str (SL (w ++ [y]))), .dt (.int (j : Int))], [.lst [.int s4.1, .int s4.2]], .inl ?_, trivial, w ++ [y], s4, o4, by simp; omega, ?_, ?_, rfl, trimL (by simp)⟩
    · rw [forB_nm]
      have q : SL w ++ SL [y] = SL (w ++ [y]) := SL_app ..
      simp [d3, de, es, SL_cps, ay, e1, big, sizeLine, b63, hwl2, bLD, q]
    · intro c hcc
      rcases List.mem_append.mp hcc with h | h
      · exact hc c h
      · simp at h; subst h; exact yo
    · intro c hcc
      cases w with
      | nil => simp at hl
      | cons z t => exact hh c (by simpa using hcc))
  obtain ⟨w, s', o', hl, hc, hh, rfl, rfl⟩ := h2
  have hl' : w.length = k + 1 := by simpa [rngD] using hl
  refine ⟨w, s', o', ⟨by intro h; rw [h] at hl'; simp at hl', by omega, hc, hh⟩, ?_⟩
  rw [run__law_name]
  refine run_ex rfl ?_
  show ∃ fl, exec (cbOf tb (n + 2)) body__law_name [.dt (scr ns), .mu 0, .un, .un, .un] _ = fl ∧ _
  unfold body__law_name
  refine seq_ex (ρ1 := [.dt (scr ns), .mu 0, .dt (.str (SL L)), .un, .un]) (S1 := [.lst [.int s.1, .int s.2]]) (by simp [le]) ?_
  refine seq_ex (ρ1 := [.dt (scr ns), .mu 0, .dt (.str (SL L)), .dt (.str (SL [x])), .un]) (S1 := [.lst [.int s1.1, .int s1.2]]) (by simp [d1, SL_cps, ax, e1, b53, sizeLine]) ?_
  have b1 : (-1000000000 : Int) ≤ k ∧ (k : Int) ≤ 1000000000 := by omega
  refine seq_ex (ρ1 := [.dt (scr ns), .mu 0, .dt (.str (SL L)), .dt (.str (SL w)), .un]) (S1 := [.lst [.int s'.1, .int s'.2]]) (by simp [d2, b1, h1]) ?_
  exact ⟨.rt (.v (.str (SL w))) [.lst [.int s'.1, .int s'.2]], by simp, by simp⟩

/-! ### law_k79: the list of names -/
theorem eqv_none (w : List Nat) : PyData.eqv .none (.str (SL w)) = false := by simp [PyData.eqv]
theorem eqv_strS (v w : List Nat) : PyData.eqv (.str (SL v)) (.str (SL w)) = decide (v = w) := by
  simp only [PyData.eqv]
  by_cases h : v = w
  · subst h; simp
  · rw [decide_eq_false h]
    exact beq_false_of_ne fun e => h (by simpa [SL_inj] using e)
theorem nm_isin {nms : List (Option (List Nat))} {w : List Nat} (h : NmOk nms) (hw : nmC w) :
    SeqAt.shaped (.str (SL w)) = true ∧ SeqAt.shaped (.list (nms.map nmO)) = true ∧ ((nms.map nmO).any fun z => PyData.eqv z (.str (SL w))) = decide (some w ∈ nms) := by
  have so : ∀ v, nmC v → PyData.strOk (SL v) = true := fun v hv => strOk_w fun c hc => (hv.2.2.1 c hc).2
  refine ⟨?_, ?_, ?_⟩
  · unfold SeqAt.shaped
    simp [PyData.canLay0, PyData.depth, so w hw]
  · have hall : ∀ d ∈ nms.map nmO, PyData.canLay0 d = true ∧ PyData.depth d ≤ 1 := by
      intro d hd
      obtain ⟨o, ho, rfl⟩ := List.mem_map.mp hd
      cases o with
      | none => exact ⟨by simp [nmO, PyData.canLay0], by simp [nmO, PyData.depth]⟩
      | some v => exact ⟨by simp [nmO, PyData.canLay0, so v (h.ch v ho)], by simp [nmO, PyData.depth]⟩
    have hl : ∀ ds : List PyData, (∀ d ∈ ds, PyData.canLay0 d = true ∧ PyData.depth d ≤ 1) → PyData.canLayAll0 ds = true ∧ PyData.depthAll ds ≤ 1 := by
      intro ds
      induction ds with
      | nil => intro _; simp [PyData.canLayAll0, PyData.depthAll]
      | cons d ds ih =>
        intro hd
        have h1 := hd d List.mem_cons_self
        have h2 := ih fun e he => hd e (List.mem_cons_of_mem _ he)
        refine ⟨by simp [PyData.canLayAll0, h1.1, h2.1], ?_⟩
        simp only [PyData.depthAll]
        omega
    have := hl _ hall
    unfold SeqAt.shaped
    have h2 := this.2
    simp [PyData.canLay0, PyData.depth, this.1]
    omega
  · rw [List.any_map]
    induction nms with
    | nil => simp
    | cons x nms ih =>
      have ih := ih h.tail
      rw [List.any_cons, ih]
      cases x with
      | none =>
        have : ((fun z => PyData.eqv z (PyData.str (SL w))) ∘ nmO) none = false := eqv_none w
        rw [this]
        simp
      | some v =>
        have : ((fun z => PyData.eqv z (PyData.str (SL w))) ∘ nmO) (some v) = decide (v = w) := eqv_strS v w
        rw [this]
        by_cases e : v = w
        · subst e; simp
        · have e2 : ¬ w = v := fun h => e h.symm
          simp [e, e2]
theorem NmOk.none {nms : List (Option (List Nat))} (h : NmOk nms) : NmOk (nms ++ [none]) := by
  refine ⟨?_, fun w hw => ?_⟩
  · rw [List.filterMap_append]
    simpa using h.nd
  · rcases List.mem_append.mp hw with hw | hw
    · exact h.ch w hw
    · simp at hw
theorem NmOk.some {nms : List (Option (List Nat))} {w : List Nat} (h : NmOk nms) (hw : nmC w) (hn : Option.some w ∉ nms) : NmOk (nms ++ [Option.some w]) := by
  refine ⟨?_, fun v hv => ?_⟩
  · rw [List.filterMap_append]
    refine List.nodup_append.mpr ⟨h.nd, by simp, fun a ha b hb => ?_⟩
    simp at hb
    subst hb
    rintro rfl
    obtain ⟨o, ho, he⟩ := List.mem_filterMap.mp ha
    simp at he
    subst he
    exact hn ho
  · rcases List.mem_append.mp hv with hv | hv
    · exact h.ch v hv
    · simp at hv
      subst hv
      exact hw
theorem ok_names {n : Nat} {ns : List Int} {s : St2} (ho : okS s) : ∃ (nms : List (Option (List Nat))) (s' : St2), okS s' ∧ nms.length ≤ 5 ∧ NmOk nms ∧ run tb (n + 4) f__law_names [.dt (scr ns), .mu 0] [.lst [.int s.1, .int s.2]] = .ok (.v (.tuple (nms.map nmO))) [.lst [.int s'.1, .int s'.2]] := by
  obtain ⟨g, s0, hg, o0, d0⟩ := drwX (ns := ns) (xs := []) 6 ho (by omega) (by omega)
  replace d0 := d0 (n + 1)
  simp at d0
  obtain ⟨ρ', S', h1, h2⟩ := loopF_inv (f := forB (cbOf tb (n + 3)) (.nm 3) L__law_names_0) (ch := none) (ks := [3, 4]) (n0 := 2) (fun i ρ S => ∃ (nms : List (Option (List Nat))) (s' : St2), okS s' ∧ nms.length = i ∧ NmOk nms ∧ ρ = [.dt (scr ns), .mu 0, .mu 1, .un, .un] ∧ S = [.lst [.int s'.1, .int s'.2], .lst (nms.map nmO)]) ((rngD 0 g).map .dt) 0 [.dt (scr ns), .mu 0, .mu 1, .un, .un] [.lst [.int s0.1, .int s0.2], .lst []] ⟨[], s0, o0, rfl, ⟨by simp, nofun⟩, rfl, rfl⟩ (fun i e ρ S he hi => by
    obtain ⟨nms, s1, o1, hl, hn, rfl, rfl⟩ := hi
    have hik : i < g := by
      have := (List.getElem?_eq_some_iff.mp he).1
      simpa [rngD] using this
    obtain ⟨j, hj, rfl⟩ := rng_mem (List.mem_of_getElem? he)
    obtain ⟨w, s2, o2, hw, dn⟩ := ok_name (n := n) (ns := ns) o1
    obtain ⟨i1, i2, i3⟩ := nm_isin hn hw
    have hz : (nms.map nmO).length < 16000000 := by simp; omega
    rw [forB_nm]
    by_cases hin : some w ∈ nms
    · have i3 : ((nms.map nmO).any fun z => PyData.eqv z (.str (SL w))) = true := by rw [i3]; simp [hin]
      refine ⟨[.dt (scr ns), .mu 0, .mu 1, .dt (.int (j : Int)), .dt (.str (SL w))], [.lst [.int s2.1, .int s2.2], .lst ((nms ++ [none]).map nmO)], .inl ?_, trivial, nms ++ [none], s2, o2, by simp; omega, hn.none, rfl, trimL (by simp)⟩
      rw [List.map_append]
      show _ = Fl.nx _ [_, .lst (nms.map nmO ++ [.none])]
      generalize nms.map nmO = z at *
      have ni : VM.inR (.v (.str (SL w))) (.mu 1) [Cell.lst [.int s2.1, .int s2.2], Cell.lst z] = some true := by simp only [VM.inR, List.getElem?_cons_succ, List.getElem?_cons_zero]; rw [if_pos ⟨i1, i2⟩, i3]
      simp [dn, ni, hz, big]
    · have i3 : ((nms.map nmO).any fun z => PyData.eqv z (.str (SL w))) = false := by rw [i3]; simp [hin]
      obtain ⟨b, s3, hb, o3, d3⟩ := drwX (ns := ns) (xs := []) 3 o2 (by omega) (by omega)
      replace d3 := d3 (n + 1)
      simp at d3
      by_cases hb0 : b = 0
      · subst hb0
        refine ⟨[.dt (scr ns), .mu 0, .mu 1, .dt (.int (j : Int)), .dt (.str (SL w))], [.lst [.int s3.1, .int s3.2], .lst ((nms ++ [none]).map nmO)], .inl ?_, trivial, nms ++ [none], s3, o3, by simp; omega, hn.none, rfl, trimL (by simp)⟩
        rw [List.map_append]
        show _ = Fl.nx _ [_, .lst (nms.map nmO ++ [.none])]
        generalize nms.map nmO = z at *
        have ni : VM.inR (.v (.str (SL w))) (.mu 1) [Cell.lst [.int s2.1, .int s2.2], Cell.lst z] = some false := by simp only [VM.inR, List.getElem?_cons_succ, List.getElem?_cons_zero]; rw [if_pos ⟨i1, i2⟩, i3]
        simp [dn, ni, d3, hz, big]
      · refine ⟨[.dt (scr ns), .mu 0, .mu 1, .dt (.int (j : Int)), .dt (.str (SL w))], [.lst [.int s3.1, .int s3.2], .lst ((nms ++ [some w]).map nmO)], .inl ?_, trivial, nms ++ [some w], s3, o3, by simp; omega, hn.some hw hin, rfl, trimL (by simp)⟩
        rw [List.map_append]
        show _ = Fl.nx _ [_, .lst (nms.map nmO ++ [.str (SL w)])]
        generalize nms.map nmO = z at *
        have ni : VM.inR (.v (.str (SL w))) (.mu 1) [Cell.lst [.int s2.1, .int s2.2], Cell.lst z] = some false := by simp only [VM.inR, List.getElem?_cons_succ, List.getElem?_cons_zero]; rw [if_pos ⟨i1, i2⟩, i3]
        simp [dn, ni, d3, hb0, hz, big])
  obtain ⟨nms, s', o', hl, hn, rfl, rfl⟩ := h2
  have hl' : nms.length = g := by simpa [rngD] using hl
  refine ⟨nms, s', o', by omega, hn, ?_⟩
  rw [run__law_names]
  refine run_ex rfl ?_
  show ∃ fl, exec (cbOf tb (n + 3)) body__law_names [.dt (scr ns), .mu 0, .un, .un, .un] _ = fl ∧ _
  unfold body__law_names
  refine seq_ex (ρ1 := [.dt (scr ns), .mu 0, .mu 1, .un, .un]) (S1 := [.lst [.int s.1, .int s.2], .lst []]) (by simp [big]) ?_
  have b1 : (-1000000000 : Int) ≤ g ∧ (g : Int) ≤ 1000000000 := by omega
  refine seq_ex (ρ1 := [.dt (scr ns), .mu 0, .mu 1, .un, .un]) (S1 := [.lst [.int s'.1, .int s'.2], .lst (nms.map nmO)]) (by simp [d0, b1, h1]) ?_
  generalize nms.map nmO = z at *
  exact ⟨.rt (.v (.tuple z)) [.lst [.int s'.1, .int s'.2], .lst z], by simp, by simp⟩

/-! ### law_k79: pieces -/
def pl1T : List Nat := (Str.ofString " !\"#&'()*+,-./0123456789:;<=>?@ABCDEFGHIJKLMNOPQRSTUVWXYZ[\\]^_`").cps.toList
def pl2T : List Nat := (Str.ofString "abcdefghijklmnopqrstuvwxyz{|}~\n\t").cps.toList
theorem pl1_e : Str.ofString " !\"#&'()*+,-./0123456789:;<=>?@ABCDEFGHIJKLMNOPQRSTUVWXYZ[\\]^_`" = SL pl1T := SL_of _
theorem pl2_e : Str.ofString "abcdefghijklmnopqrstuvwxyz{|}~\n\t" = SL pl2T := SL_of _
theorem pl_len : (pl1T ++ pl2T).length = 95 := by decide +kernel
theorem pl_ok : ∀ c ∈ pl1T ++ pl2T, c ≠ 36 := by decide +kernel
def pcD (p : Pc) : PyData := .tuple [.str (SL (pcW p)), paD (pcA p)]
theorem nT_125 (k : Nat) : 125 ∉ nT k := fun h => by
  have := nT_dig h
  revert this
  decide
abbrev pieceP : VM.St := (.seq (.asg (.nm 5) (.con (.str " !\"#&'()*+,-./0123456789:;<=>?@ABCDEFGHIJKLMNOPQRSTUVWXYZ[\\]^_`")))
  (.seq (.asg (.nm 5) (.bin .add (.var 5) (.con (.str "abcdefghijklmnopqrstuvwxyz{|}~\n\t"))))
  (.seq (.asg (.nm 6) (.idx (.var 5) (.call f__law_digit (.cons (.var 0) (.cons (.var 1) (.cons (.bi .len (.cons (.var 5) .nil)) .nil))))))
  (.ret (.tup (.cons (.var 6) (.cons (.tup (.cons (.con (.str "text")) (.cons (.var 6) .nil))) .nil)))))))
def pcR (L : List (List Nat × Nat)) (fl : Fl) : Prop := ∃ p s', okS s' ∧ pcOk L p ∧ fl = .rt (.v (pcD p)) [.lst [.int s'.1, .int s'.2]]
theorem piece_p {n : Nat} {ns : List Int} {s : St2} {L : List (List Nat × Nat)} {x2 x3 x4 : En} (ho : okS s) : pcR L (exec (cbOf tb (n + 2)) pieceP [.dt (scr ns), .mu 0, x2, x3, x4, .un, .un] [.lst [.int s.1, .int s.2]]) := by
  obtain ⟨b, s1, hb, o1, d1⟩ := drwX (ns := ns) (xs := []) 95 ho (by omega) (by omega)
  replace d1 := d1 n
  simp at d1
  obtain ⟨y, hy⟩ : ∃ y, (pl1T ++ pl2T)[b]? = some y := ⟨(pl1T ++ pl2T)[b]'(by rw [pl_len]; exact hb), List.getElem?_eq_getElem _⟩
  have ay : atI (pl1T ++ pl2T) (b : Int) = some y := atI_nat hy
  have yo := pl_ok y (List.mem_of_getElem? hy)
  have e1 : ∀ c : Nat, (⟨#[c]⟩ : Str) = SL [c] := fun _ => rfl
  have q1 := pl1_e
  have q2 := pl2_e
  have hl := pl_len
  have hls : pl1T.length + pl2T.length ≤ 16777216 := by rw [← List.length_append, hl]; omega
  have es : SL pl1T ++ SL pl2T = SL (pl1T ++ pl2T) := SL_app ..
  have hl2 : (pl1T ++ pl2T).length ≤ 16777216 := by rw [hl]; omega
  refine ⟨.ch y, s1, o1, yo, ?_⟩
  unfold pieceP
  rw [q1, q2]
  generalize pl1T ++ pl2T = P at *
  generalize pl1T = P1 at *
  generalize pl2T = P2 at *
  refine of_ex ?_
  refine seq_ex (ρ1 := [.dt (scr ns), .mu 0, x2, x3, x4, .dt (.str (SL P1)), .un]) (S1 := [.lst [.int s.1, .int s.2]]) (by simp) ?_
  refine seq_ex (ρ1 := [.dt (scr ns), .mu 0, x2, x3, x4, .dt (.str (SL P)), .un]) (S1 := [.lst [.int s.1, .int s.2]]) (by simp [hls, es, sizeLine]) ?_
  refine seq_ex (ρ1 := [.dt (scr ns), .mu 0, x2, x3, x4, .dt (.str (SL P)), .dt (.str (SL [y]))]) (S1 := [.lst [.int s1.1, .int s1.2]]) (by simp [hl, d1, SL_cps, ay, e1, sizeLine]) ?_
  exact ⟨_, by simp [big]; rfl, by simp [pcD, pcW, pcA, paD]⟩
theorem piece_4 {n : Nat} {ns : List Int} {s : St2} {nms : List (Option (List Nat))} {x3 : En} (h : NmOk nms) (hl : nms.length ≤ 100) (hp : 0 < nms.length) (ho : okS s) :
    pcR (wl 0 nms) (exec (cbOf tb (n + 2)) (.seq (.asg (.nm 4) (.call f__law_digit (.cons (.var 0) (.cons (.var 1) (.cons (.bi .len (.cons (.var 2) .nil)) .nil)))))
  (.ret (.tup (.cons (.bin .add (.bin .add (.con (.str "${")) (.bi .str (.cons (.var 4) .nil))) (.con (.str "}"))) (.cons (.tup (.cons (.con (.str "group")) (.cons (.var 4) .nil))) .nil))))) [.dt (scr ns), .mu 0, .dt (.tuple (nms.map nmO)), x3, .un, .un, .un] [.lst [.int s.1, .int s.2]]) := by
  obtain ⟨b, s1, hb, o1, d1⟩ := drwX (ns := ns) (xs := []) nms.length ho hp (by omega)
  replace d1 := d1 n
  have hk := (wl_has nms 0 b hb).1
  rw [Nat.zero_add] at hk
  have hlen := nT_len (k := b) (by omega)
  refine ⟨.grp (nT b) b, s1, o1, ⟨nT_125 b, wl_find h hl hk, by omega⟩, ?_⟩
  have hs := nT_str b
  have hlg : b.log2 < 1920 := log2_small (by omega)
  have ea : Str.ofString "${" = SL [36, 123] := by decide
  have eb : Str.ofString "}" = SL [125] := by decide
  have el : (nms.map nmO).length = nms.length := List.length_map ..
  have l1 : (nT b).length + 2 ≤ 16777216 := by omega
  have l2 : 2 + (nT b).length ≤ 16777216 := by omega
  have l3 : 2 + (nT b).length + 1 ≤ 16777216 := by omega
  have l4 : (nT b).length + 1 + 1 + 1 ≤ 16777216 := by omega
  generalize nms.map nmO = z at *
  generalize nms.length = m at *
  refine of_ex ?_
  refine seq_ex (ρ1 := [.dt (scr ns), .mu 0, .dt (.tuple z), x3, .dt (.int (b : Int)), .un, .un]) (S1 := [.lst [.int s1.1, .int s1.2]]) (by simp [el, d1]) ?_
  exact ⟨_, by simp [hs, hlg, ea, eb, SL_app, sizeLine, big, l1, l2, l3, l4]; rfl, by simp [pcD, pcW, pcA, paD, SL_app]⟩
theorem piece_5 {n : Nat} {ns : List Int} {s : St2} {nms : List (Option (List Nat))} {x3 : En} {p : VM.St} (h : NmOk nms) (hl : nms.length ≤ 100) (hp : 0 < nms.length) (ho : okS s)
    (hq : ∀ x4 s, okS s → pcR (wl 0 nms) (exec (cbOf tb (n + 2)) p [.dt (scr ns), .mu 0, .dt (.tuple (nms.map nmO)), x3, x4, .un, .un] [.lst [.int s.1, .int s.2]])) :
    pcR (wl 0 nms) (exec (cbOf tb (n + 2)) (.seq (.seq (.asg (.nm 4) (.call f__law_digit (.cons (.var 0) (.cons (.var 1) (.cons (.bi .len (.cons (.var 2) .nil)) .nil)))))
  (.ite (.cmp .notn (.idx (.var 2) (.var 4)) (.con .none))
  (.ret (.tup (.cons (.bin .add (.bin .add (.con (.str "${")) (.idx (.var 2) (.var 4))) (.con (.str "}"))) (.cons (.tup (.cons (.con (.str "group")) (.cons (.var 4) .nil))) .nil))))
  .nop)) p) [.dt (scr ns), .mu 0, .dt (.tuple (nms.map nmO)), x3, .un, .un, .un] [.lst [.int s.1, .int s.2]]) := by
  obtain ⟨b, s1, hb, o1, d1⟩ := drwX (ns := ns) (xs := []) nms.length ho hp (by omega)
  replace d1 := d1 n
  have hk := (wl_has nms 0 b hb).2
  rw [Nat.zero_add] at hk
  have hlg : b.log2 < 1920 := log2_small (by omega)
  have ea : Str.ofString "${" = SL [36, 123] := by decide
  have eb : Str.ofString "}" = SL [125] := by decide
  have el : (nms.map nmO).length = nms.length := List.length_map ..
  obtain ⟨o, hoo⟩ : ∃ o, nms[b]? = some o := ⟨nms[b], List.getElem?_eq_getElem hb⟩
  have at1 : atI (nms.map nmO) (b : Int) = some (nmO o) := atI_nat (by rw [List.getElem?_map, hoo]; rfl)
  cases o with
  | none =>
    have at1 : atI (nms.map nmO) (b : Int) = some .none := at1
    have := hq (.dt (.int (b : Int))) s1 o1
    obtain ⟨pc, s2, o2, h2, h3⟩ := this
    refine ⟨pc, s2, o2, h2, ?_⟩
    rw [← h3]
    clear h3 hq
    generalize nms.map nmO = z at *
    generalize nms.length = m at *
    refine of_ex ?_
    refine seq_ex (ρ1 := [.dt (scr ns), .mu 0, .dt (.tuple z), x3, .dt (.int (b : Int)), .un, .un]) (S1 := [.lst [.int s1.1, .int s1.2]]) ?_ ⟨_, rfl, rfl⟩
    refine of_ex ?_
    refine seq_ex (ρ1 := [.dt (scr ns), .mu 0, .dt (.tuple z), x3, .dt (.int (b : Int)), .un, .un]) (S1 := [.lst [.int s1.1, .int s1.2]]) (by simp [el, d1]) ?_
    exact ⟨_, rfl, by rw [ite_f (S1 := [.lst [.int s1.1, .int s1.2]]) (by simp [at1])]; simp⟩
  | some w =>
    have at1 : atI (nms.map nmO) (b : Int) = some (.str (SL w)) := at1
    have hw := h.ch w (List.mem_of_getElem? hoo)
    have l1 : w.length + 2 ≤ 16777216 := by omega
    have l2 : 2 + w.length ≤ 16777216 := by omega
    have l3 : 2 + w.length + 1 ≤ 16777216 := by omega
    have l4 : w.length + 1 + 1 + 1 ≤ 16777216 := by omega
    refine ⟨.grp w b, s1, o1, ⟨fun hm => (hw.2.2.1 125 hm).1 rfl, wl_find h hl (hk w hoo), by omega⟩, ?_⟩
    clear hq
    generalize nms.map nmO = z at *
    generalize nms.length = m at *
    refine of_ex ?_
    refine seq_rtx (r := .v (pcD (.grp w b))) (S1 := [.lst [.int s1.1, .int s1.2]]) ?_ rfl
    refine of_ex ?_
    refine seq_ex (ρ1 := [.dt (scr ns), .mu 0, .dt (.tuple z), x3, .dt (.int (b : Int)), .un, .un]) (S1 := [.lst [.int s1.1, .int s1.2]]) (by simp [el, d1]) ?_
    exact ⟨_, rfl, by rw [ite_t (S1 := [.lst [.int s1.1, .int s1.2]]) (by simp [at1])]; simp [at1, ea, eb, SL_app, sizeLine, big, l1, l2, l3, l4, pcD, pcW, pcA, paD]⟩

theorem sg_at : ∀ k : Nat, k < 4 → ∃ c, (c = 36 ∨ c = 38 ∨ c = 91 ∨ c = 93) ∧ atI [.tuple [.str "$$", .tuple [.str "text", .str "$"]], .tuple [.str "$&", .tuple [.str "match"]], .tuple [.str "$[", .tuple [.str "before"]], .tuple [.str "$]", .tuple [.str "behind"]]] (k : Int) = some (pcD (.dol c)) := by
  intro k hk
  have e0 : Str.ofString "$" = SL [36] := by decide
  have e1 : Str.ofString "$$" = SL [36, 36] := by decide
  have e2 : Str.ofString "$&" = SL [36, 38] := by decide
  have e3 : Str.ofString "$[" = SL [36, 91] := by decide
  have e4 : Str.ofString "$]" = SL [36, 93] := by decide
  rw [e0, e1, e2, e3, e4]
  match k, hk with
  | 0, _ => exact ⟨36, .inl rfl, rfl⟩
  | 1, _ => exact ⟨38, .inr (.inl rfl), rfl⟩
  | 2, _ => exact ⟨91, .inr (.inr (.inl rfl)), rfl⟩
  | 3, _ => exact ⟨93, .inr (.inr (.inr rfl)), rfl⟩
theorem ok_piece {n : Nat} {ns : List Int} {s : St2} {nms : List (Option (List Nat))} (h : NmOk nms) (hl : nms.length ≤ 100) (ho : okS s) :
    ∃ (p : Pc) (s' : St2), okS s' ∧ pcOk (wl 0 nms) p ∧ run tb (n + 3) f__law_piece [.dt (scr ns), .mu 0, .dt (.tuple (nms.map nmO))] [.lst [.int s.1, .int s.2]] = .ok (.v (pcD p)) [.lst [.int s'.1, .int s'.2]] := by
  obtain ⟨k, s1, hk, o1, d1⟩ := drwX (ns := ns) (xs := []) 9 ho (by omega) (by omega)
  replace d1 := d1 n
  simp at d1
  have hz : (nms.map nmO).length = nms.length := List.length_map ..
  have fin : pcR (wl 0 nms) (exec (cbOf tb (n + 2)) body__law_piece [.dt (scr ns), .mu 0, .dt (.tuple (nms.map nmO)), .un, .un, .un, .un] [.lst [.int s.1, .int s.2]]) := by
    have stp : ∀ {p : VM.St}, pcR (wl 0 nms) (exec (cbOf tb (n + 2)) p [.dt (scr ns), .mu 0, .dt (.tuple (nms.map nmO)), .dt (.int (k : Int)), .un, .un, .un] [.lst [.int s1.1, .int s1.2]]) → pcR (wl 0 nms) (exec (cbOf tb (n + 2)) (.seq (.asg (.nm 3) (.call f__law_digit (.cons (.var 0) (.cons (.var 1) (.cons (.con (.int 9)) .nil))))) p) [.dt (scr ns), .mu 0, .dt (.tuple (nms.map nmO)), .un, .un, .un, .un] [.lst [.int s.1, .int s.2]]) := by
      intro p hp
      obtain ⟨pc, s2, h1, h2, h3⟩ := hp
      refine ⟨pc, s2, h1, h2, of_ex ?_⟩
      refine seq_ex (ρ1 := [.dt (scr ns), .mu 0, .dt (.tuple (nms.map nmO)), .dt (.int (k : Int)), .un, .un, .un]) (S1 := [.lst [.int s1.1, .int s1.2]]) ?_ ⟨_, h3, rfl⟩
      generalize nms.map nmO = z at *
      simp [d1]
    have sk : ∀ {t : Tx} {a p : VM.St}, evT (cbOf tb (n + 2)) [.dt (scr ns), .mu 0, .dt (.tuple (nms.map nmO)), .dt (.int (k : Int)), .un, .un, .un] [.lst [.int s1.1, .int s1.2]] t = .ok false [.lst [.int s1.1, .int s1.2]] → pcR (wl 0 nms) (exec (cbOf tb (n + 2)) p [.dt (scr ns), .mu 0, .dt (.tuple (nms.map nmO)), .dt (.int (k : Int)), .un, .un, .un] [.lst [.int s1.1, .int s1.2]]) → pcR (wl 0 nms) (exec (cbOf tb (n + 2)) (.seq (.ite t a .nop) p) [.dt (scr ns), .mu 0, .dt (.tuple (nms.map nmO)), .dt (.int (k : Int)), .un, .un, .un] [.lst [.int s1.1, .int s1.2]]) := by
      intro t a p ht hp
      obtain ⟨pc, s2, h1, h2, h3⟩ := hp
      refine ⟨pc, s2, h1, h2, of_ex ?_⟩
      refine seq_ex (ρ1 := [.dt (scr ns), .mu 0, .dt (.tuple (nms.map nmO)), .dt (.int (k : Int)), .un, .un, .un]) (S1 := [.lst [.int s1.1, .int s1.2]]) ?_ ⟨_, h3, rfl⟩
      rw [ite_f ht]
      simp
    have tk : ∀ {t : Tx} {a p : VM.St}, evT (cbOf tb (n + 2)) [.dt (scr ns), .mu 0, .dt (.tuple (nms.map nmO)), .dt (.int (k : Int)), .un, .un, .un] [.lst [.int s1.1, .int s1.2]] t = .ok true [.lst [.int s1.1, .int s1.2]] → pcR (wl 0 nms) (exec (cbOf tb (n + 2)) a [.dt (scr ns), .mu 0, .dt (.tuple (nms.map nmO)), .dt (.int (k : Int)), .un, .un, .un] [.lst [.int s1.1, .int s1.2]]) → pcR (wl 0 nms) (exec (cbOf tb (n + 2)) (.seq (.ite t a .nop) p) [.dt (scr ns), .mu 0, .dt (.tuple (nms.map nmO)), .dt (.int (k : Int)), .un, .un, .un] [.lst [.int s1.1, .int s1.2]]) := by
      intro t a p ht hp
      obtain ⟨pc, s2, h1, h2, h3⟩ := hp
      refine ⟨pc, s2, h1, h2, of_ex ?_⟩
      refine seq_rtx (r := .v (pcD pc)) (S1 := [.lst [.int s2.1, .int s2.2]]) ?_ rfl
      rw [ite_t ht, h3]
    unfold body__law_piece
    refine stp ?_
    by_cases c4 : k = 4 ∧ 0 < nms.length
    · obtain ⟨rfl, hp⟩ := c4
      refine tk ?_ (piece_4 h hl hp o1)
      have hp' : (0 : Int) < ((nms.map nmO).length : Int) := by omega
      generalize nms.map nmO = z at *
      simp [hp', hp, hz]
    refine sk ?_ ?_
    · rw [← hz] at c4
      generalize nms.map nmO = z at *
      by_cases k4 : k = 4
      · subst k4
        have hz0 : z = [] := List.eq_nil_of_length_eq_zero (by omega)
        simp [hz0]
      · have k4' : ¬ (k : Int) = 4 := by omega
        simp [k4']
    by_cases c5 : k = 5 ∧ 0 < nms.length
    · obtain ⟨rfl, hp⟩ := c5
      have key := piece_5 (n := n) (ns := ns) (x3 := .dt (.int ((5 : Nat) : Int))) (p := .seq (.ite (.cmp .lt (.var 3) (.con (.int 4)))
  (.ret (.idx (.lst (.cons (.tup (.cons (.con (.str "$$")) (.cons (.tup (.cons (.con (.str "text")) (.cons (.con (.str "$")) .nil))) .nil))) (.cons (.tup (.cons (.con (.str "$&")) (.cons (.tup (.cons (.con (.str "match")) .nil)) .nil))) (.cons (.tup (.cons (.con (.str "$[")) (.cons (.tup (.cons (.con (.str "before")) .nil)) .nil))) (.cons (.tup (.cons (.con (.str "$]")) (.cons (.tup (.cons (.con (.str "behind")) .nil)) .nil))) .nil))))) (.var 3)))
  .nop) pieceP) h hl hp o1 (fun x4 s3 o3 => by
        obtain ⟨pc, s4, h1, h2, h3⟩ := piece_p (n := n) (ns := ns) (L := wl 0 nms) (x2 := .dt (.tuple (nms.map nmO))) (x3 := .dt (.int ((5 : Nat) : Int))) (x4 := x4) o3
        refine ⟨pc, s4, h1, h2, of_ex ?_⟩
        refine seq_ex (ρ1 := [.dt (scr ns), .mu 0, .dt (.tuple (nms.map nmO)), .dt (.int ((5 : Nat) : Int)), x4, .un, .un]) (S1 := [.lst [.int s3.1, .int s3.2]]) ?_ ⟨_, h3, rfl⟩
        rw [ite_f (S1 := [.lst [.int s3.1, .int s3.2]]) (by simp)]
        simp)
      have hp' : (0 : Int) < ((nms.map nmO).length : Int) := by omega
      obtain ⟨pc, s4, h1, h2, h3⟩ := key
      refine ⟨pc, s4, h1, h2, ?_⟩
      rw [← h3]
      show (exec _ (.seq (.ite _ (.seq (.asg _ _) _) .nop) _) _ _) = _
      rw [ex_seq, ex_seq]
      congr 1
      rw [ite_t (S1 := [.lst [.int s1.1, .int s1.2]])]
      generalize nms.map nmO = z at *
      simp [hp', hp, hz]
    refine sk ?_ ?_
    · rw [← hz] at c5
      generalize nms.map nmO = z at *
      by_cases k5 : k = 5
      · subst k5
        have hz0 : z = [] := List.eq_nil_of_length_eq_zero (by omega)
        simp [hz0]
      · have k5' : ¬ (k : Int) = 5 := by omega
        simp [k5']
    by_cases k3 : k < 4
    · have k3' : (k : Int) < 4 := by omega
      obtain ⟨c, hc, ha⟩ := sg_at k k3
      refine tk ?_ ⟨.dol c, s1, o1, hc, ?_⟩
      · generalize nms.map nmO = z at *
        simp [k3', k3]
      · generalize nms.map nmO = z at *
        generalize pcD (.dol c) = D at *
        simp [ha, big]
    · have k3' : ¬ (k : Int) < 4 := by omega
      refine sk ?_ (piece_p o1)
      generalize nms.map nmO = z at *
      simp [k3', k3]
  obtain ⟨p, s', h1, h2, h3⟩ := fin
  refine ⟨p, s', h1, h2, ?_⟩
  rw [run__law_piece]
  refine run_ex rfl ?_
  exact ⟨_, h3, by simp [pcD]⟩

/-! ### law_k79: what is no piece -/
def WrX (L : List (List Nat × Nat)) (r : List Nat) : Prop := ∀ tail, DolX L (r ++ tail)
theorem wx_sign {L : List (List Nat × Nat)} {c : Nat} (h : c ≠ 123) (h2 : sgnT c = none) : WrX L [c] := fun tail => .sign (by simp; exact h) (fun x hx => by
  have : c = x := by simpa using hx
  rw [← this]
  exact h2)
theorem wx_word {nms : List (Option (List Nat))} {w : List Nat} (h1 : 125 ∉ w) (h2 : ∀ k, k < nms.length → w ≠ nT k) (h3 : some w ∉ nms) : WrX (wl 0 nms) (123 :: (w ++ [125])) := fun tail => by
  have := DolX.word (L := wl 0 nms) (r := tail) h1 (wl_none h2 h3)
  simpa using this
theorem nm_head {nms : List (Option (List Nat))} (h : NmOk nms) {c : Nat} {t : List Nat} (hc : ¬ hdC c) : some (c :: t) ∉ nms := fun hm => hc ((h.ch _ hm).2.2.2 c rfl)
theorem nT_head {c k : Nat} {t : List Nat} (hc : dgt c = false) : (c :: t) ≠ nT k := fun e => by
  have := nT_dig (k := k) (c := c) (by rw [← e]; exact List.mem_cons_self)
  rw [hc] at this
  cases this
theorem wx_far {nms : List (Option (List Nat))} (h : NmOk nms) (hl : nms.length ≤ 100) {b : Nat} (hb : b < 100) : WrX (wl 0 nms) (123 :: (nT (nms.length + b) ++ [125])) :=
  wx_word (nT_125 _) (fun k hk e => by
    have := nT_inj (by omega) (by omega) e
    omega) (fun hm => nm_num h hm _ rfl)
theorem wx_zero {nms : List (Option (List Nat))} (h : NmOk nms) (d : Nat) : WrX (wl 0 nms) (123 :: (48 :: nT d ++ [125])) :=
  wx_word (by simp; exact nT_125 d) (fun k hk e => by
    have hz := nT_zero k (by rw [← e]; rfl)
    subst hz
    rw [nT_0] at e
    have := congrArg List.length e
    have p := nT_pos d
    simp at this
    rw [this] at p
    simp at p) (nm_head h (by decide))
theorem wx_nil {nms : List (Option (List Nat))} (h : NmOk nms) : WrX (wl 0 nms) (123 :: ([] ++ [125])) :=
  wx_word (by simp) (fun k hk e => by
    have p := nT_pos k
    rw [← e] at p
    simp at p) (fun hm => (h.ch _ hm).1 rfl)
def qqs (nms : List (Option (List Nat))) : List (List Nat) := (nms.filter Option.isSome).map fun o => 113 :: o.getD []
theorem qqs_cons_n (nms : List (Option (List Nat))) : qqs (none :: nms) = qqs nms := rfl
theorem qqs_cons_s (w : List Nat) (nms : List (Option (List Nat))) : qqs (some w :: nms) = (113 :: w) :: qqs nms := rfl
theorem qqs_len : ∀ (nms : List (Option (List Nat))), (qqs nms).length ≤ nms.length
  | [] => by simp [qqs]
  | none :: ns => by rw [qqs_cons_n]; have := qqs_len ns; simp; omega
  | some w :: ns => by rw [qqs_cons_s]; have := qqs_len ns; simp; omega
theorem qqs_mem : ∀ (nms : List (Option (List Nat))) (w : List Nat), some w ∈ nms → w.length < (qqs nms).flatten.length
  | [], w, h => by simp at h
  | none :: ns, w, h => by
    rw [qqs_cons_n]
    exact qqs_mem ns w (by simpa using h)
  | some v :: ns, w, h => by
    rw [qqs_cons_s, List.flatten_cons, List.length_append, List.length_cons]
    rcases List.mem_cons.mp h with h | h
    · cases h; omega
    · have := qqs_mem ns w h; omega
theorem qqs_all : ∀ {nms : List (Option (List Nat))}, NmOk nms → 125 ∉ (qqs nms).flatten ∧ (qqs nms).flatten.length ≤ 5 * nms.length ∧ ∀ c, (qqs nms).flatten.head? = some c → c = 113
  | [], _ => by simp [qqs]
  | none :: ns, h => by
    obtain ⟨h1, h2, h3⟩ := qqs_all h.tail
    rw [qqs_cons_n]
    exact ⟨h1, by rw [List.length_cons]; omega, h3⟩
  | some w :: ns, h => by
    obtain ⟨h1, h2, h3⟩ := qqs_all h.tail
    have hw := h.ch w List.mem_cons_self
    rw [qqs_cons_s, List.flatten_cons]
    refine ⟨?_, by rw [List.length_append, List.length_cons, List.length_cons]; omega, fun c hc => by simpa using hc.symm⟩
    rw [List.mem_append, List.mem_cons]
    rintro ((h | h) | h)
    · cases h
    · exact (hw.2.2.1 _ h).1 rfl
    · exact h1 h
theorem wx_qq {nms : List (Option (List Nat))} (h : NmOk nms) : WrX (wl 0 nms) (123 :: (((qqs nms).flatten ++ [113, 113]) ++ [125])) := by
  obtain ⟨h1, h2, h3⟩ := qqs_all h
  have hc : ∃ t, (qqs nms).flatten ++ [113, 113] = 113 :: t := by
    cases hq : (qqs nms).flatten with
    | nil => exact ⟨_, rfl⟩
    | cons c t =>
      have := h3 c (by rw [hq]; rfl)
      subst this
      exact ⟨_, rfl⟩
  refine wx_word (by rw [List.mem_append]; rintro (h | h); exact h1 h; simp at h) (fun k hk e => ?_) (fun hm => ?_)
  · obtain ⟨t, ht⟩ := hc
    rw [ht] at e
    exact nT_head (by decide) e
  · have := qqs_mem nms _ hm
    simp at this
    omega
theorem wx_head {nms : List (Option (List Nat))} (h : NmOk nms) {c : Nat} {t : List Nat} (h1 : 125 ∉ c :: t) (h2 : dgt c = false) (h3 : ¬ hdC c) : WrX (wl 0 nms) (123 :: ((c :: t) ++ [125])) :=
  wx_word h1 (fun k hk e => nT_head h2 e) (nm_head h h3)

/-! ### texts joined -/
theorem strs_SL : ∀ (xs : List (List Nat)), strsD (xs.map fun l => .str (SL l)) = some (xs.map SL)
  | [] => rfl
  | x :: xs => by simp [strsD, strs_SL xs]
theorem join_SL : ∀ (xs : List (List Nat)), Txt.join (Str.ofString "") (xs.map SL) = SL xs.flatten := by
  intro xs
  show Builtin.Str.glued (Str.ofString "") (xs.map SL) = _
  rw [PySem.StrLaws.glued_eq_join]
  have e0 : Str.ofString "" = SL [] := rfl
  rw [e0]
  have : ∀ xs : List (List Nat), PySem.Str.join (SL []) (xs.map SL) = SL xs.flatten := by
    intro xs
    induction xs with
    | nil => rfl
    | cons x xs ih =>
      cases xs with
      | nil => show SL x = SL (x ++ []); simp
      | cons y ys =>
        show (SL x ++ SL []) ++ PySem.Str.join (SL []) ((y :: ys).map SL) = _
        rw [ih, SL_app, SL_app]
        simp
  exact this xs
theorem lens_SL (xs : List (List Nat)) : ((xs.map SL).map (·.length)).sum = xs.flatten.length := by
  rw [List.map_map, List.length_flatten]
  congr 1

/-! ### law_k79: what is no piece, drawn -/
def wrR (nms : List (Option (List Nat))) (fl : Fl) : Prop := ∃ r s', okS s' ∧ WrX (wl 0 nms) r ∧ r.length ≤ 600 ∧ fl = .rt (.v (.str (SL (36 :: r)))) [.lst [.int s'.1, .int s'.2]]
section
variable {n : Nat} {ns : List Int} {s : St2} {nms : List (Option (List Nat))} {k : Nat} {x4 x5 : En}
abbrev WR (ns : List Int) (nms : List (Option (List Nat))) (k : Nat) (x4 x5 : En) : Rho := [.dt (scr ns), .mu 0, .dt (.tuple (nms.map nmO)), .dt (.int (k : Int)), x4, x5]
theorem wr_skip {j : Int} {a p : VM.St} (h : ¬ (k : Int) = j) (hp : wrR nms (exec (cbOf tb (n + 2)) p (WR ns nms k x4 x5) [.lst [.int s.1, .int s.2]])) : wrR nms (exec (cbOf tb (n + 2)) (.seq (.ite (.cmp .eq (.var 3) (.con (.int j))) a .nop) p) (WR ns nms k x4 x5) [.lst [.int s.1, .int s.2]]) := by
  obtain ⟨r, s2, h1, h2, h3, h4⟩ := hp
  refine ⟨r, s2, h1, h2, h3, of_ex ?_⟩
  refine seq_ex (ρ1 := WR ns nms k x4 x5) (S1 := [.lst [.int s.1, .int s.2]]) ?_ ⟨_, h4, rfl⟩
  unfold WR
  generalize nms.map nmO = z at *
  rw [ite_f (S1 := [.lst [.int s.1, .int s.2]]) (by simp [h])]
  simp
theorem wr_take {j : Int} {a p : VM.St} (h : (k : Int) = j) (hp : wrR nms (exec (cbOf tb (n + 2)) a (WR ns nms k x4 x5) [.lst [.int s.1, .int s.2]])) : wrR nms (exec (cbOf tb (n + 2)) (.seq (.ite (.cmp .eq (.var 3) (.con (.int j))) a .nop) p) (WR ns nms k x4 x5) [.lst [.int s.1, .int s.2]]) := by
  obtain ⟨r, s2, h1, h2, h3, h4⟩ := hp
  refine ⟨r, s2, h1, h2, h3, of_ex ?_⟩
  refine seq_rtx (r := .v (.str (SL (36 :: r)))) (S1 := [.lst [.int s2.1, .int s2.2]]) ?_ rfl
  rw [← h4]
  unfold WR
  generalize nms.map nmO = z at *
  rw [ite_t (S1 := [.lst [.int s.1, .int s.2]]) (by simp [h])]
theorem wr_con {x : Str} {r : List Nat} (ho : okS s) (hx : x = SL (36 :: r)) (hr : WrX (wl 0 nms) r) (hl : r.length ≤ 600) : wrR nms (exec (cbOf tb (n + 2)) (.ret (.con (.str x))) (WR ns nms k x4 x5) [.lst [.int s.1, .int s.2]]) := by
  subst hx
  refine ⟨r, s, ho, hr, hl, ?_⟩
  simp
theorem w0_at : ∀ b : Nat, b < 6 → ∃ c, c ≠ 123 ∧ sgnT c = none ∧ atI [PyData.str "$a", .str "$ ", .str "$1", .str "$}", .str "$\n", .str "$~"] (b : Int) = some (.str (SL [36, c])) := by
  intro b hb
  have e0 : Str.ofString "$a" = SL [36, 97] := by decide
  have e1 : Str.ofString "$ " = SL [36, 32] := by decide
  have e2 : Str.ofString "$1" = SL [36, 49] := by decide
  have e3 : Str.ofString "$}" = SL [36, 125] := by decide
  have e4 : Str.ofString "$\n" = SL [36, 10] := by decide
  have e5 : Str.ofString "$~" = SL [36, 126] := by decide
  rw [e0, e1, e2, e3, e4, e5]
  match b, hb with
  | 0, _ => exact ⟨97, by decide, rfl, rfl⟩
  | 1, _ => exact ⟨32, by decide, rfl, rfl⟩
  | 2, _ => exact ⟨49, by decide, rfl, rfl⟩
  | 3, _ => exact ⟨125, by decide, rfl, rfl⟩
  | 4, _ => exact ⟨10, by decide, rfl, rfl⟩
  | 5, _ => exact ⟨126, by decide, rfl, rfl⟩
theorem wr_0 (ho : okS s) : wrR nms (exec (cbOf tb (n + 2)) (.ret (.idx (.lst (.cons (.con (.str "$a")) (.cons (.con (.str "$ ")) (.cons (.con (.str "$1")) (.cons (.con (.str "$}")) (.cons (.con (.str "$\n")) (.cons (.con (.str "$~")) .nil))))))) (.call f__law_digit (.cons (.var 0) (.cons (.var 1) (.cons (.con (.int 6)) .nil)))))) (WR ns nms k x4 x5) [.lst [.int s.1, .int s.2]]) := by
  obtain ⟨b, s1, hb, o1, d1⟩ := drwX (ns := ns) (xs := []) 6 ho (by omega) (by omega)
  replace d1 := d1 n
  simp at d1
  obtain ⟨c, c1, c2, ha⟩ := w0_at b hb
  refine ⟨[c], s1, o1, wx_sign c1 c2, by simp, ?_⟩
  unfold WR
  generalize nms.map nmO = z at *
  simp [d1, ha, big]
theorem wr_1 (h : NmOk nms) (hl : nms.length ≤ 100) {b : Nat} (hb : b < 100) (ho : okS s) : wrR nms (exec (cbOf tb (n + 2)) (.ret (.bin .add (.bin .add (.con (.str "${")) (.var 4)) (.con (.str "}")))) (WR ns nms k (.dt (.str (SL (nT (nms.length + b))))) x5) [.lst [.int s.1, .int s.2]]) := by
  have hlen := nT_len (k := nms.length + b) (by omega)
  refine ⟨_, s, ho, wx_far h hl hb, by simp; omega, ?_⟩
  have ea : Str.ofString "${" = SL [36, 123] := by decide
  have eb : Str.ofString "}" = SL [125] := by decide
  unfold WR
  generalize nms.map nmO = z at *
  generalize nT (nms.length + b) = t at *
  have l1 : 2 + t.length ≤ 16777216 := by omega
  have l2 : 2 + t.length + 1 ≤ 16777216 := by omega
  have l3 : t.length + 2 ≤ 16777216 := by omega
  have l4 : t.length + 1 + 1 + 1 ≤ 16777216 := by omega
  simp [ea, eb, SL_app, sizeLine, l1, l2, l3, l4]
theorem wr_2 (h : NmOk nms) (ho : okS s) : wrR nms (exec (cbOf tb (n + 2)) (.ret (.bin .add (.bin .add (.con (.str "${0")) (.bi .str (.cons (.call f__law_digit (.cons (.var 0) (.cons (.var 1) (.cons (.con (.int 5)) .nil)))) .nil))) (.con (.str "}")))) (WR ns nms k x4 x5) [.lst [.int s.1, .int s.2]]) := by
  obtain ⟨b, s1, hb, o1, d1⟩ := drwX (ns := ns) (xs := []) 5 ho (by omega) (by omega)
  replace d1 := d1 n
  simp at d1
  have hlen := nT_len (k := b) (by omega)
  refine ⟨_, s1, o1, wx_zero h b, by simp; omega, ?_⟩
  have ea : Str.ofString "${0" = SL [36, 123, 48] := by decide
  have eb : Str.ofString "}" = SL [125] := by decide
  have hs := nT_str b
  have hlg : b.log2 < 1920 := log2_small (by omega)
  unfold WR
  generalize nms.map nmO = z at *
  generalize nT b = t at *
  have l1 : 3 + t.length ≤ 16777216 := by omega
  have l2 : 3 + t.length + 1 ≤ 16777216 := by omega
  have l3 : t.length + 3 ≤ 16777216 := by omega
  have l4 : t.length + 1 + 1 + 1 + 1 ≤ 16777216 := by omega
  simp [d1, hs, hlg, ea, eb, SL_app, sizeLine, l1, l2, l3, l4]
theorem wr_4 (h : NmOk nms) (hl : nms.length ≤ 100) (ho : okS s) : wrR nms (exec (cbOf tb (n + 2)) (.ret (.bin .add (.bin .add (.con (.str "${")) (.bm .join (.con (.str "")) (.cons (.lc [5] (.nm 5) (.sq (.var 2)) (.some T__law_wrong_0) E__law_wrong_0) .nil))) (.con (.str "qq}")))) (WR ns nms k x4 .un) [.lst [.int s.1, .int s.2]]) := by
  have lc := lcF_filt (t := lcT (cbOf tb (n + 2)) (.some T__law_wrong_0)) (f := lcE (cbOf tb (n + 2)) E__law_wrong_0) (b := bindE (.nm 5)) (ch := none) (n0 := 1) (ρ := WR ns nms k x4 .un) (S := [.lst [.int s.1, .int s.2]]) (fun o : Option (List Nat) => .dt (nmO o)) Option.isSome (fun o => .str (SL (113 :: o.getD []))) trivial (by simp) nms [] (by simp [big]; omega) (by
    intro o ho
    refine ⟨[.dt (scr ns), .mu 0, .dt (.tuple (nms.map nmO)), .dt (.int (k : Int)), x4, .dt (nmO o)], rfl, ?_, fun hs => ?_⟩
    · cases o <;> simp [nmO]
    · cases o with
      | none => simp at hs
      | some w =>
        have hw := (h.ch w ho).2.1
        have eq : Str.ofString "q" = SL [113] := by decide
        have l1 : 1 + w.length ≤ 16777216 := by omega
        have l2 : w.length + 1 ≤ 16777216 := by omega
        exact ⟨_, by simp [nmO, eq, SL_app, sizeLine, l1, l2]; rfl, rfl⟩)
  have e1 : ((nms.filter Option.isSome).map fun o => PyData.str (SL (113 :: o.getD []))) = (qqs nms).map fun l => .str (SL l) := by unfold qqs; rw [List.map_map]; rfl
  rw [e1, List.nil_append] at lc
  have e2 : nms.map (fun o => En.dt (nmO o)) = (nms.map nmO).map .dt := by rw [List.map_map]; rfl
  rw [e2] at lc
  obtain ⟨q1, q2, q3⟩ := qqs_all h
  have q4 := qqs_len nms
  refine ⟨_, s, ho, wx_qq h, by rw [List.length_cons, List.length_append, List.length_append, List.length_cons, List.length_cons, List.length_cons, List.length_nil]; omega, ?_⟩
  have hj := join_SL (qqs nms)
  have hst := strs_SL (qqs nms)
  have hln := lens_SL (qqs nms)
  have e0 : (Str.ofString "").length = 0 := rfl
  have ea : Str.ofString "${" = SL [36, 123] := by decide
  have eb : Str.ofString "qq}" = SL [113, 113, 125] := by decide
  have c4 : (nms.map nmO).length ≤ 16000000 := by rw [List.length_map]; omega
  have c5 : ((qqs nms).map fun l => PyData.str (SL l)).length = (qqs nms).length := List.length_map ..
  have c6 : (qqs nms).length ≤ 16000000 := by omega
  unfold WR at *
  generalize nms.map nmO = z at *
  generalize ((qqs nms).map fun l => PyData.str (SL l)) = zs at *
  generalize (qqs nms).map SL = ws at *
  generalize (qqs nms).flatten = t at *
  have l0 : t.length ≤ 16777216 := by omega
  have l1 : 2 + t.length ≤ 16777216 := by omega
  have l2 : 2 + t.length + 3 ≤ 16777216 := by omega
  have l3 : t.length + 2 ≤ 16777216 := by omega
  have l4 : t.length + 1 + 1 + 3 ≤ 16777216 := by omega
  have hw : wipeR [.dt (scr ns), .mu 0, .dt (.tuple z), .dt (.int (k : Int)), x4, .un] [5] = [.dt (scr ns), .mu 0, .dt (.tuple z), .dt (.int (k : Int)), x4, .un] := rfl
  simp [hw, lc, hst, hln, hj, e0, ea, eb, c4, c5, c6, SL_app, sizeLine, big, l0, l1, l2, l3, l4]
theorem ok_wrong (h : NmOk nms) (hl : nms.length ≤ 100) (ho : okS s) : ∃ (r : List Nat) (s' : St2), okS s' ∧ WrX (wl 0 nms) r ∧ r.length ≤ 600 ∧ run tb (n + 3) f__law_wrong [.dt (scr ns), .mu 0, .dt (.tuple (nms.map nmO))] [.lst [.int s.1, .int s.2]] = .ok (.v (.str (SL (36 :: r)))) [.lst [.int s'.1, .int s'.2]] := by
  obtain ⟨k, s1, hk, o1, d1⟩ := drwX (ns := ns) (xs := []) 8 ho (by omega) (by omega)
  replace d1 := d1 n
  simp at d1
  obtain ⟨b, s2, hb, o2, d2⟩ := drwX (ns := ns) (xs := []) 100 o1 (by omega) (by omega)
  replace d2 := d2 n
  simp at d2
  have fin : wrR nms (exec (cbOf tb (n + 2)) body__law_wrong [.dt (scr ns), .mu 0, .dt (.tuple (nms.map nmO)), .un, .un, .un] [.lst [.int s.1, .int s.2]]) := by
    have stp : ∀ {p : VM.St}, wrR nms (exec (cbOf tb (n + 2)) p (WR ns nms k (.dt (.str (SL (nT (nms.length + b))))) .un) [.lst [.int s2.1, .int s2.2]]) → wrR nms (exec (cbOf tb (n + 2)) (.seq (.asg (.nm 3) (.call f__law_digit (.cons (.var 0) (.cons (.var 1) (.cons (.con (.int 8)) .nil))))) (.seq (.asg (.nm 4) (.bi .str (.cons (.bin .add (.bi .len (.cons (.var 2) .nil)) (.call f__law_digit (.cons (.var 0) (.cons (.var 1) (.cons (.con (.int 100)) .nil))))) .nil))) p)) [.dt (scr ns), .mu 0, .dt (.tuple (nms.map nmO)), .un, .un, .un] [.lst [.int s.1, .int s.2]]) := by
      intro p hp
      obtain ⟨r, s3, h1, h2, h3, h4⟩ := hp
      refine ⟨r, s3, h1, h2, h3, of_ex ?_⟩
      have hs := nT_str (nms.length + b)
      have hlg : (nms.length + b).log2 < 1920 := log2_small (by omega)
      have hz : (nms.map nmO).length = nms.length := List.length_map ..
      unfold WR at *
      obtain ⟨t, ht⟩ : ∃ t, t = nT (nms.length + b) := ⟨_, rfl⟩
      rw [← ht] at h4 hs
      clear ht
      refine seq_ex (ρ1 := [.dt (scr ns), .mu 0, .dt (.tuple (nms.map nmO)), .dt (.int (k : Int)), .un, .un]) (S1 := [.lst [.int s1.1, .int s1.2]]) ?_ ?_
      · generalize nms.map nmO = z at *
        simp [d1]
      · refine seq_ex (ρ1 := [.dt (scr ns), .mu 0, .dt (.tuple (nms.map nmO)), .dt (.int (k : Int)), .dt (.str (SL t)), .un]) (S1 := [.lst [.int s2.1, .int s2.2]]) ?_ ⟨_, h4, rfl⟩
        generalize nms.map nmO = z at *
        have hI : ((nms.length + b : Nat) : Int) = (z.length : Int) + (b : Int) := by omega
        have hlg2 : ((z.length : Int) + (b : Int)).natAbs.log2 < 1920 := by rw [← hI]; exact hlg
        rw [hI] at hs
        simp [d2, hs, hlg2]
    unfold body__law_wrong
    refine stp ?_
    have ho := o2
    match k, hk with
    | 0, _ => exact wr_take (by rfl) (wr_0 o2)
    | 1, _ => exact wr_skip (by decide) (wr_take (by rfl) (wr_1 h hl hb o2))
    | 2, _ => exact wr_skip (by decide) (wr_skip (by decide) (wr_take (by rfl) (wr_2 h o2)))
    | 3, _ => exact wr_skip (by decide) (wr_skip (by decide) (wr_skip (by decide) (wr_take (by rfl) (wr_con o2 (by decide) (wx_nil h) (by simp)))))
    | 4, _ => exact wr_skip (by decide) (wr_skip (by decide) (wr_skip (by decide) (wr_skip (by decide) (wr_take (by rfl) (wr_4 h hl o2)))))
    | 5, _ => exact wr_skip (by decide) (wr_skip (by decide) (wr_skip (by decide) (wr_skip (by decide) (wr_skip (by decide) (wr_take (by rfl) (wr_con o2 (by decide) (wx_head h (c := 32) (t := [48]) (by decide) (by decide) (by decide)) (by simp)))))))
    | 6, _ => exact wr_skip (by decide) (wr_skip (by decide) (wr_skip (by decide) (wr_skip (by decide) (wr_skip (by decide) (wr_skip (by decide) (wr_take (by rfl) (wr_con o2 (by decide) (wx_head h (c := 45) (t := [49]) (by decide) (by decide) (by decide)) (by simp))))))))
    | 7, _ => exact wr_skip (by decide) (wr_skip (by decide) (wr_skip (by decide) (wr_skip (by decide) (wr_skip (by decide) (wr_skip (by decide) (wr_skip (by decide) (wr_con o2 (by decide) (wx_head h (c := 36) (t := [38]) (by decide) (by decide) (by decide)) (by simp))))))))
  obtain ⟨r, s', h1, h2, h3, h4⟩ := fin
  refine ⟨r, s', h1, h2, h3, ?_⟩
  rw [run__law_wrong]
  refine run_ex rfl ?_
  exact ⟨_, h4, by simp⟩
end

/-! ### law_k79: parts joined by the law, and the column of what is refused -/
theorem lw_join {cb : CB} {x0 : En} {J : List Pa} {m : Nat} {p : Pa} (hJ : JOk J m) (hp : paOk p) (hm : m + paN p + 1 ≤ 10000) :
    exec cb L__law_joined_0 [x0, .mu 0, .dt (paD p)] [.lst (J.map paD)] = .nx [x0, .mu 0, .dt (paD p)] [.lst ((jst J p).map paD)] := by
  obtain ⟨hJ1, hJ2, hJ3⟩ := hJ
  have a1 : ∀ a b : PyData, atI [a, b] 1 = some b := fun _ _ => rfl
  have hlen : (J.map paD).length < 16000000 := by rw [List.length_map]; omega
  by_cases hw : ∃ w, p = .tx w
  · obtain ⟨w, rfl⟩ := hw
    have hwl : w.length ≤ 10000 := hp
    rcases List.eq_nil_or_concat J with rfl | ⟨I, q, rfl⟩
    · rw [jst_emp]
      show exec cb _ [x0, .mu 0, .dt (.tuple [.str "text", .str (SL w)])] [.lst []] = _
      rw [ite_f (S1 := [.lst []]) (by simp [at_h])]
      simp [big, paD]
    · rw [List.concat_eq_append] at *
      rw [List.map_append] at hlen
      have hl := atLast (I.map paD) (paD q)
      have hix : ixN ((I.map paD).length + 1) (-1) = some (I.map paD).length := by
        unfold ixN
        simp
        omega
      have hlen2 : (I.map paD).length + 1 < 16000000 := by simpa using hlen
      clear hlen
      rw [List.map_append]
      show exec cb _ [x0, .mu 0, .dt (.tuple [.str "text", .str (SL w)])] [.lst (I.map paD ++ [paD q])] = _
      have hpos : (0 : Int) < ((I.map paD ++ [paD q]).length : Int) := by rw [List.length_append, List.length_cons]; omega
      have hpos2 : 0 < (I.map paD ++ [paD q]).length := by rw [List.length_append, List.length_cons]; omega
      by_cases hq : ∃ v, q = .tx v
      · obtain ⟨v, rfl⟩ := hq
        rw [jst_tt]
        have hv : v.length ≤ m := by
          simp [paN] at hJ2
          omega
        have hvw : v.length + w.length ≤ 16777216 := by omega
        have hset : (I.map paD ++ [paD (.tx v)]).set (I.map paD).length (.tuple [.str "text", .str (SL (v ++ w))]) = (I ++ [Pa.tx (v ++ w)]).map paD := by
          rw [List.set_append_right _ _ (Nat.le_refl _)]
          simp [paD]
        have hD : paD (.tx v) = .tuple [.str "text", .str (SL v)] := rfl
        have hD2 : paD (.tx w) = .tuple [.str "text", .str (SL w)] := rfl
        rw [← hset]
        rw [hD] at hl hpos hpos2 ⊢
        rw [hD2]
        generalize I.map paD = X at *
        rw [ite_t (S1 := [.lst (X ++ [.tuple [.str "text", .str (SL v)]])]) (by simp [at_h, hl]; try omega)]
        simp [at_h, a1, hl, hix, hvw, SL_app, sizeLine, big]
      · have hqn : ∀ v, q ≠ .tx v := fun v h => hq ⟨v, h⟩
        obtain ⟨s, l, e, hs⟩ := pa_kind (hJ1 q (by simp)) hqn
        rw [jst_tn hqn]
        have hmap : (I ++ [q] ++ [Pa.tx w]).map paD = I.map paD ++ [paD q] ++ [.tuple [.str "text", .str (SL w)]] := by simp [paD]
        have hD2 : paD (.tx w) = .tuple [.str "text", .str (SL w)] := rfl
        rw [hmap, hD2]
        rw [e] at hl hpos hpos2 ⊢
        generalize I.map paD = X at *
        rw [ite_f (S1 := [.lst (X ++ [.tuple (.str s :: l)])]) (by simp [at_h, hl, hs])]
        simp [big, hlen2]
  · have hpn : ∀ w, p ≠ .tx w := fun w h => hw ⟨w, h⟩
    obtain ⟨s, l, e, hs⟩ := pa_kind hp hpn
    rw [jst_nt hpn]
    rw [List.map_append, List.map_cons, List.map_nil, e]
    generalize J.map paD = X at *
    rw [ite_f (S1 := [.lst X]) (by simp [at_h, hs])]
    simp [big, hlen]
theorem jall_app : ∀ (a b : List Pc) (J : List Pa), jall J (a ++ b) = jall (jall J a) b
  | [], _, _ => rfl
  | p :: a, b, J => by rw [List.cons_append, jall, jall, jall_app a b]
theorem ok_joined {n : Nat} {ps : List Pc} (hps : ps.length ≤ 1000) : run tb (n + 1) f__law_joined [.dt (.list (ps.map fun p => paD (pcA p)))] [] = .ok (.nw (.lst ((jall [] ps).map paD))) [] := by
  rw [run__law_joined]
  refine run_ex rfl ?_
  show ∃ fl, exec (cbOf tb n) body__law_joined [.dt (.list (ps.map fun p => paD (pcA p))), .un, .un] _ = fl ∧ _
  unfold body__law_joined
  refine seq_ex (ρ1 := [.dt (.list (ps.map fun p => paD (pcA p))), .mu 0, .un]) (S1 := [.lst []]) (by simp [big]) ?_
  obtain ⟨ρ', S', lp, rfl, rfl⟩ := loopF_inv (f := forB (cbOf tb n) (.nm 2) L__law_joined_0) (ch := none) (ks := [2]) (n0 := 1) (fun i ρ S => ρ = [.dt (.list (ps.map fun p => paD (pcA p))), .mu 0, .un] ∧ S = [.lst ((jall [] (ps.take i)).map paD)]) ((ps.map fun p => paD (pcA p)).map .dt) 0 [.dt (.list (ps.map fun p => paD (pcA p))), .mu 0, .un] [.lst []] ⟨rfl, rfl⟩ (by
    intro i e ρ S he hh
    simp only [Nat.zero_add] at hh ⊢
    obtain ⟨rfl, rfl⟩ := hh
    rw [List.map_map, List.getElem?_map] at he
    cases hp : ps[i]? with
    | none => rw [hp] at he; simp at he
    | some p =>
      rw [hp] at he
      simp at he
      subst he
      have hi : i < ps.length := (List.getElem?_eq_some_iff.mp hp).1
      obtain ⟨h1, h2⟩ := pa_ok p
      have hj := jall_ok (ps.take i) [] 0 jok_nil (by rw [List.length_take]; omega)
      have hti : (ps.take i).length ≤ 1000 := by rw [List.length_take]; omega
      have st := lw_join (cb := cbOf tb n) (x0 := .dt (.list (ps.map fun p => paD (pcA p)))) hj h1 (by omega)
      refine ⟨_, _, .inl st, trivial, ?_, ?_⟩
      · rfl
      · rw [trimL (by simp), take_succ1 hp, jall_app]
        rfl)
  rw [Nat.zero_add, List.length_map, List.length_map, List.take_length] at lp
  refine seq_ex (ρ1 := [.dt (.list (ps.map fun p => paD (pcA p))), .mu 0, .un]) (S1 := [.lst ((jall [] ps).map paD)]) ?_ ?_
  · generalize (jall [] ps).map paD = X at *
    generalize (ps.map fun p => paD (pcA p)) = Y at *
    rw [ex_for]
    simp [lp]
  · generalize (jall [] ps).map paD = X at *
    generalize (ps.map fun p => paD (pcA p)) = Y at *
    exact ⟨.rt (.mu 0) [.lst X], by simp, by simp⟩
theorem ok_column {n : Nat} {nms : List (Option (List Nat))} {ps : List Pc} {r : List Nat} (h : NmOk nms) (hl : nms.length ≤ 100) (hp : ∀ p ∈ ps, pcOk (wl 0 nms) p) (hps : ps.length ≤ 1000) (hx : DolX (wl 0 nms) r) (hlen : (pcsW ps ++ 36 :: r).length ≤ 100000) :
    run tb (n + 5) f__law_column [.dt (.str (SL (pcsW ps ++ 36 :: r))), .dt (.tuple (nms.map nmO))] [] = .ok (.v (.int (((pcsW ps).length + 1 : Nat) : Int))) [] := by
  have hr := ok_templX (n := n) h hl hp hps hx hlen
  rw [run__law_column]
  refine run_ex rfl ?_
  show ∃ fl, exec (cbOf tb (n + 4)) body__law_column [.dt (.str (SL (pcsW ps ++ 36 :: r))), .dt (.tuple (nms.map nmO)), .un] _ = fl ∧ _
  unfold body__law_column
  unfold tmF at hr
  generalize (((pcsW ps).length + 1 : Nat) : Int) = col at *
  generalize pcsW ps ++ 36 :: r = l at *
  generalize nms.map nmO = z at *
  exact seq_rtx (r := .v (.int col)) (S1 := []) (by
    simp [hr]
    ) (by simp)

/-! ### law_k79: pieces, drawn and joined -/
theorem NmOk.rep {nms : List (Option (List Nat))} (h : NmOk nms) : ∀ k : Nat, NmOk (nms ++ List.replicate k Option.none)
  | 0 => by simpa using h
  | k + 1 => by
    rw [List.replicate_succ', ← List.append_assoc]
    exact (NmOk.rep h k).none
theorem rep_of {α : Type} {a : α} : ∀ {l : List α}, (∀ d ∈ l, d = a) → l = List.replicate l.length a
  | [], _ => rfl
  | d :: l, h => by
    rw [List.length_cons, List.replicate_succ, ← rep_of fun e he => h e (List.mem_cons_of_mem _ he), h d List.mem_cons_self]
theorem pcs_of {L : List (List Nat × Nat)} : ∀ ds : List PyData, (∀ d ∈ ds, ∃ p, pcOk L p ∧ d = pcD p) → ∃ ps : List Pc, ps.length = ds.length ∧ (∀ p ∈ ps, pcOk L p) ∧ ds = ps.map pcD
  | [], _ => ⟨[], rfl, nofun, rfl⟩
  | d :: ds, h => by
    obtain ⟨p, hp, rfl⟩ := h d List.mem_cons_self
    obtain ⟨ps, h1, h2, h3⟩ := pcs_of ds fun e he => h e (List.mem_cons_of_mem _ he)
    refine ⟨p :: ps, by simp [h1], fun q hq => ?_, by rw [h3]; rfl⟩
    rcases List.mem_cons.mp hq with rfl | hq
    · exact hp
    · exact h2 q hq
theorem pcW_len {L : List (List Nat × Nat)} {p : Pc} (h : pcOk L p) : (pcW p).length ≤ 60 := by
  cases p with
  | ch c => simp [pcW]
  | dol c => simp [pcW]
  | grp w k =>
    have := h.2.2
    simp [pcW]
    omega
theorem pcsW_len {L : List (List Nat × Nat)} : ∀ {ps : List Pc}, (∀ p ∈ ps, pcOk L p) → (pcsW ps).length ≤ 60 * ps.length
  | [], _ => by simp [pcsW]
  | p :: ps, h => by
    have h1 := pcW_len (h p List.mem_cons_self)
    have h2 := pcsW_len fun q hq => h q (List.mem_cons_of_mem _ hq)
    rw [pcsW_cons, List.length_append, List.length_cons]
    omega
section
variable {cb : CB} {ρ : Rho} {S : Stv} {e : Ex} {r : Rv} {ps : List Pc}
theorem lc_pcs0 (hl : 11 < ρ.length) (hps : ps.length ≤ 1000) : lcF (lcT cb .none) (lcE cb (.idx (.var 11) (.con (.int 0)))) (bindE (.nm 11)) none S.length ρ ((ps.map pcD).map .dt) [] S = .ok ((ps.map pcW).map fun l => .str (SL l)) S := by
  have lc := lcF_filt (t := lcT cb .none) (f := lcE cb (.idx (.var 11) (.con (.int 0)))) (b := bindE (.nm 11)) (ch := none) (n0 := S.length) (ρ := ρ) (S := S) (fun p : Pc => .dt (pcD p)) (fun _ => true) (fun p => .str (SL (pcW p))) trivial (Nat.le_refl _) ps [] (by simp [big]; omega) (fun p hp => ⟨ρ.set 11 (.dt (pcD p)), rfl, rfl, fun _ => ⟨_, by simp [pcD, at_h, hl]; rfl, rfl⟩⟩)
  have e1 : ps.map (fun p => En.dt (pcD p)) = (ps.map pcD).map .dt := by rw [List.map_map]; rfl
  rw [e1] at lc
  have ef : ps.filter (fun _ => true) = ps := List.filter_eq_self.mpr fun _ _ => rfl
  rw [lc, List.nil_append, List.map_map, ef]
  rfl
theorem lc_pcs1 (hl : 11 < ρ.length) (hps : ps.length ≤ 1000) : lcF (lcT cb .none) (lcE cb (.idx (.var 11) (.con (.int 1)))) (bindE (.nm 11)) none S.length ρ ((ps.map pcD).map .dt) [] S = .ok (ps.map fun p => paD (pcA p)) S := by
  have a1 : ∀ a b : PyData, atI [a, b] 1 = some b := fun _ _ => rfl
  have lc := lcF_filt (t := lcT cb .none) (f := lcE cb (.idx (.var 11) (.con (.int 1)))) (b := bindE (.nm 11)) (ch := none) (n0 := S.length) (ρ := ρ) (S := S) (fun p : Pc => .dt (pcD p)) (fun _ => true) (fun p => paD (pcA p)) trivial (Nat.le_refl _) ps [] (by simp [big]; omega) (fun p hp => ⟨ρ.set 11 (.dt (pcD p)), rfl, rfl, fun _ => ⟨_, by simp [pcD, a1, hl]; rfl, rfl⟩⟩)
  have e1 : ps.map (fun p => En.dt (pcD p)) = (ps.map pcD).map .dt := by rw [List.map_map]; rfl
  rw [e1] at lc
  have ef : ps.filter (fun _ => true) = ps := List.filter_eq_self.mpr fun _ _ => rfl
  rw [lc, List.nil_append, ef]
theorem ev_pcs0 (h : evE cb ρ S e = .ok r S) (hi : itemsO r S = .ok ((ps.map pcD).map .dt, none) S) (hw : wipeR ρ [11] = ρ) (hl : 11 < ρ.length) (hps : ps.length ≤ 1000) (hf : (pcsW ps).length ≤ 100000) :
    evE cb ρ S (.bm .join (.con (.str "")) (.cons (.lc [11] (.nm 11) (.sq e) .none (.idx (.var 11) (.con (.int 0)))) .nil)) = .ok (.v (.str (SL (pcsW ps)))) S := by
  have lc := lc_pcs0 (cb := cb) (S := S) hl hps
  have hj := join_SL (ps.map pcW)
  have hst := strs_SL (ps.map pcW)
  have hln := lens_SL (ps.map pcW)
  have hfl : (ps.map pcW).flatten = pcsW ps := by unfold pcsW; rw [List.flatMap_def]
  rw [hfl] at hj hln
  have e0 : (Str.ofString "").length = 0 := rfl
  have c4 : (ps.map pcD).length ≤ 16000000 := by rw [List.length_map]; omega
  have c5 : ((ps.map pcW).map fun l => PyData.str (SL l)).length ≤ 16000000 := by rw [List.length_map, List.length_map]; omega
  have c6 : (ps.map pcW).length ≤ 16000000 := by rw [List.length_map]; omega
  have b1 : (pcsW ps).length ≤ 16777216 := by omega
  have c7 : ((ps.map pcD).map En.dt).length ≤ 16000000 := by rw [List.length_map]; exact c4
  have c8 : ps.length ≤ 16000000 := by omega
  generalize (ps.map pcD).map En.dt = its at *
  generalize ((ps.map pcW).map fun l => PyData.str (SL l)) = zs at *
  generalize (ps.map pcW).map SL = ws at *
  generalize ps.map pcW = us at *
  simp [-itemsO, h, hi, hw, lc, hst, hln, hj, e0, b1, c5, c7, c8, c6, big, sizeLine]
theorem ev_pcs1 (h : evE cb ρ S e = .ok r S) (hi : itemsO r S = .ok ((ps.map pcD).map .dt, none) S) (hw : wipeR ρ [11] = ρ) (hl : 11 < ρ.length) (hps : ps.length ≤ 1000) :
    evE cb ρ S (.lc [11] (.nm 11) (.sq e) .none (.idx (.var 11) (.con (.int 1)))) = .ok (.nw (.lst (ps.map fun p => paD (pcA p)))) S := by
  have lc := lc_pcs1 (cb := cb) (S := S) hl hps
  have c7 : ((ps.map pcD).map En.dt).length ≤ 16000000 := by rw [List.length_map, List.length_map]; omega
  have c5 : (ps.map fun p => paD (pcA p)).length ≤ 16000000 := by rw [List.length_map]; omega
  generalize (ps.map pcD).map En.dt = its at *
  generalize (ps.map fun p => paD (pcA p)) = zs at *
  simp [-itemsO, h, hi, hw, lc, c5, c7, big]
end
theorem j_dok {J : List Pa} {m : Nat} (h : JOk J m) (hm : m ≤ 10000) (n : Nat) : dOk (n + 3) (.list (J.map paD)) := by
  obtain ⟨h1, h2, h3⟩ := h
  refine ⟨by rw [List.length_map]; omega, fun d hd => ?_⟩
  obtain ⟨p, hp, rfl⟩ := List.mem_map.mp hd
  have hq := h1 p hp
  have tt : (Str.ofString "text").length ≤ 100000 := by decide
  have tg : (Str.ofString "group").length ≤ 100000 := by decide
  cases p with
  | tx w =>
    refine ⟨by simp, fun d hd => ?_⟩
    have hw : w.length ≤ 10000 := hq
    rcases List.mem_cons.mp hd with rfl | hd
    · exact tt
    · rcases List.mem_cons.mp hd with rfl | hd
      · show (SL w).length ≤ 100000
        rw [SL_len]
        omega
      · simp at hd
  | mk s =>
    refine ⟨by simp, fun d hd => ?_⟩
    have hw := hq.2
    rcases List.mem_cons.mp hd with rfl | hd
    · show s.length ≤ 100000
      omega
    · simp at hd
  | gp k =>
    refine ⟨by simp, fun d hd => ?_⟩
    rcases List.mem_cons.mp hd with rfl | hd
    · exact tg
    · rcases List.mem_cons.mp hd with rfl | hd
      · exact trivial
      · simp at hd

/-! ### law_k79 -/
abbrev L9 (ns : List Int) (nms : List (Option (List Nat))) (x3 x4 x5 x6 x7 x8 x9 : En) : Rho := [.dt (scr ns), .mu 0, .dt (.tuple (nms.map nmO)), x3, x4, x5, x6, x7, x8, x9, .un, .un, .un]
theorem k79_more {ns : List Int} {nms : List (Option (List Nat))} {s : St2} (ho : okS s) (h : NmOk nms) (hl : nms.length ≤ 5) : ∃ (nms2 : List (Option (List Nat))) (s' : St2), okS s' ∧ NmOk nms2 ∧ nms2.length ≤ 40 ∧
    exec (cbOf tb 39) (.ite (.cmp .eq (.call f__law_digit (.cons (.var 0) (.cons (.var 1) (.cons (.con (.int 6)) .nil)))) (.con (.int 0)))
  (.asg (.nm 2) (.bin .add (.var 2) (.bi .tuple (.cons (.lc [10] (.nm 10) (.rg1 (.bin .add (.con (.int 9)) (.call f__law_digit (.cons (.var 0) (.cons (.var 1) (.cons (.con (.int 20)) .nil)))))) .none E_law_0) .nil))))
  .nop) (L9 ns nms .un .un .un .un .un .un .un) [.lst [.int s.1, .int s.2]] = .nx (L9 ns nms2 .un .un .un .un .un .un .un) [.lst [.int s'.1, .int s'.2]] := by
  obtain ⟨a, s1, ha, o1, d1⟩ := drwX (ns := ns) (xs := []) 6 ho (by omega) (by omega)
  replace d1 := d1 37
  simp at d1
  by_cases h0 : a = 0
  · subst h0
    obtain ⟨b, s2, hb, o2, d2⟩ := drwX (ns := ns) (xs := []) 20 o1 (by omega) (by omega)
    replace d2 := d2 37
    simp at d2
    obtain ⟨k, hk⟩ : ∃ k, k = 9 + b := ⟨_, rfl⟩
    have hk2 : (9 : Int) + (b : Int) = (k : Int) := by omega
    obtain ⟨ds, S', h1, h2, h3, h4⟩ := lc_drw (cb := cbOf tb 39) (e := E_law_0) (i := 10) (k := k) (n0 := 1) (ρ := L9 ns nms .un .un .un .un .un .un .un) (I := fun S => S = [.lst [.int s2.1, .int s2.2]]) (P := fun d => d = .none) (S := [.lst [.int s2.1, .int s2.2]]) (by omega) (by rintro S rfl; simp) rfl (by
      rintro j S rfl
      exact ⟨.none, [.lst [.int s2.1, .int s2.2]], by simp, rfl, rfl⟩)
    subst h4
    have hds := rep_of h3
    rw [h2] at hds
    subst hds
    refine ⟨nms ++ List.replicate k none, s2, o2, h.rep k, by rw [List.length_append, List.length_replicate]; omega, ?_⟩
    have hm : (nms ++ List.replicate k none).map nmO = nms.map nmO ++ List.replicate k .none := by rw [List.map_append, List.map_replicate]; rfl
    have hz : (nms.map nmO).length + k ≤ 16000000 := by rw [List.length_map]; omega
    have b1 : (-1000000000 : Int) ≤ k ∧ (k : Int) ≤ 1000000000 := by omega
    have c3 : k ≤ 16000000 := by omega
    have c4 : (rngD 0 k).length = k := by simp [rngD]
    have c5 : (List.replicate k PyData.none).length = k := List.length_replicate ..
    unfold L9 at *
    rw [hm]
    generalize nms.map nmO = z at *
    have hw : wipeR [.dt (scr ns), .mu 0, .dt (.tuple z), .un, .un, .un, .un, .un, .un, .un, .un, .un, .un] [10] = [.dt (scr ns), .mu 0, .dt (.tuple z), .un, .un, .un, .un, .un, .un, .un, .un, .un, .un] := rfl
    generalize List.replicate k PyData.none = nn at *
    rw [ite_t (S1 := [.lst [.int s1.1, .int s1.2]]) (by simp [d1])]
    simp [d2, hk2, b1, c3, c4, c5, hw, h1, hz, big]
  · refine ⟨nms, s1, o1, h, by omega, ?_⟩
    have h0' : ¬ (a : Int) = 0 := by omega
    unfold L9
    generalize nms.map nmO = z at *
    rw [ite_f (S1 := [.lst [.int s1.1, .int s1.2]]) (by simp [d1, h0])]
    simp
theorem k79_pcs {ns : List Int} {nms : List (Option (List Nat))} {s : St2} (ho : okS s) (h : NmOk nms) (hl : nms.length ≤ 100) : ∃ (ps : List Pc) (s' : St2), okS s' ∧ ps.length ≤ 8 ∧ (∀ p ∈ ps, pcOk (wl 0 nms) p) ∧
    exec (cbOf tb 39) (.asg (.nm 3) (.lc [10] (.nm 10) (.rg1 (.call f__law_digit (.cons (.var 0) (.cons (.var 1) (.cons (.con (.int 9)) .nil))))) .none E_law_1)) (L9 ns nms .un .un .un .un .un .un .un) [.lst [.int s.1, .int s.2]] = .nx (L9 ns nms (.dt (.list (ps.map pcD))) .un .un .un .un .un .un) [.lst [.int s'.1, .int s'.2]] := by
  obtain ⟨k, s1, hk, o1, d1⟩ := drwX (ns := ns) (xs := []) 9 ho (by omega) (by omega)
  replace d1 := d1 37
  simp at d1
  obtain ⟨ds, S', h1, h2, h3, s2, o2, rfl⟩ := lc_drw (cb := cbOf tb 39) (e := E_law_1) (i := 10) (k := k) (n0 := 1) (ρ := L9 ns nms .un .un .un .un .un .un .un) (I := fun S => ∃ s, okS s ∧ S = [.lst [.int s.1, .int s.2]]) (P := fun d => ∃ p, pcOk (wl 0 nms) p ∧ d = pcD p) (S := [.lst [.int s1.1, .int s1.2]]) (by omega) (by rintro S ⟨s, _, rfl⟩; simp) ⟨s1, o1, rfl⟩ (by
    rintro j S ⟨s, o, rfl⟩
    obtain ⟨p, s', o', hp, hr⟩ := ok_piece (n := 36) (ns := ns) h hl o
    refine ⟨pcD p, _, ?_, ⟨p, hp, rfl⟩, s', o', rfl⟩
    unfold L9
    generalize nms.map nmO = z at *
    generalize pcD p = D at *
    simp [hr])
  obtain ⟨ps, q1, q2, rfl⟩ := pcs_of ds h3
  refine ⟨ps, s2, o2, by omega, q2, ?_⟩
  have b1 : (-1000000000 : Int) ≤ k ∧ (k : Int) ≤ 1000000000 := by omega
  have c3 : k ≤ 16000000 := by omega
  have c4 : (rngD 0 k).length = k := by simp [rngD]
  unfold L9 at *
  generalize nms.map nmO = z at *
  have hw : wipeR [.dt (scr ns), .mu 0, .dt (.tuple z), .un, .un, .un, .un, .un, .un, .un, .un, .un, .un] [10] = [.dt (scr ns), .mu 0, .dt (.tuple z), .un, .un, .un, .un, .un, .un, .un, .un, .un, .un] := rfl
  generalize ps.map pcD = D at *
  simp [d1, b1, c3, c4, hw, h1, big]
theorem k79_same {ns : List Int} {nms : List (Option (List Nat))} {ps : List Pc} {S : Stv} (h : NmOk nms) (hl : nms.length ≤ 100) (hps : ps.length ≤ 8) (hp : ∀ p ∈ ps, pcOk (wl 0 nms) p) (hS : S.length = 1) (hn : ∃ c, S = [c] ∧ refC c = []) :
    exec (cbOf tb 39) (.ite (.not (.val (.call f__law_same (.cons (.call f_read_template (.cons (.var 4) (.cons (.var 2) .nil))) (.cons (.call f__law_joined (.cons (.lc [11] (.nm 11) (.sq (.var 3)) .none E_law_3) .nil)) .nil)))))
  (.ret (.con (.bool false)))
  .nop) (L9 ns nms (.dt (.list (ps.map pcD))) (.dt (.str (SL (pcsW ps)))) .un .un .un .un .un) S = .nx (L9 ns nms (.dt (.list (ps.map pcD))) (.dt (.str (SL (pcsW ps)))) .un .un .un .un .un) S := by
  have hlen := pcsW_len hp
  have rt := ok_templ (n := 35) (ps := ps) h hl hp (by omega) (by omega)
  have jn := ok_joined (n := 38) (ps := ps) (by omega)
  have sm := ok_same (n := 39) (d := .list ((jall [] ps).map paD)) (j_dok (jall_ok ps [] 0 jok_nil (by omega)) (by omega) 36)
  have lc := ev_pcs1 (cb := cbOf tb 39) (ρ := L9 ns nms (.dt (.list (ps.map pcD))) (.dt (.str (SL (pcsW ps)))) .un .un .un .un .un) (S := S) (e := .var 3) (r := .v (.list (ps.map pcD))) (ps := ps) (by unfold L9; simp) (by simp) rfl (by simp) (by omega)
  unfold L9 at *
  generalize (jall [] ps).map paD = X at *
  generalize (ps.map fun p => paD (pcA p)) = Y at *
  generalize ps.map pcD = D at *
  generalize nms.map nmO = z at *
  generalize pcsW ps = W at *
  obtain ⟨c, rfl, hc⟩ := hn
  rw [ite_f (S1 := [c]) (by simp [lc, rt, jn, sm])]
  simp

theorem cutD_to {l : List PyData} {k : Nat} (h : k ≤ l.length) : VM.cutD l none (some (k : Int)) = l.take k := by
  unfold VM.cutD
  rw [HT.sIx_none, HT.sIx_nat]
  rw [Nat.min_eq_left h]
  simp
theorem cutD_fr {l : List PyData} {k : Nat} (h : k ≤ l.length) : VM.cutD l (some (k : Int)) none = l.drop k := by
  unfold VM.cutD
  rw [HT.sIx_none, HT.sIx_nat]
  rw [Nat.min_eq_left h]
  exact List.take_of_length_le (by simp)
def endT (m : Nat) : List (List Nat) := [[], [123], 123 :: nT m, [123, 48]]
theorem endT_x (L : List (List Nat × Nat)) (m : Nat) : ∀ r ∈ endT m, DolX L r := by
  intro r hr
  simp only [endT, List.mem_cons, List.not_mem_nil, or_false] at hr
  rcases hr with rfl | rfl | rfl | rfl
  · exact .sign (by simp) (by simp)
  · exact .miss (by simp)
  · exact .miss (nT_125 m)
  · exact .miss (by simp)
theorem cols_eq {c : Int} : SeqAt.shaped (.list [.int c, .int c, .int c, .int c]) = true ∧ PyData.eqv (.list [.int c, .int c, .int c, .int c]) (.list [.int c, .int c, .int c, .int c]) = true := by
  refine ⟨?_, by simp [PyData.eqv, PyData.eqvAll]⟩
  unfold SeqAt.shaped
  simp [PyData.canLay0, PyData.canLayAll0, PyData.depth, PyData.depthAll]
abbrev k79E : VM.St := (.seq (.asg (.nm 9) (.lst (.cons (.bin .add (.var 6) (.con (.str "$"))) (.cons (.bin .add (.var 6) (.con (.str "${"))) (.cons (.bin .add (.bin .add (.var 6) (.con (.str "${"))) (.bi .str (.cons (.bi .len (.cons (.var 2) .nil)) .nil))) (.cons (.bin .add (.var 6) (.con (.str "${0"))) .nil))))))
  (.ret (.cmp .eq (.lc [12] (.nm 12) (.sq (.var 9)) .none E_law_6) (.lc [12] (.nm 12) (.sq (.var 9)) .none E_law_7))))
theorem k79_end {ns : List Int} {nms : List (Option (List Nat))} {ps : List Pc} {s : St2} {x3 x4 x5 x7 x8 : En} (h : NmOk nms) (hl : nms.length ≤ 100) (hps : ps.length ≤ 8) (hp : ∀ p ∈ ps, pcOk (wl 0 nms) p) :
    exec (cbOf tb 39) k79E (L9 ns nms x3 x4 x5 (.dt (.str (SL (pcsW ps)))) x7 x8 .un) [.lst [.int s.1, .int s.2]] = .rt (.v (.bool true)) [.lst [.int s.1, .int s.2]] := by
  have hlen := pcsW_len hp
  have tl := nT_len (k := nms.length) (by omega)
  have hz : (nms.map nmO).length = nms.length := List.length_map ..
  have hs := nT_str nms.length
  have hlg : nms.length.log2 < 1920 := log2_small (by omega)
  have cl : ∀ r ∈ endT nms.length, run tb 39 f__law_column [.dt (.str (SL (pcsW ps ++ 36 :: r))), .dt (.tuple (nms.map nmO))] [] = .ok (.v (.int (((pcsW ps).length + 1 : Nat) : Int))) [] := by
    intro r hr
    refine ok_column (n := 34) h hl hp (by omega) (endT_x _ _ r hr) ?_
    have : r.length ≤ 20 := by
      simp only [endT, List.mem_cons, List.not_mem_nil, or_false] at hr
      rcases hr with rfl | rfl | rfl | rfl <;> simp <;> omega
    rw [List.length_append, List.length_cons]
    omega
  unfold L9
  have lc6 := lcF_filt (t := lcT (cbOf tb 39) .none) (f := lcE (cbOf tb 39) E_law_6) (b := bindE (.nm 12)) (ch := none) (n0 := 1) (ρ := [.dt (scr ns), .mu 0, .dt (.tuple (nms.map nmO)), x3, x4, x5, .dt (.str (SL (pcsW ps))), x7, x8, .dt (.list ((endT nms.length).map fun r => .str (SL (pcsW ps ++ 36 :: r)))), .un, .un, .un]) (S := [.lst [.int s.1, .int s.2]]) (fun r : List Nat => .dt (.str (SL (pcsW ps ++ 36 :: r)))) (fun _ => true) (fun _ => .int (((pcsW ps).length + 1 : Nat) : Int)) trivial (by simp) (endT nms.length) [] (by simp [big, endT]) (fun r hr => ⟨[.dt (scr ns), .mu 0, .dt (.tuple (nms.map nmO)), x3, x4, x5, .dt (.str (SL (pcsW ps))), x7, x8, .dt (.list ((endT nms.length).map fun r => .str (SL (pcsW ps ++ 36 :: r)))), .un, .un, .dt (.str (SL (pcsW ps ++ 36 :: r)))], rfl, rfl, fun _ => ⟨.v (.int (((pcsW ps).length + 1 : Nat) : Int)), by
    have := cl r hr
    generalize ((endT nms.length).map fun r => PyData.str (SL (pcsW ps ++ 36 :: r))) = Z at *
    generalize pcsW ps ++ 36 :: r = l at *
    generalize (((pcsW ps).length + 1 : Nat) : Int) = col at *
    generalize nms.map nmO = z at *
    simp [this], rfl⟩⟩)
  have lc7 := lcF_filt (t := lcT (cbOf tb 39) .none) (f := lcE (cbOf tb 39) E_law_7) (b := bindE (.nm 12)) (ch := none) (n0 := 1) (ρ := [.dt (scr ns), .mu 0, .dt (.tuple (nms.map nmO)), x3, x4, x5, .dt (.str (SL (pcsW ps))), x7, x8, .dt (.list ((endT nms.length).map fun r => .str (SL (pcsW ps ++ 36 :: r)))), .un, .un, .un]) (S := [.lst [.int s.1, .int s.2]]) (fun r : List Nat => .dt (.str (SL (pcsW ps ++ 36 :: r)))) (fun _ => true) (fun _ => .int (((pcsW ps).length + 1 : Nat) : Int)) trivial (by simp) (endT nms.length) [] (by simp [big, endT]) (fun r hr => ⟨[.dt (scr ns), .mu 0, .dt (.tuple (nms.map nmO)), x3, x4, x5, .dt (.str (SL (pcsW ps))), x7, x8, .dt (.list ((endT nms.length).map fun r => .str (SL (pcsW ps ++ 36 :: r)))), .un, .un, .dt (.str (SL (pcsW ps ++ 36 :: r)))], rfl, rfl, fun _ => ⟨.v (.int (((pcsW ps).length + 1 : Nat) : Int)), by
    have hb : (pcsW ps).length ≤ 16777216 := by omega
    generalize ((endT nms.length).map fun r => PyData.str (SL (pcsW ps ++ 36 :: r))) = Z at *
    generalize pcsW ps = W at *
    generalize nms.map nmO = z at *
    simp [hb, sizeLine], rfl⟩⟩)
  have ef : (endT nms.length).filter (fun _ => true) = endT nms.length := List.filter_eq_self.mpr fun _ _ => rfl
  rw [ef, List.nil_append] at lc6 lc7
  have e1 : (endT nms.length).map (fun r => En.dt (.str (SL (pcsW ps ++ 36 :: r)))) = ((endT nms.length).map fun r => PyData.str (SL (pcsW ps ++ 36 :: r))).map .dt := by rw [List.map_map]; rfl
  rw [e1] at lc6 lc7
  obtain ⟨col, hcol⟩ : ∃ col : Int, col = (((pcsW ps).length + 1 : Nat) : Int) := ⟨_, rfl⟩
  rw [← hcol] at lc6 lc7
  have e2 : (endT nms.length).map (fun _ => PyData.int col) = [.int col, .int col, .int col, .int col] := rfl
  rw [e2] at lc6 lc7
  obtain ⟨q1, q2⟩ := cols_eq (c := col)
  have c7 : ((endT nms.length).map fun r => PyData.str (SL (pcsW ps ++ 36 :: r))).length = 4 := by simp [endT]
  have e4 : ((endT nms.length).map fun r => PyData.str (SL (pcsW ps ++ 36 :: r))) = [.str (SL (pcsW ps ++ [36])), .str (SL (pcsW ps ++ [36, 123])), .str (SL (pcsW ps ++ 36 :: 123 :: nT nms.length)), .str (SL (pcsW ps ++ [36, 123, 48]))] := rfl
  refine of_ex ?_
  refine seq_ex (ρ1 := [.dt (scr ns), .mu 0, .dt (.tuple (nms.map nmO)), x3, x4, x5, .dt (.str (SL (pcsW ps))), x7, x8, .dt (.list ((endT nms.length).map fun r => .str (SL (pcsW ps ++ 36 :: r)))), .un, .un, .un]) (S1 := [.lst [.int s.1, .int s.2]]) ?_ ?_
  · rw [e4]
    clear lc6 lc7 cl e1 e2 e4 c7 q1 q2 ef
    have ea : Str.ofString "$" = SL [36] := by decide
    have eb : Str.ofString "${" = SL [36, 123] := by decide
    have ec : Str.ofString "${0" = SL [36, 123, 48] := by decide
    have hI : ((nms.length : Nat) : Int) = ((nms.map nmO).length : Int) := by rw [hz]
    have l1 : (pcsW ps).length + 1 ≤ 16777216 := by omega
    have l2 : (pcsW ps).length + 2 ≤ 16777216 := by omega
    have l3 : (pcsW ps).length + 3 ≤ 16777216 := by omega
    have l4 : (pcsW ps).length + 2 + (nT nms.length).length ≤ 16777216 := by omega
    have l5 : (pcsW ps).length + ((nT nms.length).length + 1 + 1) ≤ 16777216 := by omega
    generalize pcsW ps = W at *
    generalize nT nms.length = t at *
    rw [hI] at hs
    rw [← hz] at hlg
    generalize nms.map nmO = z at *
    simp [ea, eb, ec, hs, hlg, SL_app, sizeLine, big, l1, l2, l3, l4, l5]
  · clear cl
    generalize ((endT nms.length).map fun r => PyData.str (SL (pcsW ps ++ 36 :: r))) = Z at *
    generalize pcsW ps = W at *
    generalize nms.map nmO = z at *
    have hw : wipeR [.dt (scr ns), .mu 0, .dt (.tuple z), x3, x4, x5, .dt (.str (SL W)), x7, x8, .dt (.list Z), .un, .un, .un] [12] = [.dt (scr ns), .mu 0, .dt (.tuple z), x3, x4, x5, .dt (.str (SL W)), x7, x8, .dt (.list Z), .un, .un, .un] := rfl
    exact ⟨_, rfl, by simp [hw, lc6, lc7, c7, big, q1, q2]⟩

theorem k79_rest {ns : List Int} {nms : List (Option (List Nat))} {ps : List Pc} {s : St2} {x4 : En} (ho : okS s) (h : NmOk nms) (hl : nms.length ≤ 100) (hps : ps.length ≤ 8) (hp : ∀ p ∈ ps, pcOk (wl 0 nms) p) :
    ∃ s' : St2, exec (cbOf tb 39) (.seq (.ite (.cmp .eq (.call f__law_digit (.cons (.var 0) (.cons (.var 1) (.cons (.con (.int 2)) .nil)))) (.con (.int 0)))
  (.ret (.con (.bool true)))
  .nop)
  (.seq (.asg (.nm 5) (.call f__law_digit (.cons (.var 0) (.cons (.var 1) (.cons (.bin .add (.bi .len (.cons (.var 3) .nil)) (.con (.int 1))) .nil)))))
  (.seq (.asg (.nm 6) (.bm .join (.con (.str "")) (.cons (.lc [11] (.nm 11) (.sq (.slc (.var 3) .none (.some (.var 5)))) .none E_law_4) .nil)))
  (.seq (.asg (.nm 7) (.bm .join (.con (.str "")) (.cons (.lc [11] (.nm 11) (.sq (.slc (.var 3) (.some (.var 5)) .none)) .none E_law_5) .nil)))
  (.seq (.asg (.nm 8) (.call f__law_wrong (.cons (.var 0) (.cons (.var 1) (.cons (.var 2) .nil)))))
  (.seq (.ite (.not (.val (.call f__law_same (.cons (.call f__law_column (.cons (.bin .add (.bin .add (.var 6) (.var 8)) (.var 7)) (.cons (.var 2) .nil))) (.cons (.bin .add (.bi .len (.cons (.var 6) .nil)) (.con (.int 1))) .nil)))))
  (.ret (.con (.bool false)))
  .nop)
  k79E)))))) (L9 ns nms (.dt (.list (ps.map pcD))) x4 .un .un .un .un .un) [.lst [.int s.1, .int s.2]] = .rt (.v (.bool true)) [.lst [.int s'.1, .int s'.2]] := by
  obtain ⟨a, s1, ha, o1, d1⟩ := drwX (ns := ns) (xs := []) 2 ho (by omega) (by omega)
  replace d1 := d1 37
  simp at d1
  by_cases h0 : a = 0
  · subst h0
    refine ⟨s1, of_ex ?_⟩
    refine seq_rtx (r := .v (.bool true)) (S1 := [.lst [.int s1.1, .int s1.2]]) ?_ rfl
    unfold L9
    generalize nms.map nmO = z at *
    rw [ite_t (S1 := [.lst [.int s1.1, .int s1.2]]) (by simp [d1])]
    simp
  have h0' : ¬ (a : Int) = 0 := by omega
  obtain ⟨k, s2, hk, o2, d2⟩ := drwX (ns := ns) (xs := []) (ps.length + 1) o1 (by omega) (by omega)
  replace d2 := d2 37
  have hk2 : k ≤ ps.length := by omega
  obtain ⟨r, s3, o3, hr, hrl, d3⟩ := ok_wrong (n := 36) (ns := ns) h hl o2
  have hpb : ∀ p ∈ ps.take k, pcOk (wl 0 nms) p := fun p hq => hp p (List.mem_of_mem_take hq)
  have hpz : ∀ p ∈ ps.drop k, pcOk (wl 0 nms) p := fun p hq => hp p (List.mem_of_mem_drop hq)
  have lb : (ps.take k).length ≤ 8 := by rw [List.length_take]; omega
  have lz : (ps.drop k).length ≤ 8 := by rw [List.length_drop]; omega
  have wb := pcsW_len hpb
  have wz := pcsW_len hpz
  have en := k79_end (ns := ns) (s := s3) (x3 := .dt (.list (ps.map pcD))) (x4 := x4) (x5 := .dt (.int (k : Int))) (x7 := .dt (.str (SL (pcsW (ps.drop k))))) (x8 := .dt (.str (SL (36 :: r)))) h hl lb hpb
  have cl := ok_column (n := 34) (r := r ++ pcsW (ps.drop k)) h hl hpb (by omega) (hr _) (by rw [List.length_append, List.length_cons, List.length_append]; omega)
  have sm := ok_same (n := 39) (d := .int (((pcsW (ps.take k)).length + 1 : Nat) : Int)) trivial
  have hml : (ps.map pcD).length = ps.length := List.length_map ..
  have ct := cutD_to (l := ps.map pcD) (k := k) (by omega)
  have cf := cutD_fr (l := ps.map pcD) (k := k) (by omega)
  rw [← List.map_take] at ct
  rw [← List.map_drop] at cf
  have jb := ev_pcs0 (cb := cbOf tb 39) (ρ := L9 ns nms (.dt (.list (ps.map pcD))) x4 (.dt (.int (k : Int))) .un .un .un .un) (S := [.lst [.int s2.1, .int s2.2]]) (e := .slc (.var 3) .none (.some (.var 5))) (r := .nw (.lst ((ps.take k).map pcD))) (ps := ps.take k) (by
    unfold L9
    generalize nms.map nmO = z at *
    generalize (ps.take k).map pcD = A at *
    generalize ps.map pcD = B at *
    simp [ct]) (by simp) rfl (by simp) (by omega) (by omega)
  have jz := ev_pcs0 (cb := cbOf tb 39) (ρ := L9 ns nms (.dt (.list (ps.map pcD))) x4 (.dt (.int (k : Int))) (.dt (.str (SL (pcsW (ps.take k))))) .un .un .un) (S := [.lst [.int s2.1, .int s2.2]]) (e := .slc (.var 3) (.some (.var 5)) .none) (r := .nw (.lst ((ps.drop k).map pcD))) (ps := ps.drop k) (by
    unfold L9
    generalize nms.map nmO = z at *
    generalize (ps.drop k).map pcD = A at *
    generalize ps.map pcD = B at *
    generalize pcsW (ps.take k) = C at *
    simp [cf]) (by simp) rfl (by simp) (by omega) (by omega)
  clear ct cf
  refine ⟨s3, of_ex ?_⟩
  have hI : ((ps.length + 1 : Nat) : Int) = ((ps.map pcD).length : Int) + 1 := by rw [hml]; omega
  rw [hI] at d2
  unfold L9 at *
  obtain ⟨Y, hY⟩ : ∃ Y, Y = pcsW (ps.drop k) := ⟨_, rfl⟩
  obtain ⟨X, hX⟩ : ∃ X, X = pcsW (ps.take k) := ⟨_, rfl⟩
  rw [← hX] at cl jb jz en sm wb
  rw [← hY] at cl jz en wz
  clear hX hY
  generalize ps.map pcD = D at *
  generalize nms.map nmO = z at *
  refine seq_ex (ρ1 := [.dt (scr ns), .mu 0, .dt (.tuple z), .dt (.list D), x4, .un, .un, .un, .un, .un, .un, .un, .un]) (S1 := [.lst [.int s1.1, .int s1.2]]) (by
    rw [ite_f (S1 := [.lst [.int s1.1, .int s1.2]]) (by simp [d1, h0])]
    simp) ?_
  refine seq_ex (ρ1 := [.dt (scr ns), .mu 0, .dt (.tuple z), .dt (.list D), x4, .dt (.int (k : Int)), .un, .un, .un, .un, .un, .un, .un]) (S1 := [.lst [.int s2.1, .int s2.2]]) (by simp [d2]) ?_
  refine seq_ex (ρ1 := [.dt (scr ns), .mu 0, .dt (.tuple z), .dt (.list D), x4, .dt (.int (k : Int)), .dt (.str (SL X)), .un, .un, .un, .un, .un, .un]) (S1 := [.lst [.int s2.1, .int s2.2]]) (by rw [ex_asg, jb]; simp) ?_
  refine seq_ex (ρ1 := [.dt (scr ns), .mu 0, .dt (.tuple z), .dt (.list D), x4, .dt (.int (k : Int)), .dt (.str (SL X)), .dt (.str (SL Y)), .un, .un, .un, .un, .un]) (S1 := [.lst [.int s2.1, .int s2.2]]) (by rw [ex_asg, jz]; simp) ?_
  refine seq_ex (ρ1 := [.dt (scr ns), .mu 0, .dt (.tuple z), .dt (.list D), x4, .dt (.int (k : Int)), .dt (.str (SL X)), .dt (.str (SL Y)), .dt (.str (SL (36 :: r))), .un, .un, .un, .un]) (S1 := [.lst [.int s3.1, .int s3.2]]) (by simp [d3]) ?_
  refine seq_ex (ρ1 := [.dt (scr ns), .mu 0, .dt (.tuple z), .dt (.list D), x4, .dt (.int (k : Int)), .dt (.str (SL X)), .dt (.str (SL Y)), .dt (.str (SL (36 :: r))), .un, .un, .un, .un]) (S1 := [.lst [.int s3.1, .int s3.2]]) ?_ ⟨_, en, rfl⟩
  clear en jb jz d3 d2 d1
  have ls : SL X ++ SL (36 :: r) ++ SL Y = SL (X ++ 36 :: (r ++ Y)) := by rw [SL_app, SL_app]; simp
  have l1 : X.length + (r.length + 1) ≤ 16777216 := by omega
  have l2 : X.length + (r.length + 1) + Y.length ≤ 16777216 := by omega
  have l3 : X.length ≤ 16777216 := by omega
  have hc : ((X.length + 1 : Nat) : Int) = (X.length : Int) + 1 := by omega
  have l4 : (SL X ++ SL (36 :: r)).length = X.length + (r.length + 1) := by rw [SL_app, SL_len, List.length_append, List.length_cons]
  rw [hc] at cl sm
  generalize X ++ 36 :: (r ++ Y) = W at *
  obtain ⟨c1, hc1⟩ : ∃ c1 : Int, c1 = (X.length : Int) + 1 := ⟨_, rfl⟩
  rw [ite_f (S1 := [.lst [.int s3.1, .int s3.2]]) (by simp [ls, l1, l2, l3, l4, sizeLine, cl, sm])]
  simp
theorem law_true : ∀ ns : List Int, ns.length ≤ 63 → run tb 40 f_law [.dt (.list (ns.map PyData.int))] [] = .ok (.v (.bool true)) [] := by
  intro ns hns
  show run tb 40 f_law [.dt (scr ns)] [] = _
  have ho : okS (0, 0) := by simp [okS]
  obtain ⟨n0, s1, o1, l0, h0, d1⟩ := ok_names (n := 35) (ns := ns) ho
  obtain ⟨nms, s2, o2, hn, hl, d2⟩ := k79_more (ns := ns) o1 h0 l0
  obtain ⟨ps, s3, o3, hps, hp, d3⟩ := k79_pcs (ns := ns) o2 hn (by omega)
  have hlen := pcsW_len hp
  have sm := k79_same (ns := ns) (S := [.lst [.int s3.1, .int s3.2]]) hn (by omega) hps hp rfl ⟨_, rfl, rfl⟩
  obtain ⟨s4, rs⟩ := k79_rest (ns := ns) (x4 := .dt (.str (SL (pcsW ps)))) o3 hn (by omega) hps hp
  have jp := ev_pcs0 (cb := cbOf tb 39) (ρ := L9 ns nms (.dt (.list (ps.map pcD))) .un .un .un .un .un .un) (S := [.lst [.int s3.1, .int s3.2]]) (e := .var 3) (r := .v (.list (ps.map pcD))) (ps := ps) (by unfold L9; simp) (by simp) rfl (by simp) (by omega) (by omega)
  rw [run_law]
  refine run_ex rfl ?_
  show ∃ fl', exec (cbOf tb 39) body_law [.dt (scr ns), .un, .un, .un, .un, .un, .un, .un, .un, .un, .un, .un, .un] _ = fl' ∧ _
  unfold body_law
  refine seq_ex (ρ1 := [.dt (scr ns), .mu 0, .un, .un, .un, .un, .un, .un, .un, .un, .un, .un, .un]) (S1 := [.lst [.int 0, .int 0]]) (by simp [big]) ?_
  refine seq_ex (ρ1 := L9 ns n0 .un .un .un .un .un .un .un) (S1 := [.lst [.int s1.1, .int s1.2]]) ?_ ?_
  · unfold L9
    clear d2 jp sm
    generalize n0.map nmO = z at *
    simp at d1
    simp [d1]
  refine seq_ex d2 ?_
  refine seq_ex d3 ?_
  refine seq_ex (ρ1 := L9 ns nms (.dt (.list (ps.map pcD))) (.dt (.str (SL (pcsW ps)))) .un .un .un .un .un) (S1 := [.lst [.int s3.1, .int s3.2]]) (by
    rw [ex_asg, jp]
    unfold L9
    simp) ?_
  refine seq_ex sm ?_
  exact ⟨_, rs, by simp⟩

end Lw
end

section
set_option Elab.async false
set_option linter.all false
set_option maxRecDepth 100000
set_option maxHeartbeats 8000000
namespace Lw
open PySem PySem.Spec PyProof.Rows L2 DL VM
def topS (i : Nat) : Stmt := PySem.Challenge.pw_firstway_k79_templates_are_read.main.body.getD i (.Pass ⟨0, 0, 0, 0⟩)
abbrev s_TemplateError___init__ : Stmt := inClass (topS 3) 0
theorem sc_TemplateError___init__ : FnScope ["self", "column"] ["self", "column"] (defScope s_TemplateError___init__) := ⟨rfl, rfl, rfl, by decide +kernel, rfl, by decide +kernel, by decide +kernel⟩
abbrev s_read_template : Stmt := topS 6
theorem sc_read_template : FnScope ["template", "names", "groups", "parts", "at", "part"] ["template", "names"] (defScope s_read_template) := ⟨rfl, rfl, rfl, by decide +kernel, rfl, by decide +kernel, by decide +kernel⟩
abbrev s__groups_by_word : Stmt := topS 7
theorem sc__groups_by_word : FnScope ["names", "groups", "number", "name"] ["names"] (defScope s__groups_by_word) := ⟨rfl, rfl, rfl, by decide +kernel, rfl, by decide +kernel, by decide +kernel⟩
abbrev s__read_dollar : Stmt := topS 8
theorem sc__read_dollar : FnScope ["template", "at", "groups", "sign", "end", "word"] ["template", "at", "groups"] (defScope s__read_dollar) := ⟨rfl, rfl, rfl, by decide +kernel, rfl, by decide +kernel, by decide +kernel⟩
abbrev s__law_row : Stmt := topS 10
theorem sc__law_row : FnScope ["script", "k", "cell", "mixed"] ["script", "k"] (defScope s__law_row) := ⟨rfl, rfl, rfl, by decide +kernel, rfl, by decide +kernel, by decide +kernel⟩
abbrev s__law_digit : Stmt := topS 11
theorem sc__law_digit : FnScope ["script", "state", "many", "digit"] ["script", "state", "many"] (defScope s__law_digit) := ⟨rfl, rfl, rfl, by decide +kernel, rfl, by decide +kernel, by decide +kernel⟩
abbrev s__law_same : Stmt := topS 12
theorem sc__law_same : FnScope ["actual", "expected", "k"] ["actual", "expected"] (defScope s__law_same) := ⟨rfl, rfl, rfl, by decide +kernel, rfl, by decide +kernel, by decide +kernel⟩
abbrev s__law_name : Stmt := topS 13
theorem sc__law_name : FnScope ["script", "state", "letters", "name", "k"] ["script", "state"] (defScope s__law_name) := ⟨rfl, rfl, rfl, by decide +kernel, rfl, by decide +kernel, by decide +kernel⟩
abbrev s__law_names : Stmt := topS 14
theorem sc__law_names : FnScope ["script", "state", "names", "k", "name"] ["script", "state"] (defScope s__law_names) := ⟨rfl, rfl, rfl, by decide +kernel, rfl, by decide +kernel, by decide +kernel⟩
abbrev s__law_piece : Stmt := topS 15
theorem sc__law_piece : FnScope ["script", "state", "names", "kind", "number", "plain", "sign"] ["script", "state", "names"] (defScope s__law_piece) := ⟨rfl, rfl, rfl, by decide +kernel, rfl, by decide +kernel, by decide +kernel⟩
abbrev s__law_wrong : Stmt := topS 16
theorem sc__law_wrong : FnScope ["script", "state", "names", "kind", "far", "name"] ["script", "state", "names"] (defScope s__law_wrong) := ⟨rfl, rfl, rfl, by decide +kernel, rfl, by decide +kernel, by decide +kernel⟩
abbrev s__law_joined : Stmt := topS 17
theorem sc__law_joined : FnScope ["parts", "joined", "part"] ["parts"] (defScope s__law_joined) := ⟨rfl, rfl, rfl, by decide +kernel, rfl, by decide +kernel, by decide +kernel⟩
abbrev s__law_column : Stmt := topS 18
theorem sc__law_column : FnScope ["template", "names", "e"] ["template", "names"] (defScope s__law_column) := ⟨rfl, rfl, rfl, by decide +kernel, rfl, by decide +kernel, by decide +kernel⟩
abbrev s_law : Stmt := topS 19
theorem sc_law : FnScope ["script", "state", "names", "pieces", "template", "at", "before", "behind", "wrong", "ends", "k", "piece", "end"] ["script"] (defScope s_law) := ⟨rfl, rfl, rfl, by decide +kernel, rfl, by decide +kernel, by decide +kernel⟩
abbrev clA (A : Nat → Addr) : Nat → Addr := fun c =>  0
abbrev clV (P : Program) (w : World) (A : Nat → Addr) : ClT := ⟨clA A, [], P, w⟩
abbrev xcV (A : Nat → Addr) : XCl := fun c => if c = 0 then .ref (A 3) else if c = 1 then .ref (A 1) else if c = 2 then .ref (A 2) else Value.none
structure Txt (w : World) (K : PySem.W.Frag) (mg : Str → Option Value) (A : Nat → Addr) (FD : Nat → FuncData) (V0 : Nat → V) : Prop where
  F_TemplateError___init__ : Fun K "__init__" "TemplateError.__init__" s_TemplateError___init__ (A 4000) (FD 4000)
  b_TemplateError___init__ : Binds K (FD 4000) ["self", "column"] []
  F_read_template : Fun K "read_template" "read_template" s_read_template (A 6) (FD 6)
  b_read_template : Binds K (FD 6) ["template", "names"] []
  g_read_template : mg "read_template" = some (.ref (A 6))
  F__groups_by_word : Fun K "_groups_by_word" "_groups_by_word" s__groups_by_word (A 7) (FD 7)
  b__groups_by_word : Binds K (FD 7) ["names"] []
  g__groups_by_word : mg "_groups_by_word" = some (.ref (A 7))
  F__read_dollar : Fun K "_read_dollar" "_read_dollar" s__read_dollar (A 8) (FD 8)
  b__read_dollar : Binds K (FD 8) ["template", "at", "groups"] []
  g__read_dollar : mg "_read_dollar" = some (.ref (A 8))
  F__law_row : Fun K "_law_row" "_law_row" s__law_row (A 10) (FD 10)
  b__law_row : Binds K (FD 10) ["script", "k"] []
  g__law_row : mg "_law_row" = some (.ref (A 10))
  F__law_digit : Fun K "_law_digit" "_law_digit" s__law_digit (A 11) (FD 11)
  b__law_digit : Binds K (FD 11) ["script", "state", "many"] []
  g__law_digit : mg "_law_digit" = some (.ref (A 11))
  F__law_same : Fun K "_law_same" "_law_same" s__law_same (A 12) (FD 12)
  b__law_same : Binds K (FD 12) ["actual", "expected"] []
  g__law_same : mg "_law_same" = some (.ref (A 12))
  F__law_name : Fun K "_law_name" "_law_name" s__law_name (A 13) (FD 13)
  b__law_name : Binds K (FD 13) ["script", "state"] []
  g__law_name : mg "_law_name" = some (.ref (A 13))
  F__law_names : Fun K "_law_names" "_law_names" s__law_names (A 14) (FD 14)
  b__law_names : Binds K (FD 14) ["script", "state"] []
  g__law_names : mg "_law_names" = some (.ref (A 14))
  F__law_piece : Fun K "_law_piece" "_law_piece" s__law_piece (A 15) (FD 15)
  b__law_piece : Binds K (FD 15) ["script", "state", "names"] []
  g__law_piece : mg "_law_piece" = some (.ref (A 15))
  F__law_wrong : Fun K "_law_wrong" "_law_wrong" s__law_wrong (A 16) (FD 16)
  b__law_wrong : Binds K (FD 16) ["script", "state", "names"] []
  g__law_wrong : mg "_law_wrong" = some (.ref (A 16))
  F__law_joined : Fun K "_law_joined" "_law_joined" s__law_joined (A 17) (FD 17)
  b__law_joined : Binds K (FD 17) ["parts"] []
  g__law_joined : mg "_law_joined" = some (.ref (A 17))
  F__law_column : Fun K "_law_column" "_law_column" s__law_column (A 18) (FD 18)
  b__law_column : Binds K (FD 18) ["template", "names"] []
  g__law_column : mg "_law_column" = some (.ref (A 18))
  F_law : Fun K "law" "law" s_law (A 19) (FD 19)
  b_law : Binds K (FD 19) ["script"] []
  g_law : mg "law" = some (.ref (A 19))
  m_ValueError : mg "ValueError" = none
  m_bool : mg "bool" = none
  m_enumerate : mg "enumerate" = none
  m_int : mg "int" = none
  m_isinstance : mg "isinstance" = none
  m_len : mg "len" = none
  m_list : mg "list" = none
  m_range : mg "range" = none
  m_str : mg "str" = none
  m_tuple : mg "tuple" = none
  gx_TemplateError : mg "TemplateError" = some (.ref (A 3))
  kx_TemplateError : PySem.W.keepIn K (.ref (A 3)) = true
  ox_TemplateError : OexC K (A 3)
  ix_TemplateError : PySem.W.findIn K (.ref (A 3)) "__init__" = some (some (.ref (A 4000)))
  ti_TemplateError : PySem.W.typeIn K (.ref (A 4000)) = some (.type "function")
  xf_TemplateError : XfC K (A 3)
  nf_TemplateError_column : PySem.W.findIn K (.ref (A 3)) "column" = some none
  bx_TemplateError : PySem.W.subIn K (.ref (A 3)) (.type "BaseException") = some true
  tx_TemplateError : PySem.W.typeIn K (.ref (A 3)) = some (.type "type")
  ec_TemplateError : ExcC K (A 3)
  gx_FirstwayError : mg "FirstwayError" = some (.ref (A 1))
  gx_CountError : mg "CountError" = some (.ref (A 2))
  fa_FirstwayError : PySem.W.specialIn K (.ref (A 1)) "__getattribute__" = some (some (.builtin "type.__getattribute__"))
  fr_FirstwayError : PySem.W.readsIn K (A 1) (.type "type") = true
  fv_FirstwayError : PySem.W.findCls K (.ref (A 1)) (.type "type") "__init__" = some (.val (.builtin "ValueError.__init__"))
  kit_TemplateError_CountError : PySem.W.kitOne K (.ref (A 3)) (.ref (A 2)) = some false
  kit_TemplateError_TemplateError : PySem.W.kitOne K (.ref (A 3)) (.ref (A 3)) = some true
  kit_TemplateError_ValueError : PySem.W.kitOne K (.ref (A 3)) (.type "ValueError") = some true
  xm_TemplateError_FirstwayError : PySem.W.exmOne K (.ref (A 3)) (.ref (A 1)) = some true
  c__SIGNS : ∃ u, mg "_SIGNS" = some u ∧ RelV (V0 5) u ∧ CDk K w (V0 5) dat__SIGNS
structure Lv (P : Program) (w : World) (K : PySem.W.Frag) (mg : Str → Option Value) (base : Heap) (A : Nat → Addr) (FD : Nat → FuncData) (n : Nat) : Prop where
  c_read_template : FnOk P w K mg base (L2.CX P w) (n + 1) (A 6) (FD 6) ["template", "names"] (spV K (clV P w A) (xcV A) (tb f_read_template).args (run tb n f_read_template))
  c__groups_by_word : FnOk P w K mg base CX0 (n + 1) (A 7) (FD 7) ["names"] (spV K (clV P w A) (xcV A) (tb f__groups_by_word).args (run tb n f__groups_by_word))
  c__read_dollar : FnOk P w K mg base (L2.CX P w) (n + 1) (A 8) (FD 8) ["template", "at", "groups"] (spV K (clV P w A) (xcV A) (tb f__read_dollar).args (run tb n f__read_dollar))
  c__law_row : FnOk P w K mg base CX0 (n + 1) (A 10) (FD 10) ["script", "k"] (spV K (clV P w A) (xcV A) (tb f__law_row).args (run tb n f__law_row))
  c__law_digit : FnOk P w K mg base CX0 (n + 1) (A 11) (FD 11) ["script", "state", "many"] (spV K (clV P w A) (xcV A) (tb f__law_digit).args (run tb n f__law_digit))
  c__law_same : FnOk P w K mg base CX0 (n + 1) (A 12) (FD 12) ["actual", "expected"] (spV K (clV P w A) (xcV A) (tb f__law_same).args (run tb n f__law_same))
  c__law_name : FnOk P w K mg base CX0 (n + 1) (A 13) (FD 13) ["script", "state"] (spV K (clV P w A) (xcV A) (tb f__law_name).args (run tb n f__law_name))
  c__law_names : FnOk P w K mg base CX0 (n + 1) (A 14) (FD 14) ["script", "state"] (spV K (clV P w A) (xcV A) (tb f__law_names).args (run tb n f__law_names))
  c__law_piece : FnOk P w K mg base CX0 (n + 1) (A 15) (FD 15) ["script", "state", "names"] (spV K (clV P w A) (xcV A) (tb f__law_piece).args (run tb n f__law_piece))
  c__law_wrong : FnOk P w K mg base CX0 (n + 1) (A 16) (FD 16) ["script", "state", "names"] (spV K (clV P w A) (xcV A) (tb f__law_wrong).args (run tb n f__law_wrong))
  c__law_joined : FnOk P w K mg base CX0 (n + 1) (A 17) (FD 17) ["parts"] (spV K (clV P w A) (xcV A) (tb f__law_joined).args (run tb n f__law_joined))
  c__law_column : FnOk P w K mg base CX0 (n + 1) (A 18) (FD 18) ["template", "names"] (spV K (clV P w A) (xcV A) (tb f__law_column).args (run tb n f__law_column))
  c_law : FnOk P w K mg base (L2.CX P w) (n + 1) (A 19) (FD 19) ["script"] (spV K (clV P w A) (xcV A) (tb f_law).args (run tb n f_law))
section
variable {P : Program} {w : World} {K : PySem.W.Frag} {mg : Str → Option Value} {base : Heap} {A : Nat → Addr} {FD : Nat → FuncData} {V0 : Nat → V}
theorem dx_TemplateError___init__ (T : Txt w K mg A FD V0) : ∀ n, FnOk P w K mg base CX0 n (A 4000) (FD 4000) ["self", "column"] (spI K (cbOf tb n) (A 3) ["column"] f_TemplateError___init__) :=
  fun_OX (cl := clV P w A) (xc := xcV A) (V0 := V0) (es :=  (.cons (.con (.str "column ")) (.cons (.var 1) (.cons (.con (.str ": this dollar sign begins nothing")) .nil)))) T.F_TemplateError___init__ sc_TemplateError___init__ rfl (by decide) T.ox_TemplateError (fun f hf => (List.mem_cons.mp hf).elim (fun e => e ▸ T.nf_TemplateError_column) fun hf => nomatch hf) (by decide) (by decide) (fun n cdv Ar outer s H E hr =>
    (pss_cons (ps_expr (pe_binit (by rfl) T.gx_FirstwayError T.fa_FirstwayError T.fr_FirstwayError T.fv_FirstwayError (pa_cons (pv 0) (pa_cons (pe_joined (PJ.cons pe_str (PJ.cons (pe_fmt (pv 1)) (PJ.cons pe_str PJ.nil)))) pa_nil)))) (pss_cons (ps_ost (pv 0) (pv 1)) pss_nil)))
theorem d_read_template (T : Txt w K mg A FD V0) {n : Nat} (L : Lv P w K mg base A FD n) : FnOk P w K mg base (L2.CX P w) (n + 1 + 1) (A 6) (FD 6) ["template", "names"] (spV K (clV P w A) (xcV A) (tb f_read_template).args (run tb (n + 1) f_read_template)) := by
  refine fun_VX (g := f_read_template) (V0 := V0) T.F_read_template sc_read_template rfl rfl (fun cdv Ar outer s H E hr => ?_)
  show PSs _ _ (dS _ body_read_template _)
  exact (pss_cons (ps_set (i := 2) sc_read_template.nd rfl (by first | exact Or.inl rfl | exact Or.inr rfl) (pe_call L.c__groups_by_word hr (by rfl) T.g__groups_by_word T.F__groups_by_word.kp T.b__groups_by_word .nil pass0 (pa_cons (pv 1) pa_nil)))
  (pss_cons (ps_set (i := 3) sc_read_template.nd rfl (by first | exact Or.inl rfl | exact Or.inr rfl) (pe_lst pa_nil))
  (pss_cons (ps_set (i := 4) sc_read_template.nd rfl (by first | exact Or.inl rfl | exact Or.inr rfl) pe_int)
  (pss_cons (ps_while PassesOwn.leaving (pt_cmpR (op_cmp rfl (hu65 hr) .lt) (pv 4) (pe_callB (call_lenK (K := K) rfl) (by rfl) T.m_len PySem.boot_len (pa_cons (pv 0) pa_nil)) (by first | exact nomark _ | rfl)) (pss_cons (ps_if (pt_cmpR (op_cmp rfl (hu65 hr) .eq) (pe_ix (ix_any rfl (hu65 hr)) (pv 0) (pv 4) (fun _ _ => rfl)) pe_str (by first | exact nomark _ | rfl)) (pss_one (ps_asg (pe_call L.c__read_dollar hr (by rfl) T.g__read_dollar T.F__read_dollar.kp T.b__read_dollar .nil (passX (takes_of rfl rfl rfl rfl) (fun _ _ _ _ h => h)) (pa_cons (pv 0) (pa_cons (pv 4) (pa_cons (pv 2) pa_nil)))) (pg_tup (by rfl) (pgs_cons (pg_name (i := 5) sc_read_template.nd rfl (by first | exact Or.inl rfl | exact Or.inr rfl)) (pgs_cons (pg_name (i := 4) sc_read_template.nd rfl (by first | exact Or.inl rfl | exact Or.inr rfl)) pgs_nil))))) (pss_cons (ps_set (i := 5) sc_read_template.nd rfl (by first | exact Or.inl rfl | exact Or.inr rfl) (pe_tup (pa_cons pe_str (pa_cons (pe_ix (ix_any rfl (hu65 hr)) (pv 0) (pv 4) (fun _ _ => rfl)) pa_nil))))
  (pss_one (ps_aug (i := 4) sc_read_template.nd rfl (by first | exact Or.inl rfl | exact Or.inr rfl) pe_int ip_add))))
  (pss_one (ps_if (PW.pt (pw_and (pt_cmpR (op_cmp rfl (hu65 hr) .eq) (pe_ix (ix_any rfl (hu65 hr)) (pv 5) pe_int (fun _ _ => rfl)) pe_str (by first | exact nomark _ | rfl)) (pw_and (pt_truthK (K := K) rfl (pv 3) (by intro _; rfl)) (pw_and1 (pt_cmpR (op_cmp rfl (hu65 hr) .eq) (pe_ix (ix_any rfl (hu65 hr)) (pe_ix (ix_any rfl (hu65 hr)) (pv 3) (pe_un un_neg pe_int) (fun _ _ => rfl)) pe_int (fun _ _ => rfl)) pe_str (by first | exact nomark _ | rfl)))))) (pss_one (PS.or (ps_asg (pe_tup (pa_cons pe_str (pa_cons (pe_op (op_bin rfl .add) (pe_ix (ix_any rfl (hu65 hr)) (pe_ix (ix_any rfl (hu65 hr)) (pv 3) (pe_un un_neg pe_int) (fun _ _ => rfl)) pe_int (fun _ _ => rfl)) (pe_ix (ix_any rfl (hu65 hr)) (pv 5) pe_int (fun _ _ => rfl))) pa_nil))) (pg_sub (pv 3) (pe_un un_neg pe_int) set_list)) (ps_dput (hu1 hr) (pv 3) (pe_un un_neg pe_int) (pe_tup (pa_cons pe_str (pa_cons (pe_op (op_bin rfl .add) (pe_ix (ix_any rfl (hu65 hr)) (pe_ix (ix_any rfl (hu65 hr)) (pv 3) (pe_un un_neg pe_int) (fun _ _ => rfl)) pe_int (fun _ _ => rfl)) (pe_ix (ix_any rfl (hu65 hr)) (pv 5) pe_int (fun _ _ => rfl))) pa_nil))) rfl))) (pss_one (ps_expr (pe_bmE (K := K) rfl PySem.F.plainAttrs_list PySem.F.slot_list_append PySem.F.type_list_append mt_append (pv 3) (pa_cons (pv 5) pa_nil))))))))
  (pss_one (ps_ret (pv 3)))))))
theorem d__groups_by_word (T : Txt w K mg A FD V0) {n : Nat} (L : Lv P w K mg base A FD n) : FnOk P w K mg base CX0 (n + 1 + 1) (A 7) (FD 7) ["names"] (spV K (clV P w A) (xcV A) (tb f__groups_by_word).args (run tb (n + 1) f__groups_by_word)) := by
  refine fun_V (g := f__groups_by_word) (V0 := V0) T.F__groups_by_word sc__groups_by_word rfl rfl (fun cdv Ar outer s H E hr => ?_)
  show PSs _ _ (dS _ body__groups_by_word _)
  exact (pss_cons (ps_set (i := 1) sc__groups_by_word.nd rfl (by first | exact Or.inl rfl | exact Or.inr rfl) pe_dnewK)
  (pss_cons (ps_for PassesOwn.never rfl (pi_enumK rfl (by rfl) T.m_enumerate (pa_cons (pv 0) pa_nil)) (pg_tup (by rfl) (pgs_cons (pg_name (i := 2) sc__groups_by_word.nd rfl (by first | exact Or.inl rfl | exact Or.inr rfl)) (pgs_cons (pg_name (i := 3) sc__groups_by_word.nd rfl (by first | exact Or.inl rfl | exact Or.inr rfl)) pgs_nil))) (pss_cons (PS.or (ps_asg (pv 2) (pg_sub (pv 1) (pe_callTy (call_strK (K := K) rfl) (by rfl) T.m_str (by decide +kernel) (pa_cons (pv 2) pa_nil)) set_list)) (ps_dput (hu1 hr) (pv 1) (pe_callTy (call_strK (K := K) rfl) (by rfl) T.m_str (by decide +kernel) (pa_cons (pv 2) pa_nil)) (pv 2) rfl))
  (pss_one (ps_if (pt_cmpR (op_cmp rfl (hu65 hr) .notn) (pv 3) pe_non (by first | exact nomark _ | rfl)) (pss_one (PS.or (ps_asg (pv 2) (pg_sub (pv 1) (pv 3) set_list)) (ps_dput (hu1 hr) (pv 1) (pv 3) (pv 2) rfl))) pss_nil))))
  (pss_one (ps_ret (pv 1)))))
theorem d__read_dollar (T : Txt w K mg A FD V0) {n : Nat} (L : Lv P w K mg base A FD n) : FnOk P w K mg base (L2.CX P w) (n + 1 + 1) (A 8) (FD 8) ["template", "at", "groups"] (spV K (clV P w A) (xcV A) (tb f__read_dollar).args (run tb (n + 1) f__read_dollar)) := by
  refine fun_VX (g := f__read_dollar) (V0 := V0) T.F__read_dollar sc__read_dollar rfl rfl (fun cdv Ar outer s H E hr => ?_)
  show PSs _ _ (dS _ body__read_dollar _)
  exact (pss_cons (ps_set (i := 3) sc__read_dollar.nd rfl (by first | exact Or.inl rfl | exact Or.inr rfl) (pe_slice (sl_any rfl) (pv 0) (po_some (pe_op (op_bin rfl .add) (pv 1) pe_int)) (po_some (pe_op (op_bin rfl .add) (pv 1) pe_int))))
  (pss_cons (ps_if (pt_cdn false (by rfl) (by rfl) (by rfl) T.c__SIGNS (pv 3)) (pss_one (ps_ret (pe_tup (pa_cons (pe_cdi (by rfl) (by rfl) (by rfl) T.c__SIGNS (pv 3) (fun _ _ => rfl)) (pa_cons (pe_op (op_bin rfl .add) (pv 1) pe_int) pa_nil))))) pss_nil)
  (pss_cons (ps_set (i := 4) sc__read_dollar.nd rfl (by first | exact Or.inl rfl | exact Or.inr rfl) (pe_tm .find PySem.F.slot_str_find PySem.F.type_str_find (by rfl) (pv 0) (pa_cons pe_str (pa_cons (pv 1) pa_nil))))
  (pss_cons (ps_if (PW.pt (pw_or (pt_cmpR (op_cmp rfl (hu65 hr) .ne) (pv 3) pe_str (by first | exact nomark _ | rfl)) (pw_or1 (pt_cmpR (op_cmp rfl (hu65 hr) .lt) (pv 4) pe_int (by first | exact nomark _ | rfl))))) (pss_one (ps_raf (E := envV K (clV P w A) (xcV A) V0 tb n) rfl rfl rfl (takes_of rfl rfl rfl rfl) T.ox_TemplateError T.ix_TemplateError T.ti_TemplateError (dx_TemplateError___init__ T n) hr T.b_TemplateError___init__ (by rfl) T.gx_TemplateError (pa_cons (pe_op (op_bin rfl .add) (pv 1) pe_int) pa_nil))) pss_nil)
  (pss_cons (ps_set (i := 5) sc__read_dollar.nd rfl (by first | exact Or.inl rfl | exact Or.inr rfl) (pe_slice (sl_any rfl) (pv 0) (po_some (pe_op (op_bin rfl .add) (pv 1) pe_int)) (po_some (pv 4))))
  (pss_cons (ps_if (pt_cmpR (op_cmp rfl (hu65 hr) .notin) (pv 5) (pv 2) (by first | exact nomark _ | rfl)) (pss_one (ps_raf (E := envV K (clV P w A) (xcV A) V0 tb n) rfl rfl rfl (takes_of rfl rfl rfl rfl) T.ox_TemplateError T.ix_TemplateError T.ti_TemplateError (dx_TemplateError___init__ T n) hr T.b_TemplateError___init__ (by rfl) T.gx_TemplateError (pa_cons (pe_op (op_bin rfl .add) (pv 1) pe_int) pa_nil))) pss_nil)
  (pss_one (ps_ret (pe_tup (pa_cons (pe_tup (pa_cons pe_str (pa_cons (pe_ix (ix_any rfl (hu65 hr)) (pv 2) (pv 5) (fun _ _ => rfl)) pa_nil))) (pa_cons (pe_op (op_bin rfl .add) (pv 4) pe_int) pa_nil)))))))))))
theorem d__law_row (T : Txt w K mg A FD V0) {n : Nat} (L : Lv P w K mg base A FD n) : FnOk P w K mg base CX0 (n + 1 + 1) (A 10) (FD 10) ["script", "k"] (spV K (clV P w A) (xcV A) (tb f__law_row).args (run tb (n + 1) f__law_row)) := by
  refine fun_V (g := f__law_row) (V0 := V0) T.F__law_row sc__law_row rfl rfl (fun cdv Ar outer s H E hr => ?_)
  show PSs _ _ (dS _ body__law_row _)
  exact (pss_cons (ps_set (i := 2) sc__law_row.nd rfl (by first | exact Or.inl rfl | exact Or.inr rfl) pe_int)
  (pss_cons (ps_if (pt_cmpR (op_cmp rfl (hu65 hr) .lt) (pv 1) (pe_callB (call_lenK (K := K) rfl) (by rfl) T.m_len PySem.boot_len (pa_cons (pv 0) pa_nil)) (by first | exact nomark _ | rfl)) (pss_one (ps_set (i := 2) sc__law_row.nd rfl (by first | exact Or.inl rfl | exact Or.inr rfl) (pe_ix (ix_any rfl (hu65 hr)) (pv 0) (pv 1) (fun _ _ => rfl)))) pss_nil)
  (pss_cons (ps_if (pt_cmpR (op_cmp rfl (hu65 hr) .lt) (pv 2) pe_int (by first | exact nomark _ | rfl)) (pss_one (ps_set (i := 2) sc__law_row.nd rfl (by first | exact Or.inl rfl | exact Or.inr rfl) (pe_op (op_bin rfl .sub) pe_int (pe_op (op_bin rfl .mul) pe_int (pv 2))))) pss_nil)
  (pss_cons (ps_if (pt_cmpR (op_cmp rfl (hu65 hr) .ge) (pv 2) (pe_op (op_bin rfl .pow) pe_int pe_int) (by first | exact nomark _ | rfl)) (pss_one (ps_ret (pv 2))) pss_nil)
  (pss_cons (ps_set (i := 3) sc__law_row.nd rfl (by first | exact Or.inl rfl | exact Or.inr rfl) (pe_op (op_bin rfl .mod) (pe_callTy (call_intK (K := K)) (by rfl) T.m_int (by decide +kernel) (pa_cons (pe_op (op_bin rfl .add) (pe_op (op_bin rfl .mul) (pe_op (op_bin rfl .add) (pe_op (op_bin rfl .add) (pv 2) (pe_op (op_bin rfl .mul) pe_int (pv 1))) pe_int) pe_int) pe_int) pa_nil)) pe_int))
  (pss_one (ps_ret (pe_op (op_bin rfl .mod) (pe_callTy (call_intK (K := K)) (by rfl) T.m_int (by decide +kernel) (pa_cons (pe_op (op_bin rfl .add) (pe_op (op_bin rfl .add) (pe_op (op_bin rfl .mul) (pv 3) (pv 3)) (pe_op (op_bin rfl .mul) pe_int (pv 1))) pe_int) pa_nil)) pe_int))))))))
theorem d__law_digit (T : Txt w K mg A FD V0) {n : Nat} (L : Lv P w K mg base A FD n) : FnOk P w K mg base CX0 (n + 1 + 1) (A 11) (FD 11) ["script", "state", "many"] (spV K (clV P w A) (xcV A) (tb f__law_digit).args (run tb (n + 1) f__law_digit)) := by
  refine fun_V (g := f__law_digit) (V0 := V0) T.F__law_digit sc__law_digit rfl rfl (fun cdv Ar outer s H E hr => ?_)
  show PSs _ _ (dS _ body__law_digit _)
  exact (pss_cons (ps_if (pt_cmpR (op_cmp rfl (hu65 hr) .eq) (pe_ix (ix_any rfl (hu65 hr)) (pv 1) pe_int (fun _ _ => rfl)) pe_int (by first | exact nomark _ | rfl)) (pss_cons (PS.or (ps_asg (pe_call L.c__law_row hr (by rfl) T.g__law_row T.F__law_row.kp T.b__law_row .nil pass0 (pa_cons (pv 0) (pa_cons (pe_ix (ix_any rfl (hu65 hr)) (pv 1) pe_int (fun _ _ => rfl)) pa_nil))) (pg_sub (pv 1) pe_int set_list)) (ps_dput (hu1 hr) (pv 1) pe_int (pe_call L.c__law_row hr (by rfl) T.g__law_row T.F__law_row.kp T.b__law_row .nil pass0 (pa_cons (pv 0) (pa_cons (pe_ix (ix_any rfl (hu65 hr)) (pv 1) pe_int (fun _ _ => rfl)) pa_nil))) rfl))
  (pss_one (PS.or (ps_asg (pe_op (op_bin rfl .add) (pe_ix (ix_any rfl (hu65 hr)) (pv 1) pe_int (fun _ _ => rfl)) pe_int) (pg_sub (pv 1) pe_int set_list)) (ps_dput (hu1 hr) (pv 1) pe_int (pe_op (op_bin rfl .add) (pe_ix (ix_any rfl (hu65 hr)) (pv 1) pe_int (fun _ _ => rfl)) pe_int) rfl)))) pss_nil)
  (pss_cons (ps_set (i := 3) sc__law_digit.nd rfl (by first | exact Or.inl rfl | exact Or.inr rfl) (pe_op (op_bin rfl .mod) (pe_callTy (call_intK (K := K)) (by rfl) T.m_int (by decide +kernel) (pa_cons (pe_ix (ix_any rfl (hu65 hr)) (pv 1) pe_int (fun _ _ => rfl)) pa_nil)) (pv 2)))
  (pss_cons (PS.or (ps_asg (pe_op (op_bin rfl .fdiv) (pe_ix (ix_any rfl (hu65 hr)) (pv 1) pe_int (fun _ _ => rfl)) (pv 2)) (pg_sub (pv 1) pe_int set_list)) (ps_dput (hu1 hr) (pv 1) pe_int (pe_op (op_bin rfl .fdiv) (pe_ix (ix_any rfl (hu65 hr)) (pv 1) pe_int (fun _ _ => rfl)) (pv 2)) rfl))
  (pss_one (ps_ret (pv 3))))))
theorem d__law_same (T : Txt w K mg A FD V0) {n : Nat} (L : Lv P w K mg base A FD n) : FnOk P w K mg base CX0 (n + 1 + 1) (A 12) (FD 12) ["actual", "expected"] (spV K (clV P w A) (xcV A) (tb f__law_same).args (run tb (n + 1) f__law_same)) := by
  refine fun_V (g := f__law_same) (V0 := V0) T.F__law_same sc__law_same rfl rfl (fun cdv Ar outer s H E hr => ?_)
  show PSs _ _ (dS _ body__law_same _)
  exact (pss_cons (ps_if (pt_cmpR (op_cmp rfl (hu65 hr) .isn) (pv 1) pe_non (by first | exact nomark _ | rfl)) (pss_one (ps_ret (pe_cmpR (op_cmp rfl (hu65 hr) .isn) (pv 0) pe_non (by first | exact nomark _ | rfl)))) pss_nil)
  (pss_cons (ps_if (pt_truthK (K := K) rfl (pe_callB (call_isiK (K := K) rfl) (by rfl) T.m_isinstance (by decide +kernel) (pa_cons (pv 1) (pa_cons (pe_bltn (v := .ty "bool") (by rfl) T.m_bool boot_bool rfl) pa_nil))) (by intro _; rfl)) (pss_one (ps_ret (pe_andT (pe_callB (call_isiK (K := K) rfl) (by rfl) T.m_isinstance (by decide +kernel) (pa_cons (pv 0) (pa_cons (pe_bltn (v := .ty "bool") (by rfl) T.m_bool boot_bool rfl) pa_nil))) (pe_one (pe_cmpR (op_cmp rfl (hu65 hr) .eq) (pv 0) (pv 1) (by first | exact nomark _ | rfl)))))) pss_nil)
  (pss_cons (ps_if (pt_truthK (K := K) rfl (pe_callB (call_isiK (K := K) rfl) (by rfl) T.m_isinstance (by decide +kernel) (pa_cons (pv 1) (pa_cons (pe_bltn (v := .ty "int") (by rfl) T.m_int boot_int rfl) pa_nil))) (by intro _; rfl)) (pss_one (ps_ret (pe_andT (pe_callB (call_isiK (K := K) rfl) (by rfl) T.m_isinstance (by decide +kernel) (pa_cons (pv 0) (pa_cons (pe_bltn (v := .ty "int") (by rfl) T.m_int boot_int rfl) pa_nil))) (pe_andT (pe_notT (pe_callB (call_isiK (K := K) rfl) (by rfl) T.m_isinstance (by decide +kernel) (pa_cons (pv 0) (pa_cons (pe_bltn (v := .ty "bool") (by rfl) T.m_bool boot_bool rfl) pa_nil)))) (pe_one (pe_cmpR (op_cmp rfl (hu65 hr) .eq) (pv 0) (pv 1) (by first | exact nomark _ | rfl))))))) pss_nil)
  (pss_cons (ps_if (pt_truthK (K := K) rfl (pe_callB (call_isiK (K := K) rfl) (by rfl) T.m_isinstance (by decide +kernel) (pa_cons (pv 1) (pa_cons (pe_bltn (v := .ty "str") (by rfl) T.m_str boot_str rfl) pa_nil))) (by intro _; rfl)) (pss_one (ps_ret (pe_andT (pe_callB (call_isiK (K := K) rfl) (by rfl) T.m_isinstance (by decide +kernel) (pa_cons (pv 0) (pa_cons (pe_bltn (v := .ty "str") (by rfl) T.m_str boot_str rfl) pa_nil))) (pe_one (pe_cmpR (op_cmp rfl (hu65 hr) .eq) (pv 0) (pv 1) (by first | exact nomark _ | rfl)))))) pss_nil)
  (pss_cons (ps_if (PW.pt (pw_and (pt_truthK (K := K) rfl (pe_callB (call_isiK (K := K) rfl) (by rfl) T.m_isinstance (by decide +kernel) (pa_cons (pv 1) (pa_cons (pe_bltn (v := .ty "tuple") (by rfl) T.m_tuple boot_tuple rfl) pa_nil))) (by intro _; rfl)) (pw_and1 (pt_not (pt_truthK (K := K) rfl (pe_callB (call_isiK (K := K) rfl) (by rfl) T.m_isinstance (by decide +kernel) (pa_cons (pv 0) (pa_cons (pe_bltn (v := .ty "tuple") (by rfl) T.m_tuple boot_tuple rfl) pa_nil))) (by intro _; rfl)))))) (pss_one (ps_ret pe_bl)) pss_nil)
  (pss_cons (ps_if (PW.pt (pw_and (pt_truthK (K := K) rfl (pe_callB (call_isiK (K := K) rfl) (by rfl) T.m_isinstance (by decide +kernel) (pa_cons (pv 1) (pa_cons (pe_bltn (v := .ty "list") (by rfl) T.m_list boot_list rfl) pa_nil))) (by intro _; rfl)) (pw_and1 (pt_not (pt_truthK (K := K) rfl (pe_callB (call_isiK (K := K) rfl) (by rfl) T.m_isinstance (by decide +kernel) (pa_cons (pv 0) (pa_cons (pe_bltn (v := .ty "list") (by rfl) T.m_list boot_list rfl) pa_nil))) (by intro _; rfl)))))) (pss_one (ps_ret pe_bl)) pss_nil)
  (pss_cons (ps_if (pt_cmpR (op_cmp rfl (hu65 hr) .ne) (pe_callB (call_lenK (K := K) rfl) (by rfl) T.m_len PySem.boot_len (pa_cons (pv 0) pa_nil)) (pe_callB (call_lenK (K := K) rfl) (by rfl) T.m_len PySem.boot_len (pa_cons (pv 1) pa_nil)) (by first | exact nomark _ | rfl)) (pss_one (ps_ret pe_bl)) pss_nil)
  (pss_cons (ps_for PassesOwn.never rfl (pi_range1 (by rfl) T.m_range (pa_cons (pe_callB (call_lenK (K := K) rfl) (by rfl) T.m_len PySem.boot_len (pa_cons (pv 1) pa_nil)) pa_nil)) (pg_name (i := 2) sc__law_same.nd rfl (by first | exact Or.inl rfl | exact Or.inr rfl)) (pss_one (ps_if (pt_not (pt_truthK (K := K) rfl (pe_call L.c__law_same hr (by rfl) T.g__law_same T.F__law_same.kp T.b__law_same .nil pass0 (pa_cons (pe_ix (ix_any rfl (hu65 hr)) (pv 0) (pv 2) (fun _ _ => rfl)) (pa_cons (pe_ix (ix_any rfl (hu65 hr)) (pv 1) (pv 2) (fun _ _ => rfl)) pa_nil))) (by intro _; rfl))) (pss_one (ps_ret pe_bl)) pss_nil)))
  (pss_one (ps_ret pe_bl))))))))))
theorem d__law_name (T : Txt w K mg A FD V0) {n : Nat} (L : Lv P w K mg base A FD n) : FnOk P w K mg base CX0 (n + 1 + 1) (A 13) (FD 13) ["script", "state"] (spV K (clV P w A) (xcV A) (tb f__law_name).args (run tb (n + 1) f__law_name)) := by
  refine fun_V (g := f__law_name) (V0 := V0) T.F__law_name sc__law_name rfl rfl (fun cdv Ar outer s H E hr => ?_)
  show PSs _ _ (dS _ body__law_name _)
  exact (pss_cons (ps_set (i := 2) sc__law_name.nd rfl (by first | exact Or.inl rfl | exact Or.inr rfl) pe_str)
  (pss_cons (ps_set (i := 3) sc__law_name.nd rfl (by first | exact Or.inl rfl | exact Or.inr rfl) (pe_ix (ix_any rfl (hu65 hr)) (pv 2) (pe_call L.c__law_digit hr (by rfl) T.g__law_digit T.F__law_digit.kp T.b__law_digit .nil pass0 (pa_cons (pv 0) (pa_cons (pv 1) (pa_cons pe_int pa_nil)))) (fun _ _ => rfl)))
  (pss_cons (ps_for PassesOwn.never rfl (pi_range1 (by rfl) T.m_range (pa_cons (pe_call L.c__law_digit hr (by rfl) T.g__law_digit T.F__law_digit.kp T.b__law_digit .nil pass0 (pa_cons (pv 0) (pa_cons (pv 1) (pa_cons pe_int pa_nil)))) pa_nil)) (pg_name (i := 4) sc__law_name.nd rfl (by first | exact Or.inl rfl | exact Or.inr rfl)) (pss_one (ps_set (i := 3) sc__law_name.nd rfl (by first | exact Or.inl rfl | exact Or.inr rfl) (pe_op (op_bin rfl .add) (pv 3) (pe_ix (ix_any rfl (hu65 hr)) (pe_op (op_bin rfl .add) (pv 2) pe_str) (pe_call L.c__law_digit hr (by rfl) T.g__law_digit T.F__law_digit.kp T.b__law_digit .nil pass0 (pa_cons (pv 0) (pa_cons (pv 1) (pa_cons pe_int pa_nil)))) (fun _ _ => rfl))))))
  (pss_one (ps_ret (pv 3))))))
theorem d__law_names (T : Txt w K mg A FD V0) {n : Nat} (L : Lv P w K mg base A FD n) : FnOk P w K mg base CX0 (n + 1 + 1) (A 14) (FD 14) ["script", "state"] (spV K (clV P w A) (xcV A) (tb f__law_names).args (run tb (n + 1) f__law_names)) := by
  refine fun_V (g := f__law_names) (V0 := V0) T.F__law_names sc__law_names rfl rfl (fun cdv Ar outer s H E hr => ?_)
  show PSs _ _ (dS _ body__law_names _)
  exact (pss_cons (ps_set (i := 2) sc__law_names.nd rfl (by first | exact Or.inl rfl | exact Or.inr rfl) (pe_lst pa_nil))
  (pss_cons (ps_for PassesOwn.never rfl (pi_range1 (by rfl) T.m_range (pa_cons (pe_call L.c__law_digit hr (by rfl) T.g__law_digit T.F__law_digit.kp T.b__law_digit .nil pass0 (pa_cons (pv 0) (pa_cons (pv 1) (pa_cons pe_int pa_nil)))) pa_nil)) (pg_name (i := 3) sc__law_names.nd rfl (by first | exact Or.inl rfl | exact Or.inr rfl)) (pss_cons (ps_set (i := 4) sc__law_names.nd rfl (by first | exact Or.inl rfl | exact Or.inr rfl) (pe_call L.c__law_name hr (by rfl) T.g__law_name T.F__law_name.kp T.b__law_name .nil pass0 (pa_cons (pv 0) (pa_cons (pv 1) pa_nil))))
  (pss_one (ps_if (PW.pt (pw_or (pt_cmpR (op_cmp rfl (hu65 hr) .isin) (pv 4) (pv 2) (by first | exact nomark _ | rfl)) (pw_or1 (pt_cmpR (op_cmp rfl (hu65 hr) .eq) (pe_call L.c__law_digit hr (by rfl) T.g__law_digit T.F__law_digit.kp T.b__law_digit .nil pass0 (pa_cons (pv 0) (pa_cons (pv 1) (pa_cons pe_int pa_nil)))) pe_int (by first | exact nomark _ | rfl))))) (pss_one (ps_expr (pe_bmE (K := K) rfl PySem.F.plainAttrs_list PySem.F.slot_list_append PySem.F.type_list_append mt_append (pv 2) (pa_cons pe_non pa_nil)))) (pss_one (ps_expr (pe_bmE (K := K) rfl PySem.F.plainAttrs_list PySem.F.slot_list_append PySem.F.type_list_append mt_append (pv 2) (pa_cons (pv 4) pa_nil))))))))
  (pss_one (ps_ret (pe_callTy (call_tuple_ofK (K := K) rfl) (by rfl) T.m_tuple (by decide +kernel) (pa_cons (pv 2) pa_nil))))))
theorem d__law_piece (T : Txt w K mg A FD V0) {n : Nat} (L : Lv P w K mg base A FD n) : FnOk P w K mg base CX0 (n + 1 + 1) (A 15) (FD 15) ["script", "state", "names"] (spV K (clV P w A) (xcV A) (tb f__law_piece).args (run tb (n + 1) f__law_piece)) := by
  refine fun_V (g := f__law_piece) (V0 := V0) T.F__law_piece sc__law_piece rfl rfl (fun cdv Ar outer s H E hr => ?_)
  show PSs _ _ (dS _ body__law_piece _)
  exact (pss_cons (ps_set (i := 3) sc__law_piece.nd rfl (by first | exact Or.inl rfl | exact Or.inr rfl) (pe_call L.c__law_digit hr (by rfl) T.g__law_digit T.F__law_digit.kp T.b__law_digit .nil pass0 (pa_cons (pv 0) (pa_cons (pv 1) (pa_cons pe_int pa_nil)))))
  (pss_cons (ps_if (PW.pt (pw_and (pt_cmpR (op_cmp rfl (hu65 hr) .eq) (pv 3) pe_int (by first | exact nomark _ | rfl)) (pw_and1 (pt_cmpR (op_cmp rfl (hu65 hr) .gt) (pe_callB (call_lenK (K := K) rfl) (by rfl) T.m_len PySem.boot_len (pa_cons (pv 2) pa_nil)) pe_int (by first | exact nomark _ | rfl))))) (pss_cons (ps_set (i := 4) sc__law_piece.nd rfl (by first | exact Or.inl rfl | exact Or.inr rfl) (pe_call L.c__law_digit hr (by rfl) T.g__law_digit T.F__law_digit.kp T.b__law_digit .nil pass0 (pa_cons (pv 0) (pa_cons (pv 1) (pa_cons (pe_callB (call_lenK (K := K) rfl) (by rfl) T.m_len PySem.boot_len (pa_cons (pv 2) pa_nil)) pa_nil)))))
  (pss_one (ps_ret (pe_tup (pa_cons (pe_op (op_bin rfl .add) (pe_op (op_bin rfl .add) pe_str (pe_callTy (call_strK (K := K) rfl) (by rfl) T.m_str (by decide +kernel) (pa_cons (pv 4) pa_nil))) pe_str) (pa_cons (pe_tup (pa_cons pe_str (pa_cons (pv 4) pa_nil))) pa_nil)))))) pss_nil)
  (pss_cons (ps_if (PW.pt (pw_and (pt_cmpR (op_cmp rfl (hu65 hr) .eq) (pv 3) pe_int (by first | exact nomark _ | rfl)) (pw_and1 (pt_cmpR (op_cmp rfl (hu65 hr) .gt) (pe_callB (call_lenK (K := K) rfl) (by rfl) T.m_len PySem.boot_len (pa_cons (pv 2) pa_nil)) pe_int (by first | exact nomark _ | rfl))))) (pss_cons (ps_set (i := 4) sc__law_piece.nd rfl (by first | exact Or.inl rfl | exact Or.inr rfl) (pe_call L.c__law_digit hr (by rfl) T.g__law_digit T.F__law_digit.kp T.b__law_digit .nil pass0 (pa_cons (pv 0) (pa_cons (pv 1) (pa_cons (pe_callB (call_lenK (K := K) rfl) (by rfl) T.m_len PySem.boot_len (pa_cons (pv 2) pa_nil)) pa_nil)))))
  (pss_one (ps_if (pt_cmpR (op_cmp rfl (hu65 hr) .notn) (pe_ix (ix_any rfl (hu65 hr)) (pv 2) (pv 4) (fun _ _ => rfl)) pe_non (by first | exact nomark _ | rfl)) (pss_one (ps_ret (pe_tup (pa_cons (pe_op (op_bin rfl .add) (pe_op (op_bin rfl .add) pe_str (pe_ix (ix_any rfl (hu65 hr)) (pv 2) (pv 4) (fun _ _ => rfl))) pe_str) (pa_cons (pe_tup (pa_cons pe_str (pa_cons (pv 4) pa_nil))) pa_nil))))) pss_nil))) pss_nil)
  (pss_cons (ps_if (pt_cmpR (op_cmp rfl (hu65 hr) .lt) (pv 3) pe_int (by first | exact nomark _ | rfl)) (pss_one (ps_ret (pe_ix (ix_any rfl (hu65 hr)) (pe_lst (pa_cons (pe_tup (pa_cons pe_str (pa_cons (pe_tup (pa_cons pe_str (pa_cons pe_str pa_nil))) pa_nil))) (pa_cons (pe_tup (pa_cons pe_str (pa_cons (pe_tup (pa_cons pe_str pa_nil)) pa_nil))) (pa_cons (pe_tup (pa_cons pe_str (pa_cons (pe_tup (pa_cons pe_str pa_nil)) pa_nil))) (pa_cons (pe_tup (pa_cons pe_str (pa_cons (pe_tup (pa_cons pe_str pa_nil)) pa_nil))) pa_nil))))) (pv 3) (fun _ _ => rfl)))) pss_nil)
  (pss_cons (ps_set (i := 5) sc__law_piece.nd rfl (by first | exact Or.inl rfl | exact Or.inr rfl) pe_str)
  (pss_cons (ps_set (i := 5) sc__law_piece.nd rfl (by first | exact Or.inl rfl | exact Or.inr rfl) (pe_op (op_bin rfl .add) (pv 5) pe_str))
  (pss_cons (ps_set (i := 6) sc__law_piece.nd rfl (by first | exact Or.inl rfl | exact Or.inr rfl) (pe_ix (ix_any rfl (hu65 hr)) (pv 5) (pe_call L.c__law_digit hr (by rfl) T.g__law_digit T.F__law_digit.kp T.b__law_digit .nil pass0 (pa_cons (pv 0) (pa_cons (pv 1) (pa_cons (pe_callB (call_lenK (K := K) rfl) (by rfl) T.m_len PySem.boot_len (pa_cons (pv 5) pa_nil)) pa_nil)))) (fun _ _ => rfl)))
  (pss_one (ps_ret (pe_tup (pa_cons (pv 6) (pa_cons (pe_tup (pa_cons pe_str (pa_cons (pv 6) pa_nil))) pa_nil))))))))))))
theorem d__law_wrong (T : Txt w K mg A FD V0) {n : Nat} (L : Lv P w K mg base A FD n) : FnOk P w K mg base CX0 (n + 1 + 1) (A 16) (FD 16) ["script", "state", "names"] (spV K (clV P w A) (xcV A) (tb f__law_wrong).args (run tb (n + 1) f__law_wrong)) := by
  refine fun_V (g := f__law_wrong) (V0 := V0) T.F__law_wrong sc__law_wrong rfl rfl (fun cdv Ar outer s H E hr => ?_)
  show PSs _ _ (dS _ body__law_wrong _)
  exact (pss_cons (ps_set (i := 3) sc__law_wrong.nd rfl (by first | exact Or.inl rfl | exact Or.inr rfl) (pe_call L.c__law_digit hr (by rfl) T.g__law_digit T.F__law_digit.kp T.b__law_digit .nil pass0 (pa_cons (pv 0) (pa_cons (pv 1) (pa_cons pe_int pa_nil)))))
  (pss_cons (ps_set (i := 4) sc__law_wrong.nd rfl (by first | exact Or.inl rfl | exact Or.inr rfl) (pe_callTy (call_strK (K := K) rfl) (by rfl) T.m_str (by decide +kernel) (pa_cons (pe_op (op_bin rfl .add) (pe_callB (call_lenK (K := K) rfl) (by rfl) T.m_len PySem.boot_len (pa_cons (pv 2) pa_nil)) (pe_call L.c__law_digit hr (by rfl) T.g__law_digit T.F__law_digit.kp T.b__law_digit .nil pass0 (pa_cons (pv 0) (pa_cons (pv 1) (pa_cons pe_int pa_nil))))) pa_nil)))
  (pss_cons (ps_if (pt_cmpR (op_cmp rfl (hu65 hr) .eq) (pv 3) pe_int (by first | exact nomark _ | rfl)) (pss_one (ps_ret (pe_ix (ix_any rfl (hu65 hr)) (pe_lst (pa_cons pe_str (pa_cons pe_str (pa_cons pe_str (pa_cons pe_str (pa_cons pe_str (pa_cons pe_str pa_nil))))))) (pe_call L.c__law_digit hr (by rfl) T.g__law_digit T.F__law_digit.kp T.b__law_digit .nil pass0 (pa_cons (pv 0) (pa_cons (pv 1) (pa_cons pe_int pa_nil)))) (fun _ _ => rfl)))) pss_nil)
  (pss_cons (ps_if (pt_cmpR (op_cmp rfl (hu65 hr) .eq) (pv 3) pe_int (by first | exact nomark _ | rfl)) (pss_one (ps_ret (pe_op (op_bin rfl .add) (pe_op (op_bin rfl .add) pe_str (pv 4)) pe_str))) pss_nil)
  (pss_cons (ps_if (pt_cmpR (op_cmp rfl (hu65 hr) .eq) (pv 3) pe_int (by first | exact nomark _ | rfl)) (pss_one (ps_ret (pe_op (op_bin rfl .add) (pe_op (op_bin rfl .add) pe_str (pe_callTy (call_strK (K := K) rfl) (by rfl) T.m_str (by decide +kernel) (pa_cons (pe_call L.c__law_digit hr (by rfl) T.g__law_digit T.F__law_digit.kp T.b__law_digit .nil pass0 (pa_cons (pv 0) (pa_cons (pv 1) (pa_cons pe_int pa_nil)))) pa_nil))) pe_str))) pss_nil)
  (pss_cons (ps_if (pt_cmpR (op_cmp rfl (hu65 hr) .eq) (pv 3) pe_int (by first | exact nomark _ | rfl)) (pss_one (ps_ret pe_str)) pss_nil)
  (pss_cons (ps_if (pt_cmpR (op_cmp rfl (hu65 hr) .eq) (pv 3) pe_int (by first | exact nomark _ | rfl)) (pss_one (ps_ret (pe_op (op_bin rfl .add) (pe_op (op_bin rfl .add) pe_str (pe_join pe_str (pe_lc (own := [("name", 5)]) (by rfl) sc__law_wrong.nd (pi_all rfl (pv 2)) (blkOk_by (own := [("name", 5)]) (N := ["script", "state", "names", "kind", "far", "name"]) (sc := defScope s__law_wrong) (by decide +kernel)) (fun _ _ _ _ _ => (pg_name (i := 5) sc__law_wrong.nd rfl (by first | exact Or.inl rfl | exact Or.inr rfl))) (fun _ _ _ _ _ => (pts_one (pt_cmpR (op_cmp rfl (hu65 hr) .notn) (pv 5) pe_non (by first | exact nomark _ | rfl)))) (fun _ _ _ _ _ => (pe_op (op_bin rfl .add) pe_str (pv 5)))))) pe_str))) pss_nil)
  (pss_cons (ps_if (pt_cmpR (op_cmp rfl (hu65 hr) .eq) (pv 3) pe_int (by first | exact nomark _ | rfl)) (pss_one (ps_ret pe_str)) pss_nil)
  (pss_cons (ps_if (pt_cmpR (op_cmp rfl (hu65 hr) .eq) (pv 3) pe_int (by first | exact nomark _ | rfl)) (pss_one (ps_ret pe_str)) pss_nil)
  (pss_one (ps_ret pe_str)))))))))))
theorem d__law_joined (T : Txt w K mg A FD V0) {n : Nat} (L : Lv P w K mg base A FD n) : FnOk P w K mg base CX0 (n + 1 + 1) (A 17) (FD 17) ["parts"] (spV K (clV P w A) (xcV A) (tb f__law_joined).args (run tb (n + 1) f__law_joined)) := by
  refine fun_V (g := f__law_joined) (V0 := V0) T.F__law_joined sc__law_joined rfl rfl (fun cdv Ar outer s H E hr => ?_)
  show PSs _ _ (dS _ body__law_joined _)
  exact (pss_cons (ps_set (i := 1) sc__law_joined.nd rfl (by first | exact Or.inl rfl | exact Or.inr rfl) (pe_lst pa_nil))
  (pss_cons (ps_for PassesOwn.never rfl (pi_all rfl (pv 0)) (pg_name (i := 2) sc__law_joined.nd rfl (by first | exact Or.inl rfl | exact Or.inr rfl)) (pss_one (ps_if (PW.pt (pw_and (pt_cmpR (op_cmp rfl (hu65 hr) .eq) (pe_ix (ix_any rfl (hu65 hr)) (pv 2) pe_int (fun _ _ => rfl)) pe_str (by first | exact nomark _ | rfl)) (pw_and (pt_cmpR (op_cmp rfl (hu65 hr) .gt) (pe_callB (call_lenK (K := K) rfl) (by rfl) T.m_len PySem.boot_len (pa_cons (pv 1) pa_nil)) pe_int (by first | exact nomark _ | rfl)) (pw_and1 (pt_cmpR (op_cmp rfl (hu65 hr) .eq) (pe_ix (ix_any rfl (hu65 hr)) (pe_ix (ix_any rfl (hu65 hr)) (pv 1) (pe_un un_neg pe_int) (fun _ _ => rfl)) pe_int (fun _ _ => rfl)) pe_str (by first | exact nomark _ | rfl)))))) (pss_one (PS.or (ps_asg (pe_tup (pa_cons pe_str (pa_cons (pe_op (op_bin rfl .add) (pe_ix (ix_any rfl (hu65 hr)) (pe_ix (ix_any rfl (hu65 hr)) (pv 1) (pe_un un_neg pe_int) (fun _ _ => rfl)) pe_int (fun _ _ => rfl)) (pe_ix (ix_any rfl (hu65 hr)) (pv 2) pe_int (fun _ _ => rfl))) pa_nil))) (pg_sub (pv 1) (pe_un un_neg pe_int) set_list)) (ps_dput (hu1 hr) (pv 1) (pe_un un_neg pe_int) (pe_tup (pa_cons pe_str (pa_cons (pe_op (op_bin rfl .add) (pe_ix (ix_any rfl (hu65 hr)) (pe_ix (ix_any rfl (hu65 hr)) (pv 1) (pe_un un_neg pe_int) (fun _ _ => rfl)) pe_int (fun _ _ => rfl)) (pe_ix (ix_any rfl (hu65 hr)) (pv 2) pe_int (fun _ _ => rfl))) pa_nil))) rfl))) (pss_one (ps_expr (pe_bmE (K := K) rfl PySem.F.plainAttrs_list PySem.F.slot_list_append PySem.F.type_list_append mt_append (pv 1) (pa_cons (pv 2) pa_nil)))))))
  (pss_one (ps_ret (pv 1)))))
theorem d__law_column (T : Txt w K mg A FD V0) {n : Nat} (L : Lv P w K mg base A FD n) : FnOk P w K mg base CX0 (n + 1 + 1) (A 18) (FD 18) ["template", "names"] (spV K (clV P w A) (xcV A) (tb f__law_column).args (run tb (n + 1) f__law_column)) := by
  refine fun_V (g := f__law_column) (V0 := V0) T.F__law_column sc__law_column rfl rfl (fun cdv Ar outer s H E hr => ?_)
  show PSs _ _ (dS _ body__law_column _)
  exact (pss_cons (ps_facts (ps_try_as (i := 2) (ts := tsX (xcV A) (some 2) 3 [(0, [("column", false)], (.f "column"))]) (Wout := fun _ _ _ _ => False) rfl rfl sc__law_column.nd rfl rfl ⟨by rfl, by decide, .inl T.gx_FirstwayError⟩ takes0 (fun W pn xe tk _ => (pss_one (ps_expr (pe_callSD L.c_read_template hr (by rfl) T.g_read_template T.F_read_template.kp T.b_read_template .nil (fun σ => passAt tk σ) (pa_cons (pv 0) (pa_cons (pv 1) pa_nil)))))) (fun a oe cls d pn hz hf => pss_tsX (by
      intro c ty sx hl hc
      by_cases h0 : c = 0
      · subst h0
        cases hl
        subst hc
        exact pss_imp (pss_cons (ps_if (PW.pt (pw_and (pt_truthK (K := K) rfl (pe_callB (call_isEd T.ec_TemplateError hz hf) (by rfl) T.m_isinstance (by decide +kernel) (pa_cons (pv 2) (pa_cons (pe_glob (v := .ref (A 3)) (by rfl) T.gx_TemplateError rfl) pa_nil))) (by intro _; rfl)) (pw_and (pt_truthK (K := K) rfl (pe_callB (call_isEd T.ec_TemplateError hz hf) (by rfl) T.m_isinstance (by decide +kernel) (pa_cons (pv 2) (pa_cons (pe_bltn (v := .ty "ValueError") (by rfl) T.m_ValueError (by decide +kernel) rfl) pa_nil))) (by intro _; rfl)) (pw_and1 (pt_not (pt_truthK (K := K) rfl (pe_callB (call_isEd T.ec_TemplateError hz hf) (by rfl) T.m_isinstance (by decide +kernel) (pa_cons (pv 2) (pa_cons (pe_glob (v := .ref (A 2)) (by rfl) T.gx_CountError rfl) pa_nil))) (by intro _; rfl))))))) (pss_one (ps_ret (pe_xf T.xf_TemplateError T.nf_TemplateError_column hz hf (pv 2)))) pss_bad) pss_bad) (fun D σ H ⟨hs, hm, ht, q⟩ => (tfT (bt_and (bt_of (bh_isEd (p := ("column", false)) (v := .ref (A 3)) (hs _ rfl) (ht _ (by simp)) (fun _ h => h) T.kit_TemplateError_TemplateError)) (bt_and (bt_of (bh_isEd (p := ("column", false)) (v := .ty "ValueError") (hs _ rfl) (ht _ (by simp)) (fun _ h => h) T.kit_TemplateError_ValueError)) (bt_not (bt_of (bh_isEd (p := ("column", false)) (v := .ref (A 2)) (hs _ rfl) (ht _ (by simp)) (fun _ h => h) T.kit_TemplateError_CountError))))) (q _ rfl)))
      exact absurd hl (by simp [List.lookup, beq_false_of_ne h0])))) (fun c q hl => by
      by_cases h0 : c = 0
      · subst h0; exact T.xm_TemplateError_FirstwayError
      exact absurd hl (by simp [List.lookup, beq_false_of_ne h0])))
  (pss_one (ps_ret pe_non)))
theorem d_law (T : Txt w K mg A FD V0) {n : Nat} (L : Lv P w K mg base A FD n) : FnOk P w K mg base (L2.CX P w) (n + 1 + 1) (A 19) (FD 19) ["script"] (spV K (clV P w A) (xcV A) (tb f_law).args (run tb (n + 1) f_law)) := by
  refine fun_VX (g := f_law) (V0 := V0) T.F_law sc_law rfl rfl (fun cdv Ar outer s H E hr => ?_)
  show PSs _ _ (dS _ body_law _)
  exact (pss_cons (ps_set (i := 1) sc_law.nd rfl (by first | exact Or.inl rfl | exact Or.inr rfl) (pe_lst (pa_cons pe_int (pa_cons pe_int pa_nil))))
  (pss_cons (ps_set (i := 2) sc_law.nd rfl (by first | exact Or.inl rfl | exact Or.inr rfl) (pe_call L.c__law_names hr (by rfl) T.g__law_names T.F__law_names.kp T.b__law_names .nil pass0 (pa_cons (pv 0) (pa_cons (pv 1) pa_nil))))
  (pss_cons (ps_if (pt_cmpR (op_cmp rfl (hu65 hr) .eq) (pe_call L.c__law_digit hr (by rfl) T.g__law_digit T.F__law_digit.kp T.b__law_digit .nil pass0 (pa_cons (pv 0) (pa_cons (pv 1) (pa_cons pe_int pa_nil)))) pe_int (by first | exact nomark _ | rfl)) (pss_one (ps_set (i := 2) sc_law.nd rfl (by first | exact Or.inl rfl | exact Or.inr rfl) (pe_op (op_bin rfl .add) (pv 2) (pe_callTy (call_tuple_ofK (K := K) rfl) (by rfl) T.m_tuple (by decide +kernel) (pa_cons (pe_lc (own := [("k", 10)]) (by rfl) sc_law.nd (pi_range1 (by rfl) T.m_range (pa_cons (pe_op (op_bin rfl .add) pe_int (pe_call L.c__law_digit hr (by rfl) T.g__law_digit T.F__law_digit.kp T.b__law_digit .nil pass0 (pa_cons (pv 0) (pa_cons (pv 1) (pa_cons pe_int pa_nil))))) pa_nil)) (blkOk_by (own := [("k", 10)]) (N := ["script", "state", "names", "pieces", "template", "at", "before", "behind", "wrong", "ends", "k", "piece", "end"]) (sc := defScope s_law) (by decide +kernel)) (fun _ _ _ _ _ => (pg_name (i := 10) sc_law.nd rfl (by first | exact Or.inl rfl | exact Or.inr rfl))) (fun _ _ _ _ _ => pts_nil) (fun _ _ _ _ _ => pe_non)) pa_nil))))) pss_nil)
  (pss_cons (ps_setLc (i := 3) (own := [("k", 10)]) (by rfl) sc_law.nd rfl rfl (sw_true rfl rfl rfl (by decide +kernel)) (pi_range1 (by rfl) T.m_range (pa_cons (pe_call L.c__law_digit hr (by rfl) T.g__law_digit T.F__law_digit.kp T.b__law_digit .nil pass0 (pa_cons (pv 0) (pa_cons (pv 1) (pa_cons pe_int pa_nil)))) pa_nil)) (blkOk_by (own := [("k", 10)]) (N := ["script", "state", "names", "pieces", "template", "at", "before", "behind", "wrong", "ends", "k", "piece", "end"]) (sc := defScope s_law) (by decide +kernel)) (fun _ _ _ _ _ => (pg_name (i := 10) sc_law.nd rfl (by first | exact Or.inl rfl | exact Or.inr rfl))) (fun _ _ _ _ _ => pts_nil) (fun _ _ _ _ _ => (pe_call L.c__law_piece hr (by rfl) T.g__law_piece T.F__law_piece.kp T.b__law_piece .nil pass0 (pa_cons (pv 0) (pa_cons (pv 1) (pa_cons (pv 2) pa_nil))))))
  (pss_cons (ps_set (i := 4) sc_law.nd rfl (by first | exact Or.inl rfl | exact Or.inr rfl) (pe_join pe_str (pe_lc (own := [("piece", 11)]) (by rfl) sc_law.nd (pi_all rfl (pv 3)) (blkOk_by (own := [("piece", 11)]) (N := ["script", "state", "names", "pieces", "template", "at", "before", "behind", "wrong", "ends", "k", "piece", "end"]) (sc := defScope s_law) (by decide +kernel)) (fun _ _ _ _ _ => (pg_name (i := 11) sc_law.nd rfl (by first | exact Or.inl rfl | exact Or.inr rfl))) (fun _ _ _ _ _ => pts_nil) (fun _ _ _ _ _ => (pe_ix (ix_any rfl (hu65 hr)) (pv 11) pe_int (fun _ _ => rfl))))))
  (pss_cons (ps_if (pt_not (pt_truthK (K := K) rfl (pe_call L.c__law_same hr (by rfl) T.g__law_same T.F__law_same.kp T.b__law_same .nil pass0 (pa_cons (pe_call L.c_read_template hr (by rfl) T.g_read_template T.F_read_template.kp T.b_read_template .nil (passX (takes_of rfl rfl rfl rfl) (fun _ _ _ _ h => h)) (pa_cons (pv 4) (pa_cons (pv 2) pa_nil))) (pa_cons (pe_call L.c__law_joined hr (by rfl) T.g__law_joined T.F__law_joined.kp T.b__law_joined .nil pass0 (pa_cons (pe_lc (own := [("piece", 11)]) (by rfl) sc_law.nd (pi_all rfl (pv 3)) (blkOk_by (own := [("piece", 11)]) (N := ["script", "state", "names", "pieces", "template", "at", "before", "behind", "wrong", "ends", "k", "piece", "end"]) (sc := defScope s_law) (by decide +kernel)) (fun _ _ _ _ _ => (pg_name (i := 11) sc_law.nd rfl (by first | exact Or.inl rfl | exact Or.inr rfl))) (fun _ _ _ _ _ => pts_nil) (fun _ _ _ _ _ => (pe_ix (ix_any rfl (hu65 hr)) (pv 11) pe_int (fun _ _ => rfl)))) pa_nil)) pa_nil))) (by intro _; rfl))) (pss_one (ps_ret pe_bl)) pss_nil)
  (pss_cons (ps_if (pt_cmpR (op_cmp rfl (hu65 hr) .eq) (pe_call L.c__law_digit hr (by rfl) T.g__law_digit T.F__law_digit.kp T.b__law_digit .nil pass0 (pa_cons (pv 0) (pa_cons (pv 1) (pa_cons pe_int pa_nil)))) pe_int (by first | exact nomark _ | rfl)) (pss_one (ps_ret pe_bl)) pss_nil)
  (pss_cons (ps_set (i := 5) sc_law.nd rfl (by first | exact Or.inl rfl | exact Or.inr rfl) (pe_call L.c__law_digit hr (by rfl) T.g__law_digit T.F__law_digit.kp T.b__law_digit .nil pass0 (pa_cons (pv 0) (pa_cons (pv 1) (pa_cons (pe_op (op_bin rfl .add) (pe_callB (call_lenK (K := K) rfl) (by rfl) T.m_len PySem.boot_len (pa_cons (pv 3) pa_nil)) pe_int) pa_nil)))))
  (pss_cons (ps_set (i := 6) sc_law.nd rfl (by first | exact Or.inl rfl | exact Or.inr rfl) (pe_join pe_str (pe_lc (own := [("piece", 11)]) (by rfl) sc_law.nd (pi_all rfl (pe_slice (sl_any rfl) (pv 3) po_none (po_some (pv 5)))) (blkOk_by (own := [("piece", 11)]) (N := ["script", "state", "names", "pieces", "template", "at", "before", "behind", "wrong", "ends", "k", "piece", "end"]) (sc := defScope s_law) (by decide +kernel)) (fun _ _ _ _ _ => (pg_name (i := 11) sc_law.nd rfl (by first | exact Or.inl rfl | exact Or.inr rfl))) (fun _ _ _ _ _ => pts_nil) (fun _ _ _ _ _ => (pe_ix (ix_any rfl (hu65 hr)) (pv 11) pe_int (fun _ _ => rfl))))))
  (pss_cons (ps_set (i := 7) sc_law.nd rfl (by first | exact Or.inl rfl | exact Or.inr rfl) (pe_join pe_str (pe_lc (own := [("piece", 11)]) (by rfl) sc_law.nd (pi_all rfl (pe_slice (sl_any rfl) (pv 3) (po_some (pv 5)) po_none)) (blkOk_by (own := [("piece", 11)]) (N := ["script", "state", "names", "pieces", "template", "at", "before", "behind", "wrong", "ends", "k", "piece", "end"]) (sc := defScope s_law) (by decide +kernel)) (fun _ _ _ _ _ => (pg_name (i := 11) sc_law.nd rfl (by first | exact Or.inl rfl | exact Or.inr rfl))) (fun _ _ _ _ _ => pts_nil) (fun _ _ _ _ _ => (pe_ix (ix_any rfl (hu65 hr)) (pv 11) pe_int (fun _ _ => rfl))))))
  (pss_cons (ps_set (i := 8) sc_law.nd rfl (by first | exact Or.inl rfl | exact Or.inr rfl) (pe_call L.c__law_wrong hr (by rfl) T.g__law_wrong T.F__law_wrong.kp T.b__law_wrong .nil pass0 (pa_cons (pv 0) (pa_cons (pv 1) (pa_cons (pv 2) pa_nil)))))
  (pss_cons (ps_if (pt_not (pt_truthK (K := K) rfl (pe_call L.c__law_same hr (by rfl) T.g__law_same T.F__law_same.kp T.b__law_same .nil pass0 (pa_cons (pe_call L.c__law_column hr (by rfl) T.g__law_column T.F__law_column.kp T.b__law_column .nil pass0 (pa_cons (pe_op (op_bin rfl .add) (pe_op (op_bin rfl .add) (pv 6) (pv 8)) (pv 7)) (pa_cons (pv 2) pa_nil))) (pa_cons (pe_op (op_bin rfl .add) (pe_callB (call_lenK (K := K) rfl) (by rfl) T.m_len PySem.boot_len (pa_cons (pv 6) pa_nil)) pe_int) pa_nil))) (by intro _; rfl))) (pss_one (ps_ret pe_bl)) pss_nil)
  (pss_cons (ps_set (i := 9) sc_law.nd rfl (by first | exact Or.inl rfl | exact Or.inr rfl) (pe_lst (pa_cons (pe_op (op_bin rfl .add) (pv 6) pe_str) (pa_cons (pe_op (op_bin rfl .add) (pv 6) pe_str) (pa_cons (pe_op (op_bin rfl .add) (pe_op (op_bin rfl .add) (pv 6) pe_str) (pe_callTy (call_strK (K := K) rfl) (by rfl) T.m_str (by decide +kernel) (pa_cons (pe_callB (call_lenK (K := K) rfl) (by rfl) T.m_len PySem.boot_len (pa_cons (pv 2) pa_nil)) pa_nil))) (pa_cons (pe_op (op_bin rfl .add) (pv 6) pe_str) pa_nil))))))
  (pss_one (ps_ret (pe_cmpR (op_cmp rfl (hu65 hr) .eq) (pe_lc (own := [("end", 12)]) (by rfl) sc_law.nd (pi_all rfl (pv 9)) (blkOk_by (own := [("end", 12)]) (N := ["script", "state", "names", "pieces", "template", "at", "before", "behind", "wrong", "ends", "k", "piece", "end"]) (sc := defScope s_law) (by decide +kernel)) (fun _ _ _ _ _ => (pg_name (i := 12) sc_law.nd rfl (by first | exact Or.inl rfl | exact Or.inr rfl))) (fun _ _ _ _ _ => pts_nil) (fun _ _ _ _ _ => (pe_call L.c__law_column hr (by rfl) T.g__law_column T.F__law_column.kp T.b__law_column .nil pass0 (pa_cons (pv 12) (pa_cons (pv 2) pa_nil))))) (pe_lc (own := [("end", 12)]) (by rfl) sc_law.nd (pi_all rfl (pv 9)) (blkOk_by (own := [("end", 12)]) (N := ["script", "state", "names", "pieces", "template", "at", "before", "behind", "wrong", "ends", "k", "piece", "end"]) (sc := defScope s_law) (by decide +kernel)) (fun _ _ _ _ _ => (pg_name (i := 12) sc_law.nd rfl (by first | exact Or.inl rfl | exact Or.inr rfl))) (fun _ _ _ _ _ => pts_nil) (fun _ _ _ _ _ => (pe_op (op_bin rfl .add) (pe_callB (call_lenK (K := K) rfl) (by rfl) T.m_len PySem.boot_len (pa_cons (pv 6) pa_nil)) pe_int))) (by first | exact nomark _ | rfl)))))))))))))))))
theorem lv (T : Txt w K mg A FD V0) : ∀ n, Lv P w K mg base A FD n
  | 0 => ⟨fun_V0, fun_V0, fun_V0, fun_V0, fun_V0, fun_V0, fun_V0, fun_V0, fun_V0, fun_V0, fun_V0, fun_V0, fun_V0⟩
  | n + 1 => ⟨d_read_template T (lv T n), d__groups_by_word T (lv T n), d__read_dollar T (lv T n), d__law_row T (lv T n), d__law_digit T (lv T n), d__law_same T (lv T n), d__law_name T (lv T n), d__law_names T (lv T n), d__law_piece T (lv T n), d__law_wrong T (lv T n), d__law_joined T (lv T n), d__law_column T (lv T n), d_law T (lv T n)⟩
end
theorem all_mk {l : PySem.W.OpenLaw} {w : World} {K : PySem.W.Frag} {h : Heap} {mg : Str → Option Value} {fa f0 f1 f2 f3 f4 f5 f6 f7 f8 f9 f10 f11 f12 f13 C_TemplateError C_FirstwayError C_CountError : Addr} (X : K.In h) (G : h.Ns mainGlobals mg) (hfa : mg "law" = some (.ref fa))
    {od0 an0 od1 an1 od2 an2 od3 an3 od4 an4 od5 an5 od6 an6 od7 an7 od8 an8 od9 an9 od10 an10 od11 an11 od12 an12 od13 an13 : Option Addr} {sl0 sl1 sl2 sl3 sl4 sl5 sl6 sl7 sl8 sl9 sl10 sl11 sl12 sl13 : Array (Option Value)} {oc0 kV0 dc0 pm0 cd0 ct0 oc1 kV1 dc1 pm1 cd1 ct1 oc2 kV2 dc2 pm2 cd2 ct2 oc3 kV3 dc3 pm3 cd3 ct3 oc4 kV4 dc4 pm4 cd4 ct4 oc5 kV5 dc5 pm5 cd5 ct5 oc6 kV6 dc6 pm6 cd6 ct6 oc7 kV7 dc7 pm7 cd7 ct7 oc8 kV8 dc8 pm8 cd8 ct8 oc9 kV9 dc9 pm9 cd9 ct9 oc10 kV10 dc10 pm10 cd10 ct10 oc11 kV11 dc11 pm11 cd11 ct11 oc12 kV12 dc12 pm12 cd12 ct12 oc13 kV13 dc13 pm13 cd13 ct13 : Value}
    {y_0 y_1 y_2 y_3 : Addr}
    {ld_TemplateError : Option Addr} {lc_TemplateError : ClassData} {ls_TemplateError : Array (Option Value)}
    {x__SIGNS : Addr}
    {t_0 t_1 t_2 t_3 t_4 t_5 t_6 t_7 t_8 : Tok}
    {hs_0 hs_1 hs_2 hs_3 : Int} {nd_0 : Nat}
    {n_e_101 n_e_102 n_e_103 n_e_104 : Nat} {s_e_101 s_e_102 s_e_103 s_e_104 : Array (Option Value)}
    (A_TemplateError : PySem.W.nsIn K mainGlobals "TemplateError" = some (some (.ref C_TemplateError)))
    (A_FirstwayError : PySem.W.nsIn K mainGlobals "FirstwayError" = some (some (.ref C_FirstwayError)))
    (A_CountError : PySem.W.nsIn K mainGlobals "CountError" = some (some (.ref C_CountError)))
    (a0 : PySem.W.findIn K (.ref C_TemplateError) "__init__" = some (some (.ref f0)))
    (i0 : PySem.W.isFn K (.ref f0) = true)
    (l0 : K.lookup f0 = some ⟨oc0, od0, .func (PySem.W.fnOf "__init__" "TemplateError.__init__" (defArgs s_TemplateError___init__) (defBody s_TemplateError___init__) (defScope s_TemplateError___init__) .none kV0 dc0 pm0 an0 cd0 ct0), sl0⟩)
    (c0 : PySem.W.codeIn K cd0 "TemplateError.__init__" = true)
    (k0 : PySem.W.keepIn K (.ref f0) = true)
    (a1 : PySem.W.nsIn K mainGlobals "read_template" = some (some (.ref f1)))
    (l1 : K.lookup f1 = some ⟨oc1, od1, .func (PySem.W.fnOf "read_template" "read_template" (defArgs s_read_template) (defBody s_read_template) (defScope s_read_template) .none kV1 dc1 pm1 an1 cd1 ct1), sl1⟩)
    (c1 : PySem.W.codeIn K cd1 "read_template" = true)
    (k1 : PySem.W.keepIn K (.ref f1) = true)
    (a2 : PySem.W.nsIn K mainGlobals "_groups_by_word" = some (some (.ref f2)))
    (l2 : K.lookup f2 = some ⟨oc2, od2, .func (PySem.W.fnOf "_groups_by_word" "_groups_by_word" (defArgs s__groups_by_word) (defBody s__groups_by_word) (defScope s__groups_by_word) .none kV2 dc2 pm2 an2 cd2 ct2), sl2⟩)
    (c2 : PySem.W.codeIn K cd2 "_groups_by_word" = true)
    (k2 : PySem.W.keepIn K (.ref f2) = true)
    (a3 : PySem.W.nsIn K mainGlobals "_read_dollar" = some (some (.ref f3)))
    (l3 : K.lookup f3 = some ⟨oc3, od3, .func (PySem.W.fnOf "_read_dollar" "_read_dollar" (defArgs s__read_dollar) (defBody s__read_dollar) (defScope s__read_dollar) .none kV3 dc3 pm3 an3 cd3 ct3), sl3⟩)
    (c3 : PySem.W.codeIn K cd3 "_read_dollar" = true)
    (k3 : PySem.W.keepIn K (.ref f3) = true)
    (a4 : PySem.W.nsIn K mainGlobals "_law_row" = some (some (.ref f4)))
    (l4 : K.lookup f4 = some ⟨oc4, od4, .func (PySem.W.fnOf "_law_row" "_law_row" (defArgs s__law_row) (defBody s__law_row) (defScope s__law_row) .none kV4 dc4 pm4 an4 cd4 ct4), sl4⟩)
    (c4 : PySem.W.codeIn K cd4 "_law_row" = true)
    (k4 : PySem.W.keepIn K (.ref f4) = true)
    (a5 : PySem.W.nsIn K mainGlobals "_law_digit" = some (some (.ref f5)))
    (l5 : K.lookup f5 = some ⟨oc5, od5, .func (PySem.W.fnOf "_law_digit" "_law_digit" (defArgs s__law_digit) (defBody s__law_digit) (defScope s__law_digit) .none kV5 dc5 pm5 an5 cd5 ct5), sl5⟩)
    (c5 : PySem.W.codeIn K cd5 "_law_digit" = true)
    (k5 : PySem.W.keepIn K (.ref f5) = true)
    (a6 : PySem.W.nsIn K mainGlobals "_law_same" = some (some (.ref f6)))
    (l6 : K.lookup f6 = some ⟨oc6, od6, .func (PySem.W.fnOf "_law_same" "_law_same" (defArgs s__law_same) (defBody s__law_same) (defScope s__law_same) .none kV6 dc6 pm6 an6 cd6 ct6), sl6⟩)
    (c6 : PySem.W.codeIn K cd6 "_law_same" = true)
    (k6 : PySem.W.keepIn K (.ref f6) = true)
    (a7 : PySem.W.nsIn K mainGlobals "_law_name" = some (some (.ref f7)))
    (l7 : K.lookup f7 = some ⟨oc7, od7, .func (PySem.W.fnOf "_law_name" "_law_name" (defArgs s__law_name) (defBody s__law_name) (defScope s__law_name) .none kV7 dc7 pm7 an7 cd7 ct7), sl7⟩)
    (c7 : PySem.W.codeIn K cd7 "_law_name" = true)
    (k7 : PySem.W.keepIn K (.ref f7) = true)
    (a8 : PySem.W.nsIn K mainGlobals "_law_names" = some (some (.ref f8)))
    (l8 : K.lookup f8 = some ⟨oc8, od8, .func (PySem.W.fnOf "_law_names" "_law_names" (defArgs s__law_names) (defBody s__law_names) (defScope s__law_names) .none kV8 dc8 pm8 an8 cd8 ct8), sl8⟩)
    (c8 : PySem.W.codeIn K cd8 "_law_names" = true)
    (k8 : PySem.W.keepIn K (.ref f8) = true)
    (a9 : PySem.W.nsIn K mainGlobals "_law_piece" = some (some (.ref f9)))
    (l9 : K.lookup f9 = some ⟨oc9, od9, .func (PySem.W.fnOf "_law_piece" "_law_piece" (defArgs s__law_piece) (defBody s__law_piece) (defScope s__law_piece) .none kV9 dc9 pm9 an9 cd9 ct9), sl9⟩)
    (c9 : PySem.W.codeIn K cd9 "_law_piece" = true)
    (k9 : PySem.W.keepIn K (.ref f9) = true)
    (a10 : PySem.W.nsIn K mainGlobals "_law_wrong" = some (some (.ref f10)))
    (l10 : K.lookup f10 = some ⟨oc10, od10, .func (PySem.W.fnOf "_law_wrong" "_law_wrong" (defArgs s__law_wrong) (defBody s__law_wrong) (defScope s__law_wrong) .none kV10 dc10 pm10 an10 cd10 ct10), sl10⟩)
    (c10 : PySem.W.codeIn K cd10 "_law_wrong" = true)
    (k10 : PySem.W.keepIn K (.ref f10) = true)
    (a11 : PySem.W.nsIn K mainGlobals "_law_joined" = some (some (.ref f11)))
    (l11 : K.lookup f11 = some ⟨oc11, od11, .func (PySem.W.fnOf "_law_joined" "_law_joined" (defArgs s__law_joined) (defBody s__law_joined) (defScope s__law_joined) .none kV11 dc11 pm11 an11 cd11 ct11), sl11⟩)
    (c11 : PySem.W.codeIn K cd11 "_law_joined" = true)
    (k11 : PySem.W.keepIn K (.ref f11) = true)
    (a12 : PySem.W.nsIn K mainGlobals "_law_column" = some (some (.ref f12)))
    (l12 : K.lookup f12 = some ⟨oc12, od12, .func (PySem.W.fnOf "_law_column" "_law_column" (defArgs s__law_column) (defBody s__law_column) (defScope s__law_column) .none kV12 dc12 pm12 an12 cd12 ct12), sl12⟩)
    (c12 : PySem.W.codeIn K cd12 "_law_column" = true)
    (k12 : PySem.W.keepIn K (.ref f12) = true)
    (a13 : PySem.W.nsIn K mainGlobals "law" = some (some (.ref f13)))
    (l13 : K.lookup f13 = some ⟨oc13, od13, .func (PySem.W.fnOf "law" "law" (defArgs s_law) (defBody s_law) (defScope s_law) .none kV13 dc13 pm13 an13 cd13 ct13), sl13⟩)
    (c13 : PySem.W.codeIn K cd13 "law" = true)
    (k13 : PySem.W.keepIn K (.ref f13) = true)
    (kx_TemplateError : PySem.W.keepIn K (.ref C_TemplateError) = true)
    (lo_TemplateError : K.lookup C_TemplateError = some ⟨.type "type", ld_TemplateError, .cls lc_TemplateError, ls_TemplateError⟩)
    (qo_TemplateError : oexD C_TemplateError lc_TemplateError ls_TemplateError = true)
    (so_TemplateError : PySem.W.findIn K (.ref C_TemplateError) "__setattr__" = some (some (.builtin "object.__setattr__")))
    (nf_TemplateError_column : PySem.W.findIn K (.ref C_TemplateError) "column" = some none)
    (eg_TemplateError : PySem.W.findIn K (.ref C_TemplateError) "__getattribute__" = some (some (.builtin "BaseException.__getattribute__")))
    (ek_TemplateError : PySem.W.findIn K (.ref C_TemplateError) "__getattr__" = some none)
    (ea_TemplateError : PySem.W.findIn K (.ref C_TemplateError) "__class__" = some (some (.builtin "object.__class__")))
    (eo_TemplateError : PySem.W.mroIn K C_TemplateError (.type "object") = some true)
    (bx_TemplateError : PySem.W.subIn K (.ref C_TemplateError) (.type "BaseException") = some true)
    (tx_TemplateError : PySem.W.typeIn K (.ref C_TemplateError) = some (.type "type"))
    (hx_TemplateError : PySem.W.hasDictIn K C_TemplateError = true)
    (bx_FirstwayError : PySem.W.subIn K (.ref C_FirstwayError) (.type "BaseException") = some true)
    (tx_FirstwayError : PySem.W.typeIn K (.ref C_FirstwayError) = some (.type "type"))
    (hx_FirstwayError : PySem.W.hasDictIn K C_FirstwayError = true)
    (bx_CountError : PySem.W.subIn K (.ref C_CountError) (.type "BaseException") = some true)
    (tx_CountError : PySem.W.typeIn K (.ref C_CountError) = some (.type "type"))
    (hx_CountError : PySem.W.hasDictIn K C_CountError = true)
    (fa_FirstwayError : PySem.W.specialIn K (.ref C_FirstwayError) "__getattribute__" = some (some (.builtin "type.__getattribute__")))
    (fr_FirstwayError : PySem.W.readsIn K C_FirstwayError (.type "type") = true)
    (fv_FirstwayError : PySem.W.findCls K (.ref C_FirstwayError) (.type "type") "__init__" = some (.val (.builtin "ValueError.__init__")))
    (en : PySem.W.specialIn K (.builtin "object.__class__") "__get__" = some (some (.builtin "getset_descriptor.__get__")))
    (et : PySem.W.takesIn K (.builtin "object.__class__") = some true)
    (kit_TemplateError_CountError : PySem.W.kitOne K (.ref C_TemplateError) (.ref C_CountError) = some false)
    (kit_TemplateError_TemplateError : PySem.W.kitOne K (.ref C_TemplateError) (.ref C_TemplateError) = some true)
    (kit_TemplateError_ValueError : PySem.W.kitOne K (.ref C_TemplateError) (.type "ValueError") = some true)
    (sx_TemplateError_FirstwayError : PySem.W.subIn K (.ref C_TemplateError) (.ref C_FirstwayError) = some true)
    (z_ValueError : PySem.W.nsIn K mainGlobals "ValueError" = some none)
    (z_bool : PySem.W.nsIn K mainGlobals "bool" = some none)
    (z_enumerate : PySem.W.nsIn K mainGlobals "enumerate" = some none)
    (z_int : PySem.W.nsIn K mainGlobals "int" = some none)
    (z_isinstance : PySem.W.nsIn K mainGlobals "isinstance" = some none)
    (z_len : PySem.W.nsIn K mainGlobals "len" = some none)
    (z_list : PySem.W.nsIn K mainGlobals "list" = some none)
    (z_range : PySem.W.nsIn K mainGlobals "range" = some none)
    (z_str : PySem.W.nsIn K mainGlobals "str" = some none)
    (z_tuple : PySem.W.nsIn K mainGlobals "tuple" = some none)
    (q__SIGNS : PySem.W.nsIn K mainGlobals "_SIGNS" = some (some (.ref x__SIGNS)))
    (e_98 : K.lookup x__SIGNS = some ⟨.type "dict", none, .dict #[⟨hs_0, .str "$" t_0, .ref y_0⟩, ⟨hs_1, .str "&" t_1, .ref y_1⟩, ⟨hs_2, .str "[" t_2, .ref y_2⟩, ⟨hs_3, .str "]" t_3, .ref y_3⟩] nd_0, #[]⟩)
    (kk__SIGNS : PySem.W.KeysLit w.params [⟨hs_0, .str "$" t_0, .ref y_0⟩, ⟨hs_1, .str "&" t_1, .ref y_1⟩, ⟨hs_2, .str "[" t_2, .ref y_2⟩, ⟨hs_3, .str "]" t_3, .ref y_3⟩])
    (low__SIGNS : (x__SIGNS == sysModules) = false)
    (e_101 : K.lookup y_0 = some ⟨.type "tuple", none, .seq #[.str "text" t_4, .str "$" t_5] n_e_101, s_e_101⟩)
    (e_102 : K.lookup y_1 = some ⟨.type "tuple", none, .seq #[.str "match" t_6] n_e_102, s_e_102⟩)
    (e_103 : K.lookup y_2 = some ⟨.type "tuple", none, .seq #[.str "before" t_7] n_e_103, s_e_103⟩)
    (e_104 : K.lookup y_3 = some ⟨.type "tuple", none, .seq #[.str "behind" t_8] n_e_104, s_e_104⟩)
    : ∃ fd : FuncData, (∀ (s : Shared) (v : Value), BindsTo s fd ⟨[v], []⟩ [("script", v)]) ∧ ∀ base : Heap, K.In base → base.Ns mainGlobals mg → FnOk l.prog w K mg base CX0 41 fa fd ["script"] (spL K) := by
  have e := hfa.symm.trans (PySem.W.mg_of X G a13)
  cases e
  have F0 := fun_mk (st := s_TemplateError___init__) l0 c0 k0
  have b0 := F0.binds (ps := ["self", "column"]) fun _ _ _ _ _ _ us hl => match us, hl with | [_, _], _ => rfl
  have F1 := fun_mk (st := s_read_template) l1 c1 k1
  have b1 := F1.binds (ps := ["template", "names"]) fun _ _ _ _ _ _ us hl => match us, hl with | [_, _], _ => rfl
  have F2 := fun_mk (st := s__groups_by_word) l2 c2 k2
  have b2 := F2.binds (ps := ["names"]) fun _ _ _ _ _ _ us hl => match us, hl with | [_], _ => rfl
  have F3 := fun_mk (st := s__read_dollar) l3 c3 k3
  have b3 := F3.binds (ps := ["template", "at", "groups"]) fun _ _ _ _ _ _ us hl => match us, hl with | [_, _, _], _ => rfl
  have F4 := fun_mk (st := s__law_row) l4 c4 k4
  have b4 := F4.binds (ps := ["script", "k"]) fun _ _ _ _ _ _ us hl => match us, hl with | [_, _], _ => rfl
  have F5 := fun_mk (st := s__law_digit) l5 c5 k5
  have b5 := F5.binds (ps := ["script", "state", "many"]) fun _ _ _ _ _ _ us hl => match us, hl with | [_, _, _], _ => rfl
  have F6 := fun_mk (st := s__law_same) l6 c6 k6
  have b6 := F6.binds (ps := ["actual", "expected"]) fun _ _ _ _ _ _ us hl => match us, hl with | [_, _], _ => rfl
  have F7 := fun_mk (st := s__law_name) l7 c7 k7
  have b7 := F7.binds (ps := ["script", "state"]) fun _ _ _ _ _ _ us hl => match us, hl with | [_, _], _ => rfl
  have F8 := fun_mk (st := s__law_names) l8 c8 k8
  have b8 := F8.binds (ps := ["script", "state"]) fun _ _ _ _ _ _ us hl => match us, hl with | [_, _], _ => rfl
  have F9 := fun_mk (st := s__law_piece) l9 c9 k9
  have b9 := F9.binds (ps := ["script", "state", "names"]) fun _ _ _ _ _ _ us hl => match us, hl with | [_, _, _], _ => rfl
  have F10 := fun_mk (st := s__law_wrong) l10 c10 k10
  have b10 := F10.binds (ps := ["script", "state", "names"]) fun _ _ _ _ _ _ us hl => match us, hl with | [_, _, _], _ => rfl
  have F11 := fun_mk (st := s__law_joined) l11 c11 k11
  have b11 := F11.binds (ps := ["parts"]) fun _ _ _ _ _ _ us hl => match us, hl with | [_], _ => rfl
  have F12 := fun_mk (st := s__law_column) l12 c12 k12
  have b12 := F12.binds (ps := ["template", "names"]) fun _ _ _ _ _ _ us hl => match us, hl with | [_, _], _ => rfl
  have F13 := fun_mk (st := s_law) l13 c13 k13
  have b13 := F13.binds (ps := ["script"]) fun _ _ _ _ _ _ us hl => match us, hl with | [_], _ => rfl
  have T : Txt w K mg (fun i =>  if i = 4000 then f0 else if i = 6 then f1 else if i = 7 then f2 else if i = 8 then f3 else if i = 10 then f4 else if i = 11 then f5 else if i = 12 then f6 else if i = 13 then f7 else if i = 14 then f8 else if i = 15 then f9 else if i = 16 then f10 else if i = 17 then f11 else if i = 18 then f12 else if i = 19 then fa else if i = 3 then C_TemplateError else if i = 1 then C_FirstwayError else if i = 2 then C_CountError else 0) (fun i => if i = 4000 then PySem.W.fnOf "__init__" "TemplateError.__init__" (defArgs s_TemplateError___init__) (defBody s_TemplateError___init__) (defScope s_TemplateError___init__) .none kV0 dc0 pm0 an0 cd0 ct0 else if i = 6 then PySem.W.fnOf "read_template" "read_template" (defArgs s_read_template) (defBody s_read_template) (defScope s_read_template) .none kV1 dc1 pm1 an1 cd1 ct1 else if i = 7 then PySem.W.fnOf "_groups_by_word" "_groups_by_word" (defArgs s__groups_by_word) (defBody s__groups_by_word) (defScope s__groups_by_word) .none kV2 dc2 pm2 an2 cd2 ct2 else if i = 8 then PySem.W.fnOf "_read_dollar" "_read_dollar" (defArgs s__read_dollar) (defBody s__read_dollar) (defScope s__read_dollar) .none kV3 dc3 pm3 an3 cd3 ct3 else if i = 10 then PySem.W.fnOf "_law_row" "_law_row" (defArgs s__law_row) (defBody s__law_row) (defScope s__law_row) .none kV4 dc4 pm4 an4 cd4 ct4 else if i = 11 then PySem.W.fnOf "_law_digit" "_law_digit" (defArgs s__law_digit) (defBody s__law_digit) (defScope s__law_digit) .none kV5 dc5 pm5 an5 cd5 ct5 else if i = 12 then PySem.W.fnOf "_law_same" "_law_same" (defArgs s__law_same) (defBody s__law_same) (defScope s__law_same) .none kV6 dc6 pm6 an6 cd6 ct6 else if i = 13 then PySem.W.fnOf "_law_name" "_law_name" (defArgs s__law_name) (defBody s__law_name) (defScope s__law_name) .none kV7 dc7 pm7 an7 cd7 ct7 else if i = 14 then PySem.W.fnOf "_law_names" "_law_names" (defArgs s__law_names) (defBody s__law_names) (defScope s__law_names) .none kV8 dc8 pm8 an8 cd8 ct8 else if i = 15 then PySem.W.fnOf "_law_piece" "_law_piece" (defArgs s__law_piece) (defBody s__law_piece) (defScope s__law_piece) .none kV9 dc9 pm9 an9 cd9 ct9 else if i = 16 then PySem.W.fnOf "_law_wrong" "_law_wrong" (defArgs s__law_wrong) (defBody s__law_wrong) (defScope s__law_wrong) .none kV10 dc10 pm10 an10 cd10 ct10 else if i = 17 then PySem.W.fnOf "_law_joined" "_law_joined" (defArgs s__law_joined) (defBody s__law_joined) (defScope s__law_joined) .none kV11 dc11 pm11 an11 cd11 ct11 else if i = 18 then PySem.W.fnOf "_law_column" "_law_column" (defArgs s__law_column) (defBody s__law_column) (defScope s__law_column) .none kV12 dc12 pm12 an12 cd12 ct12 else if i = 19 then PySem.W.fnOf "law" "law" (defArgs s_law) (defBody s_law) (defScope s_law) .none kV13 dc13 pm13 an13 cd13 ct13 else PySem.W.fnOf "law" "law" (defArgs s_law) (defBody s_law) (defScope s_law) .none kV13 dc13 pm13 an13 cd13 ct13) (fun i => if i = 5 then V.ref x__SIGNS else V.non) := ⟨F0,
    b0,
    F1,
    b1,
    PySem.W.mg_of X G a1,
    F2,
    b2,
    PySem.W.mg_of X G a2,
    F3,
    b3,
    PySem.W.mg_of X G a3,
    F4,
    b4,
    PySem.W.mg_of X G a4,
    F5,
    b5,
    PySem.W.mg_of X G a5,
    F6,
    b6,
    PySem.W.mg_of X G a6,
    F7,
    b7,
    PySem.W.mg_of X G a7,
    F8,
    b8,
    PySem.W.mg_of X G a8,
    F9,
    b9,
    PySem.W.mg_of X G a9,
    F10,
    b10,
    PySem.W.mg_of X G a10,
    F11,
    b11,
    PySem.W.mg_of X G a11,
    F12,
    b12,
    PySem.W.mg_of X G a12,
    F13,
    b13,
    PySem.W.mg_of X G a13,
    PySem.W.mg_none_of X G z_ValueError,
    PySem.W.mg_none_of X G z_bool,
    PySem.W.mg_none_of X G z_enumerate,
    PySem.W.mg_none_of X G z_int,
    PySem.W.mg_none_of X G z_isinstance,
    PySem.W.mg_none_of X G z_len,
    PySem.W.mg_none_of X G z_list,
    PySem.W.mg_none_of X G z_range,
    PySem.W.mg_none_of X G z_str,
    PySem.W.mg_none_of X G z_tuple,
    PySem.W.mg_of X G A_TemplateError,
    kx_TemplateError,
    oexC_of lo_TemplateError qo_TemplateError so_TemplateError bx_TemplateError tx_TemplateError kx_TemplateError,
    a0,
    beq_iff_eq.mp i0,
    ⟨eg_TemplateError, ek_TemplateError, bx_TemplateError, hx_TemplateError⟩,
    nf_TemplateError_column,
    bx_TemplateError,
    tx_TemplateError,
    ⟨eg_TemplateError, ek_TemplateError, bx_TemplateError, hx_TemplateError, ea_TemplateError, en, et, eo_TemplateError⟩,
    PySem.W.mg_of X G A_FirstwayError,
    PySem.W.mg_of X G A_CountError,
    fa_FirstwayError,
    fr_FirstwayError,
    fv_FirstwayError,
    kit_TemplateError_CountError,
    kit_TemplateError_TemplateError,
    kit_TemplateError_ValueError,
    PySem.W.exm_ref bx_FirstwayError hx_FirstwayError tx_FirstwayError sx_TemplateError_FirstwayError,
    ⟨_, PySem.W.mg_of X G q__SIGNS, rfl, ⟨_, _, _, rfl, low__SIGNS, e_98, kk__SIGNS, (.cons ⟨⟨_, rfl⟩, V.ref y_0, rfl, (.tup (.inr ⟨_, _, _, e_101, rfl, rfl, (show 2 ≤ sizeLine by decide), (.cons (show RelV (V.str "text") (Value.str "text" t_4) from ⟨_, rfl⟩) (.cons (show RelV (V.str "$") (Value.str "$" t_5) from ⟨_, rfl⟩) .nil))⟩) (.cons (.str _) (.cons (.str _) .nil)))⟩ (.cons ⟨⟨_, rfl⟩, V.ref y_1, rfl, (.tup (.inr ⟨_, _, _, e_102, rfl, rfl, (show 1 ≤ sizeLine by decide), (.cons (show RelV (V.str "match") (Value.str "match" t_6) from ⟨_, rfl⟩) .nil)⟩) (.cons (.str _) .nil))⟩ (.cons ⟨⟨_, rfl⟩, V.ref y_2, rfl, (.tup (.inr ⟨_, _, _, e_103, rfl, rfl, (show 1 ≤ sizeLine by decide), (.cons (show RelV (V.str "before") (Value.str "before" t_7) from ⟨_, rfl⟩) .nil)⟩) (.cons (.str _) .nil))⟩ (.cons ⟨⟨_, rfl⟩, V.ref y_3, rfl, (.tup (.inr ⟨_, _, _, e_104, rfl, rfl, (show 1 ≤ sizeLine by decide), (.cons (show RelV (V.str "behind") (Value.str "behind" t_8) from ⟨_, rfl⟩) .nil)⟩) (.cons (.str _) .nil))⟩ .nil))))⟩⟩⟩
  exact ⟨PySem.W.fnOf "law" "law" (defArgs s_law) (defBody s_law) (defScope s_law) .none kV13 dc13 pm13 an13 cd13 ct13, fun s v => .of_eq rfl, fun base _ _ => law_okX (lv (P := l.prog) (w := w) (base := base) T 40).c_law law_true⟩
end Lw
open PySem PySem.W PyProof.Rows
set_option maxRecDepth 100000 in
set_option maxHeartbeats 0 in
theorem PySem.Challenge.cw_firstway_k79_templates_are_read_holds : PySem.Challenge.rw_firstway_k79_templates_are_read.Holds := by
  w_on; o_law; k_head; (case hw => w_witness2)
  k_fill
  refine L2.walk_of (l := PySem.Challenge.rw_firstway_k79_templates_are_read) (n := 63) (k := 41) (x := "script") (CX := fun _ => L2.CX0) (sp := fun w => VM.spL _) rfl (by decide) rfl ⟨rfl, by decide, by decide⟩ (fun w h Y => PySem.W.kIn_of Y) ?F (fun _ H a ns hl _ hS => ⟨a, ns, rfl, hl, hS, fun _ => rfl⟩) (fun _ _ _ _ _ h => h)
  case F =>
    intro w mg fa h KX G hmg
    refine' Lw.all_mk KX G hmg ?A_TemplateError ?A_FirstwayError ?A_CountError ?a0 ?i0 ?l0 ?c0 ?k0 ?a1 ?l1 ?c1 ?k1 ?a2 ?l2 ?c2 ?k2 ?a3 ?l3 ?c3 ?k3 ?a4 ?l4 ?c4 ?k4 ?a5 ?l5 ?c5 ?k5 ?a6 ?l6 ?c6 ?k6 ?a7 ?l7 ?c7 ?k7 ?a8 ?l8 ?c8 ?k8 ?a9 ?l9 ?c9 ?k9 ?a10 ?l10 ?c10 ?k10 ?a11 ?l11 ?c11 ?k11 ?a12 ?l12 ?c12 ?k12 ?a13 ?l13 ?c13 ?k13 ?kx_TemplateError ?lo_TemplateError ?qo_TemplateError ?so_TemplateError ?nf_TemplateError_column ?eg_TemplateError ?ek_TemplateError ?ea_TemplateError ?eo_TemplateError ?bx_TemplateError ?tx_TemplateError ?hx_TemplateError ?bx_FirstwayError ?tx_FirstwayError ?hx_FirstwayError ?bx_CountError ?tx_CountError ?hx_CountError ?fa_FirstwayError ?fr_FirstwayError ?fv_FirstwayError ?en ?et ?kit_TemplateError_CountError ?kit_TemplateError_TemplateError ?kit_TemplateError_ValueError ?sx_TemplateError_FirstwayError ?z_ValueError ?z_bool ?z_enumerate ?z_int ?z_isinstance ?z_len ?z_list ?z_range ?z_str ?z_tuple ?q__SIGNS ?e_98 ?kk__SIGNS ?low__SIGNS ?e_101 ?e_102 ?e_103 ?e_104
    (case A_TemplateError => k_is)
    (case A_FirstwayError => k_is)
    (case A_CountError => k_is)
    (case a0 => k_is)
    (case i0 => k_is)
    (case l0 => k_is)
    (case c0 => k_is)
    (case k0 => k_is)
    (case a1 => k_is)
    (case l1 => k_is)
    (case c1 => k_is)
    (case k1 => k_is)
    (case a2 => k_is)
    (case l2 => k_is)
    (case c2 => k_is)
    (case k2 => k_is)
    (case a3 => k_is)
    (case l3 => k_is)
    (case c3 => k_is)
    (case k3 => k_is)
    (case a4 => k_is)
    (case l4 => k_is)
    (case c4 => k_is)
    (case k4 => k_is)
    (case a5 => k_is)
    (case l5 => k_is)
    (case c5 => k_is)
    (case k5 => k_is)
    (case a6 => k_is)
    (case l6 => k_is)
    (case c6 => k_is)
    (case k6 => k_is)
    (case a7 => k_is)
    (case l7 => k_is)
    (case c7 => k_is)
    (case k7 => k_is)
    (case a8 => k_is)
    (case l8 => k_is)
    (case c8 => k_is)
    (case k8 => k_is)
    (case a9 => k_is)
    (case l9 => k_is)
    (case c9 => k_is)
    (case k9 => k_is)
    (case a10 => k_is)
    (case l10 => k_is)
    (case c10 => k_is)
    (case k10 => k_is)
    (case a11 => k_is)
    (case l11 => k_is)
    (case c11 => k_is)
    (case k11 => k_is)
    (case a12 => k_is)
    (case l12 => k_is)
    (case c12 => k_is)
    (case k12 => k_is)
    (case a13 => k_is)
    (case l13 => k_is)
    (case c13 => k_is)
    (case k13 => k_is)
    (case kx_TemplateError => k_is)
    (case lo_TemplateError => k_is)
    (case qo_TemplateError => rfl)
    (case so_TemplateError => k_is)
    (case nf_TemplateError_column => k_is)
    (case eg_TemplateError => k_is)
    (case ek_TemplateError => k_is)
    (case ea_TemplateError => k_is)
    (case eo_TemplateError => k_is)
    (case bx_TemplateError => k_is)
    (case tx_TemplateError => k_is)
    (case hx_TemplateError => k_is)
    (case bx_FirstwayError => k_is)
    (case tx_FirstwayError => k_is)
    (case hx_FirstwayError => k_is)
    (case bx_CountError => k_is)
    (case tx_CountError => k_is)
    (case hx_CountError => k_is)
    (case fa_FirstwayError => k_is)
    (case fr_FirstwayError => k_is)
    (case fv_FirstwayError => k_is)
    (case en => k_is)
    (case et => k_is)
    (case kit_TemplateError_CountError => first | rfl | k_is)
    (case kit_TemplateError_TemplateError => first | rfl | k_is)
    (case kit_TemplateError_ValueError => first | rfl | k_is)
    (case sx_TemplateError_FirstwayError => first | rfl | k_is)
    (case z_ValueError => k_is)
    (case z_bool => k_is)
    (case z_enumerate => k_is)
    (case z_int => k_is)
    (case z_isinstance => k_is)
    (case z_len => k_is)
    (case z_list => k_is)
    (case z_range => k_is)
    (case z_str => k_is)
    (case z_tuple => k_is)
    (case q__SIGNS => k_is)
    (case e_98 => k_is)
    (case kk__SIGNS => k_keys)
    (case low__SIGNS => first | rfl | decide +kernel)
    (case e_101 => k_is)
    (case e_102 => k_is)
    (case e_103 => k_is)
    (case e_104 => k_is)
end
