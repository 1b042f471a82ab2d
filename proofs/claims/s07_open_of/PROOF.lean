import PyProof.Rows.All
import Wide.All
import OpenK.AllK
import Wide.FinOn
import KE.KStateDown
import Open.SpecLaws
import KE.OsGo
import KE.KDictZip
import KE.KItemsList
import HandS.ForSpec
import HandS.ForMost
import HandS.TryMany
import HandS.ListItems
import HandS.EndTab
import HandS.NestedK
import HandS.Spec
import HandS.HeadHook4
import HandS.Deep
import HandS.Head4
import HandS.ClsMeth
import HandS.CallRecv
import HandS.Walk
import PySem.Challenge.RW_bookagain_s07_open_of
set_option Elab.async false
set_option linter.all false
set_option maxRecDepth 100000
set_option maxHeartbeats 4000000
namespace Bk
open PySem PySem.Spec PyProof.Rows L2
section
variable {X : Cx}
/-- C(), an own exception class without an __init__ -/
theorem pmk_own0 {C : Addr} {bmB : List Value} {B newId initId : String} {x : Str} {p pos : Pos} (F : ExcBaseFacts B newId initId bmB) (q : PySem.W.excIn X.K C bmB newId = true) (gC : X.mg x = some (.ref C)) (kC : PySem.W.keepIn X.K (.ref C) = true) (r : Raises X (.ref C)) (hg : Gl X x)
    (hdb : (x == ("__debug__" : Str)) = false := by decide) : PMk X (.Call (.Name x p) [] [] pos) (fun _ H Q => Q (.ref C) none H) := by
  intro pins s σ H Q I h
  refine wpAny_Call_Name_kw (ld_glob I hg gC ?_ hdb)
  refine PySem.W.callWith_K0 I.kIn kC ?_
  show wpAny _ _ (call (.ref C) []) _ _ _
  obtain ⟨bm, N, nm, qn, bs, hdct, sn, sub, ab, col, dd, k0, k1, k2, k3, k5, mN, hC, hN, hni, T⟩ := exc_obj I.kIn q
  refine wpAny_call_exc_subT F T hC hN hni (fun h' e hm => ?_) (by show 0 ≤ sizeLine; exact Nat.zero_le _)
  exact mk_of I hm r h (I.hok.gone hm.new)
/-- the comprehension's turns over a range with a step -/
theorem lc_rangeC {lo c : Int} {n : Nat} {g : TG} {tt : TT} {te : TE} {vs : List Nat} {σ : L2.St} {H1 : Hp} {D : Addr} {Qd : Hp → Prop} (Pv : Nat → Hp → Prop) (h0 : Pv 0 (upd H1 D (.lst [])))
    (hs : ∀ i H, i < n → Pv i H → g (.int (lo + (i : Nat) * c)) (wipe σ vs) H fun σ2 H2 => wipe σ2 vs = wipe σ vs ∧ tt σ2 H2 fun b H3 =>
      if b = true then te σ2 H3 fun y H4 => ∃ acc, H4 D = some (.lst acc) ∧ acc.length < sizeLine ∧ Pv (i + 1) (upd H4 D (.lst (acc ++ [y]))) else Pv (i + 1) H3) (hd : ∀ H, Pv n H → Qd H) :
    ∃ W : Nat → Nat → Hp → Prop, (∃ m, W 0 m (upd H1 D (.lst []))) ∧ ∀ i m H, W i m H →
      ((Itc lo c n).stop i H ∧ Qd H) ∨ ((Itc lo c n).go i H ∧ ∃ Nx : Hp → Prop, (∀ H', Nx H' → ∃ m', m' < m ∧ W (i + 1) m' H') ∧ ∀ x H', (Itc lo c n).yld i H x H' → g x (wipe σ vs) H' fun σ2 H2 => wipe σ2 vs = wipe σ vs ∧ tt σ2 H2 fun b H3 =>
        if b = true then te σ2 H3 fun y H4 => ∃ acc, H4 D = some (.lst acc) ∧ acc.length < sizeLine ∧ Nx (upd H4 D (.lst (acc ++ [y]))) else Nx H3) := by
  refine ⟨fun i m H => m = n - i ∧ i ≤ n ∧ Pv i H, ⟨n, by simp, Nat.zero_le _, h0⟩, ?_⟩
  rintro i m H ⟨rfl, hi, p⟩
  by_cases hlt : i < n
  · refine .inr ⟨hlt, Pv (i + 1), fun H' p' => ⟨n - (i + 1), by omega, rfl, hlt, p'⟩, fun x H' y => ?_⟩
    obtain ⟨e, y⟩ := y
    subst e y
    exact hs i _ hlt p
  · have e : i = n := by omega
    subst e
    exact .inl ⟨Nat.le_refl _, hd H p⟩
end
end Bk

/-! list(zip(a, b)) of two lists, as a value: a new list of new pairs. -/
namespace Bk
open PySem PySem.Calls PySem.W PyProof.Rows PyProof.V PySem.Spec
/-- a zip on its way, S the list that is filled -/
def KlzSt (h : Heap) (z TI TO i1 i2 l1 l2 S : Addr) (xs ys : Array Value) (i : Nat) : Prop :=
  IsPair h TI (.ref i1) (.ref i2) ∧ h.IsListIter i1 l1 i ∧ h.IsListIter i2 l2 i ∧ h.IsList l1 xs ∧ h.IsList l2 ys ∧
    ((IsZip h z TI TO .none ∧ ∃ a b, IsPair h TO a b) ∨ ∃ T f oT, IsZipHeld h z TI TO T f ∧ h.get? T = some oT ∧ T ≠ z ∧ T ≠ i1 ∧ T ≠ i2 ∧ T ≠ S)
theorem KlzSt.keep {h h' : Heap} {z TI TO i1 i2 l1 l2 S : Addr} {xs ys : Array Value} {i : Nat} (x : KlzSt h z TI TO i1 i2 l1 l2 S xs ys i) (hz : z ≠ S) (hTI : TI ≠ S) (hTO : TO ≠ S) (h1 : i1 ≠ S) (h2 : i2 ≠ S) (hl1 : l1 ≠ S) (hl2 : l2 ≠ S)
    (hk : ∀ b o, b ≠ S → h.get? b = some o → h'.get? b = some o) : KlzSt h' z TI TO i1 i2 l1 l2 S xs ys i := by
  obtain ⟨a1, a2, a3, a4, a5, a6⟩ := x
  refine ⟨hk _ _ hTI a1, a2.at fun o e => hk _ o h1 e, a3.at fun o e => hk _ o h2 e, a4.at fun o e => hk _ o hl1 e, a5.at fun o e => hk _ o hl2 e, ?_⟩
  rcases a6 with ⟨b1, a, b, b2⟩ | ⟨T, f, oT, b1, b2, r1, r2, r3, r4⟩
  · exact .inl ⟨hk _ _ hz b1, a, b, hk _ _ hTO b2⟩
  · exact .inr ⟨T, f, oT, hk _ _ hz b1, hk _ _ r4 b2, r1, r2, r3, r4⟩
/-- the pairs made so far -/
structure KlzG (xs ys : Array Value) (lo : Addr) (h : Heap) (as : List Addr) : Prop where
  rise : as.Pairwise (· < ·)
  above : ∀ a ∈ as, lo < a
  pairs : ∀ (j : Nat) (a : Addr), as[j]? = some a → ∃ x y, xs[j]? = some x ∧ ys[j]? = some y ∧ h.get? a = some { cls := .type "tuple", data := .seq #[x, y] }
theorem KlzG.there {xs ys : Array Value} {lo : Addr} {h : Heap} {as : List Addr} (g : KlzG xs ys lo h as) {a : Addr} (ha : a ∈ as) : a < h.objs.size := by
  obtain ⟨j, hj⟩ := List.mem_iff_getElem?.mp ha
  obtain ⟨_, _, _, _, e⟩ := g.pairs j a hj
  exact Heap.lt_size e
section
variable {prog : Program} {w : World} {A : Around} {s : Shared} {R : Result → Shared → Prop} {E : Value → Shared → Prop} {z TI TO i1 i2 l1 l2 S : Addr} {xs ys : Array Value}
/-- all of the zip's own objects and the two lists lie below the list that is filled -/
structure KlzLow (z TI TO i1 i2 l1 l2 S : Addr) : Prop where
  z : z < S
  TI : TI < S
  TO : TO < S
  i1 : i1 < S
  i2 : i2 < S
  l1 : l1 < S
  l2 : l2 < S
theorem klz_item {i : Nat} {x y : Value} {Q : Option Value → Shared → Prop} (D : ZipApart z TI TO i1 i2 l1 l2) (W : KlzLow z TI TO i1 i2 l1 l2 S) (st : KlzSt s.heap z TI TO i1 i2 l1 l2 S xs ys i) (hS : S < s.heap.objs.size) (hx : xs[i]? = some x) (hy : ys[i]? = some y)
    (hQ : ∀ h', KlzSt h' z TI TO i1 i2 l1 l2 S xs ys (i + 1) → h'.get? s.heap.objs.size = some { cls := .type "tuple", data := .seq #[x, y] } → h'.objs.size = s.heap.objs.size + 1 →
      (∀ b o, b ≠ z → b ≠ TO → b ≠ i1 → b ≠ i2 → s.heap.get? b = some o → h'.get? b = some o) → Q (some (.ref s.heap.objs.size)) { s with heap := h' }) :
    wpAny (model prog w) A (pyNext (.ref z)) Q E s := by
  obtain ⟨hTI, h1, h2, hl1, hl2, hz⟩ := st
  have lt : ∀ {c o}, s.heap.get? c = some o → s.heap.objs.size ≠ c := fun e => Nat.ne_of_gt (Heap.lt_size e)
  have n1 : s.heap.objs.size ≠ i1 := let ⟨_, e, _⟩ := h1; lt e
  have n2 : s.heap.objs.size ≠ i2 := let ⟨_, e, _⟩ := h2; lt e
  rcases hz with ⟨hz, a, b, hTO⟩ | ⟨T, f, oT, hz, hT, r1, r2, r3, r4⟩
  · refine wpAny_pyNext_zip_item D hz hTI hTO h1 h2 hl1 hl2 hx hy fun h' a1 a2 a3 a4 a5 a6 hk => ?_
    exact hQ h' ⟨hk _ _ D.TIz D.TITO D.TIi1 D.TIi2 hTI, a3, a4, hl1.at fun o e => hk _ o D.l1z D.l1TO D.l1i1 D.l1i2 e, hl2.at fun o e => hk _ o D.l2z D.l2TO D.l2i1 D.l2i2 e,
        .inr ⟨s.heap.objs.size, false, _, a1, a5, lt hz, n1, n2, Nat.ne_of_gt hS⟩⟩ a5 a6 hk
  · refine wpAny_pyNext_zip_item_held D hz hT hTI h1 h2 hl1 hl2 hx hy fun h' a1 a3 a4 a5 a6 hk => ?_
    exact hQ h' ⟨hk _ _ D.TIz D.TIi1 D.TIi2 hTI, a3, a4, hl1.at fun o e => hk _ o D.l1z D.l1i1 D.l1i2 e, hl2.at fun o e => hk _ o D.l2z D.l2i1 D.l2i2 e,
        .inr ⟨T, true, oT, a1, hk _ _ r1 r2 r3 hT, r1, r2, r3, r4⟩⟩ a5 a6 fun b o b1 _ b3 b4 e => hk b o b1 b3 b4 e
theorem klz_done {i : Nat} {Q : Option Value → Shared → Prop} (hh : A.handled = none) (D : ZipApart z TI TO i1 i2 l1 l2) (st : KlzSt s.heap z TI TO i1 i2 l1 l2 S xs ys i) (he : xs[i]? = none ∨ ys[i]? = none)
    (hQ : ∀ h', (∀ b o, b ≠ z → b ≠ TO → b ≠ i1 → b ≠ i2 → s.heap.get? b = some o → h'.get? b = some o) → Q none { s with heap := h' }) :
    wpAny (model prog w) A (pyNext (.ref z)) Q E s := by
  obtain ⟨hTI, h1, h2, hl1, hl2, hz⟩ := st
  rcases hz with ⟨hz, a, b, hTO⟩ | ⟨T, f, oT, hz, hT, r1, r2, r3, r4⟩
  · exact wpAny_pyNext_zip_end hh D hz hTI hTO h1 h2 hl1 hl2 he fun h' hk => hQ h' hk
  · exact wpAny_pyNext_zip_end_held hh D hz hT hTI h1 h2 hl1 hl2 he fun h' hk => hQ h' fun b o b1 _ b3 b4 e => hk b o b1 b3 b4 e
theorem klz_loop (hh : A.handled = none) (D : ZipApart z TI TO i1 i2 l1 l2) (W : KlzLow z TI TO i1 i2 l1 l2 S) {n : Nat} (hnx : n = min xs.size ys.size) (hn : n ≤ sizeLine) (res : Value) {h₁ : Heap}
    (hR : ∀ h' tk acc c as, (∀ b o, b ≠ S → b ≠ z → b ≠ TO → b ≠ i1 → b ≠ i2 → h₁.get? b = some o → h'.get? b = some o) → h'.get? S = some { cls := .type "list", dict := none, data := .seq acc c, slots := #[] } → as.length = n → KlzG xs ys S h' as →
      acc.toList = as.map Value.ref → R (.ok (.ret res)) { s with heap := h', toks := tk }) :
    ∀ (k i : Nat) (h : Heap) (tk c : Nat) (acc : Array Value) (as : List Addr), n - i = k → i ≤ n → KlzSt h z TI TO i1 i2 l1 l2 S xs ys i → (∀ b o, b ≠ S → b ≠ z → b ≠ TO → b ≠ i1 → b ≠ i2 → h₁.get? b = some o → h.get? b = some o) →
      h.get? S = some { cls := .type "list", dict := none, data := .seq acc c, slots := #[] } → acc.toList = as.map Value.ref → as.length = i → KlzG xs ys S h as →
      codeAny (model prog w) A (.builtin "list.extend.loop" ⟨[.ref S, .ref z, res], []⟩) R { s with heap := h, toks := tk } := by
  have nS : ∀ {b : Addr}, b < S → S ≠ b := fun h => Nat.ne_of_gt h
  intro k
  induction k with
  | zero =>
    intro i h tk c acc as hk hi hst hkeep hS hacc hal hG
    have hin : i = n := by omega
    have he : xs[i]? = none ∨ ys[i]? = none := by
      rcases Nat.le_total xs.size ys.size with q | q
      · exact .inl (Array.getElem?_eq_none (by rw [hin, hnx, Nat.min_eq_left q]; exact Nat.le_refl _))
      · exact .inr (Array.getElem?_eq_none (by rw [hin, hnx, Nat.min_eq_right q]; exact Nat.le_refl _))
    refine codeAny_builtin PySem.F.entry_extend_loop ?_
    rw [Around.under_plainId PySem.F.plain_extend_loop _]
    show wpAny _ A.in1 (pyNext (.ref z) >>= _) _ _ _
    refine wpAny_bind (klz_done (s := { s with heap := h, toks := tk }) (A := A.in1) hh D hst he fun h' hk' => ?_)
    refine wpAny_pure (hR h' tk acc c as (fun b o q1 q2 q3 q4 q5 e => hk' b o q2 q3 q4 q5 (hkeep b o q1 q2 q3 q4 q5 e)) (hk' S _ (nS W.z) (nS W.TO) (nS W.i1) (nS W.i2) hS) (by omega) ⟨hG.rise, hG.above, fun j a hj => ?_⟩ hacc)
    obtain ⟨x, y, e1, e2, e3⟩ := hG.pairs j a hj
    have ha := hG.above a (List.mem_of_getElem? hj)
    exact ⟨x, y, e1, e2, hk' a _ (Nat.ne_of_gt (Nat.lt_trans W.z ha)) (Nat.ne_of_gt (Nat.lt_trans W.TO ha)) (Nat.ne_of_gt (Nat.lt_trans W.i1 ha)) (Nat.ne_of_gt (Nat.lt_trans W.i2 ha)) e3⟩
  | succ k ih =>
    intro i h tk c acc as hk hi hst hkeep hS hacc hal hG
    have hlt : i < n := by omega
    have hlx : i < xs.size := Nat.lt_of_lt_of_le hlt (by rw [hnx]; exact Nat.min_le_left ..)
    have hly : i < ys.size := Nat.lt_of_lt_of_le hlt (by rw [hnx]; exact Nat.min_le_right ..)
    have hsz : acc.size = i := by rw [← Array.length_toList, hacc, List.length_map, hal]
    refine codeAny_builtin PySem.F.entry_extend_loop ?_
    rw [Around.under_plainId PySem.F.plain_extend_loop _]
    show wpAny _ A.in1 (pyNext (.ref z) >>= _) _ _ _
    refine wpAny_bind (klz_item (s := { s with heap := h, toks := tk }) (S := S) D W hst (Heap.lt_size hS) (Array.getElem?_eq_getElem hlx) (Array.getElem?_eq_getElem hly) fun h' hst' ht hz hkp => ?_)
    dsimp only at ht hz hkp ⊢
    have hS' := hkp S _ (nS W.z) (nS W.TO) (nS W.i1) (nS W.i2) hS
    have up : ∀ b o, b ≠ S → h'.get? b = some o → (h'.update S (Obj.mapSeq (·.push (Value.ref h.objs.size)))).get? b = some o := fun b o hb e => (Heap.get?_update_other _ _ (Ne.symm hb)).trans e
    have hSl : S < h.objs.size := Heap.lt_size hS
    show wpAny _ A.in1 (updateSeq S (·.push (Value.ref h.objs.size)) >>= _) _ _ _
    refine wpAny_bind ?_
    refine wpAny_updateSeq hS' rfl (wpAny_pure ⟨plainId_quiet PySem.F.plain_extend_loop _, ih (i + 1) _ tk _ (acc.push (Value.ref h.objs.size)) (as ++ [h.objs.size]) (by omega) hlt
      (hst'.keep (Nat.ne_of_lt W.z) (Nat.ne_of_lt W.TI) (Nat.ne_of_lt W.TO) (Nat.ne_of_lt W.i1) (Nat.ne_of_lt W.i2) (Nat.ne_of_lt W.l1) (Nat.ne_of_lt W.l2) up)
      (fun b o q1 q2 q3 q4 q5 e => up b o q1 (hkp b o q2 q3 q4 q5 (hkeep b o q1 q2 q3 q4 q5 e))) (Heap.get?_update_self _ hS' rfl) (by rw [Array.toList_push, hacc, List.map_append]; rfl) (by rw [List.length_append, hal]; rfl) ⟨?_, ?_, ?_⟩⟩) (by rw [hsz]; omega) (by show (acc.push (Value.ref h.objs.size)).size ≤ sizeLine + 1; rw [Array.size_push, hsz]; omega)
    · refine List.pairwise_append.mpr ⟨hG.rise, List.pairwise_singleton _ _, fun a ha b hb => ?_⟩
      rw [List.mem_singleton.mp hb]
      exact hG.there ha
    · intro a ha
      rcases List.mem_append.mp ha with ha | ha
      · exact hG.above a ha
      · rw [List.mem_singleton.mp ha]; exact hSl
    · intro j b hj
      rcases Nat.lt_trichotomy j as.length with h1 | h1 | h1
      · rw [List.getElem?_append_left h1] at hj
        obtain ⟨x', y', e1, e2, e3⟩ := hG.pairs j b hj
        have hb := hG.above b (List.mem_of_getElem? hj)
        exact ⟨x', y', e1, e2, up b _ (Nat.ne_of_gt hb) (hkp b _ (Nat.ne_of_gt (Nat.lt_trans W.z hb)) (Nat.ne_of_gt (Nat.lt_trans W.TO hb)) (Nat.ne_of_gt (Nat.lt_trans W.i1 hb)) (Nat.ne_of_gt (Nat.lt_trans W.i2 hb)) e3)⟩
      · subst h1
        have hb : h.objs.size = b := by simpa using hj
        subst hb
        exact ⟨_, _, by rw [hal]; exact Array.getElem?_eq_getElem hlx, by rw [hal]; exact Array.getElem?_eq_getElem hly, up _ _ (Nat.ne_of_gt hSl) ht⟩
      · have hnone : (as ++ [h.objs.size])[j]? = none := List.getElem?_eq_none (by rw [List.length_append, List.length_singleton]; omega)
        rw [hnone] at hj; cases hj
end
theorem klz_no_len : typeLookup (.type "zip") "__len__" = pure none := by rw [typeLookup_type, builtinLookup_eq_fast]; kernel_rfl
theorem klz_no_hint : typeLookup (.type "zip") "__length_hint__" = pure none := by rw [typeLookup_type, builtinLookup_eq_fast]; kernel_rfl
section
variable {prog : Program} {w : World} {A : Around} {E : Value → Shared → Prop} {s : Shared} {z TI TO i1 i2 l1 l2 S : Addr} {xs ys : Array Value}
theorem klz_hint {r : Addr} (hT : s.TypeIs (.ref r) "zip") {Q : Bool → Shared → Prop} (h : Q true s) : wpAny (model prog w) A (Builtin.List.listLengthHint (.ref r)) Q E s := by
  unfold Builtin.List.listLengthHint
  refine wpAny_bind (wpAny_specialOf hT klz_no_len ?_)
  show wpAny _ _ (specialOf (Value.ref r) (Str.ofString "__length_hint__") >>= _) _ _ _
  refine wpAny_bind (wpAny_specialOf hT klz_no_hint ?_)
  exact wpAny_pure h
theorem KlzSt.type {i : Nat} (st : KlzSt s.heap z TI TO i1 i2 l1 l2 S xs ys i) : s.TypeIs (.ref z) "zip" := by
  obtain ⟨_, _, _, _, _, hz⟩ := st
  rcases hz with ⟨hz, _⟩ | ⟨T, f, oT, hz, _⟩
  · exact ⟨_, hz, rfl⟩
  · exact ⟨_, hz, rfl⟩
theorem klz_extend {R : Result → Shared → Prop} (hh : A.handled = none) (D : ZipApart z TI TO i1 i2 l1 l2) (W : KlzLow z TI TO i1 i2 l1 l2 S) {n : Nat} (hnx : n = min xs.size ys.size) (hn : n ≤ sizeLine)
    (hz : IsZip s.heap z TI TO .none) (st : KlzSt s.heap z TI TO i1 i2 l1 l2 S xs ys 0) (res : Value) (c₀ : Nat) (hS : s.heap.get? S = some { cls := .type "list", data := .seq #[] c₀ })
    (hR : ∀ h' tk acc c as, (∀ b o, b ≠ S → b ≠ z → b ≠ TO → b ≠ i1 → b ≠ i2 → s.heap.get? b = some o → h'.get? b = some o) → h'.get? S = some { cls := .type "list", dict := none, data := .seq acc c, slots := #[] } → as.length = n → KlzG xs ys S h' as →
      acc.toList = as.map Value.ref → R (.ok (.ret res)) { s with heap := h', toks := tk }) :
    wpAny (model prog w) A.in1 (Builtin.List.listExtendWith (.ref S) (.ref z) res)
      (fun fin s' => match fin with | .done f => R (.ok f) s' | .again c' => c'.quiet = true ∧ codeAny (model prog w) A c' R s') (fun e s' => R (.error e) s') s := by
  have hSz : S ≠ z := Nat.ne_of_gt W.z
  have key : ∀ (h : Heap) (c₁ tk : Nat), (∀ b o, b ≠ S → s.heap.get? b = some o → h.get? b = some o) → h.get? S = some { cls := .type "list", data := .seq #[] c₁ } →
      codeAny (model prog w) A (.builtin "list.extend.loop" ⟨[.ref S, .ref z, res], []⟩) R { s with heap := h, toks := tk } := by
    intro h c₁ tk hk hS₁
    exact klz_loop (s := s) (h₁ := s.heap) hh D W hnx hn res hR n 0 h tk c₁ #[] [] (Nat.sub_zero _) (Nat.zero_le _)
      (st.keep (Nat.ne_of_lt W.z) (Nat.ne_of_lt W.TI) (Nat.ne_of_lt W.TO) (Nat.ne_of_lt W.i1) (Nat.ne_of_lt W.i2) (Nat.ne_of_lt W.l1) (Nat.ne_of_lt W.l2) hk)
      (fun b o hb _ _ _ _ e => hk b o hb e) hS₁ rfl rfl ⟨List.Pairwise.nil, (fun _ ha => nomatch ha), (fun j a hj => by simp at hj)⟩
  unfold Builtin.List.listExtendWith
  refine wpAny_bind (wpAny_typeOf (T := "zip") st.type ?_)
  have h1 : Builtin.List.listSameRef (.ref S) (.ref z) = false := by simp [Builtin.List.listSameRef, hSz]
  have h2 : (Value.type "zip" == Value.type "list") = false := by decide
  have h3 : (Value.type "zip" == Value.type "tuple") = false := by decide
  simp only [h1, h2, h3, Bool.or_false, Bool.false_eq_true, if_false]
  refine wpAny_bind (wpAny_pyIter_zip hz ?_)
  refine wpAny_bind (wpAny_holding (klz_hint st.type ?_))
  refine wpAny_ite_split (fun _ => ?_) (fun hab => absurd rfl hab)
  refine wpAny_bind (wpAny_rule ?_)
  refine wpAny_bind ?_
  show wpAny _ _ (updateSeq S (·.push .none) >>= fun _ => updateSeq S (·.pop)) _ _ _
  refine wpAny_bind (wpAny_updateSeq hS rfl ?_)
  have hS₂ := Heap.get?_update_self (Obj.mapSeq (·.push Value.none)) hS rfl
  refine wpAny_updateSeq (hz := by seq_fits) hS₂ rfl ?_
  have hS₃ := Heap.get?_update_self (Obj.mapSeq (·.pop)) hS₂ rfl
  refine wpAny_pure ⟨plainId_quiet PySem.F.plain_extend_loop _, key _ _ _ (fun b o hb e => ?_) hS₃⟩
  exact (Heap.get?_update_other _ _ (Ne.symm hb)).trans ((Heap.get?_update_other _ _ (Ne.symm hb)).trans e)
theorem klz_call {Q : Value → Shared → Prop} (hh : A.handled = none) (D : ZipApart z TI TO i1 i2 l1 l2) {n : Nat} (hnx : n = min xs.size ys.size) (hn : n ≤ sizeLine)
    (hz : IsZip s.heap z TI TO .none) (hTI : IsPair s.heap TI (.ref i1) (.ref i2)) {a b : Value} (hTO : IsPair s.heap TO a b) (h1 : s.heap.IsListIter i1 l1 0) (h2 : s.heap.IsListIter i2 l2 0) (hl1 : s.heap.IsList l1 xs) (hl2 : s.heap.IsList l2 ys)
    (hQ : ∀ h' tk acc c as, (∀ b o, b ≠ z → b ≠ TO → b ≠ i1 → b ≠ i2 → s.heap.get? b = some o → h'.get? b = some o) → h'.get? s.heap.objs.size = some { cls := .type "list", dict := none, data := .seq acc c, slots := #[] } → as.length = n → KlzG xs ys s.heap.objs.size h' as →
      acc.toList = as.map Value.ref → Q (.ref s.heap.objs.size) { s with heap := h', toks := tk }) :
    wpAny (model prog w) A (call (.type "list") [.ref z]) Q E s := by
  have W : KlzLow z TI TO i1 i2 l1 l2 s.heap.objs.size := ⟨Heap.lt_size hz, Heap.lt_size hTI, Heap.lt_size hTO, let ⟨_, e, _⟩ := h1; Heap.lt_size e, let ⟨_, e, _⟩ := h2; Heap.lt_size e, let ⟨_, e, _⟩ := hl1; Heap.lt_size e, let ⟨_, e, _⟩ := hl2; Heap.lt_size e⟩
  have st0 : KlzSt s.heap z TI TO i1 i2 l1 l2 s.heap.objs.size xs ys 0 := ⟨hTI, h1, h2, hl1, hl2, .inl ⟨hz, a, b, hTO⟩⟩
  refine callType_codes (Q₁ := fun obj s₁ => obj = .ref s.heap.objs.size ∧ s₁ = { s with heap := s.heap.push { cls := .type "list", data := .seq #[] } }) PySem.F.called_list (PySem.F.typeCall_list_1 _) PySem.F.entry_list_init
    (code_list_new _ ⟨rfl, rfl⟩) fun obj s₁ q₁ => ?_
  obtain ⟨rfl, rfl⟩ := q₁
  have hS : (s.heap.push { cls := .type "list", data := .seq #[] }).get? s.heap.objs.size = some { cls := .type "list", data := .seq #[] } := Heap.get?_push_size _ rfl
  have up : ∀ b o, b ≠ s.heap.objs.size → s.heap.get? b = some o → (s.heap.push { cls := .type "list", data := .seq #[] }).get? b = some o := fun b o _ e => Heap.get?_push_of_some _ e
  refine ⟨⟨_, hS, rfl⟩, PySem.F.args_list_init_2 _ _, ?_⟩
  show wpAny _ _ (do let old ← Builtin.List.listItems (.ref s.heap.objs.size); Builtin.List.listUpdate (.ref s.heap.objs.size) (fun _ => #[]); letGo old.toList.reverse; Builtin.List.listExtendWith (.ref s.heap.objs.size) (.ref z) .none) _ _ _
  refine wpAny_bind ?_
  unfold Builtin.List.listItems
  refine wpAny_bind (wpAny_seqItems hS rfl (wpAny_pure ?_))
  show wpAny _ _ (updateSeq s.heap.objs.size (fun _ => #[]) >>= fun _ => letGo (#[] : Array Value).toList.reverse >>= fun _ => Builtin.List.listExtendWith (.ref s.heap.objs.size) (.ref z) .none) _ _ _
  refine wpAny_bind (wpAny_updateSeq hS rfl ?_)
  have hS₂ := Heap.get?_update_self (Obj.mapSeq (fun _ => (#[] : Array Value))) hS rfl
  have oth : ∀ b o, b ≠ s.heap.objs.size → s.heap.get? b = some o → ((s.heap.push { cls := .type "list", data := .seq #[] }).update s.heap.objs.size (Obj.mapSeq (fun _ => (#[] : Array Value)))).get? b = some o :=
    fun b o hb e => (Heap.get?_update_other _ _ (Ne.symm hb)).trans (up b o hb e)
  refine wpAny_bind (wpAny_letGo ?_)
  have st2 := st0.keep (Nat.ne_of_lt W.z) (Nat.ne_of_lt W.TI) (Nat.ne_of_lt W.TO) (Nat.ne_of_lt W.i1) (Nat.ne_of_lt W.i2) (Nat.ne_of_lt W.l1) (Nat.ne_of_lt W.l2) oth
  refine klz_extend (A := A.in1) hh D W hnx hn (oth _ _ (Nat.ne_of_lt W.z) hz) st2 .none _ hS₂ (fun h' tk acc c as hk hS' hl hG hacc => ?_)
  exact ⟨rfl, hQ h' tk acc c as (fun b o q2 q3 q4 q5 e => hk b o (Nat.ne_of_lt (Heap.lt_size e)) q2 q3 q4 q5 (oth b o (Nat.ne_of_lt (Heap.lt_size e)) e)) hS' hl hG hacc⟩
end
end Bk

/-! list(zip(a, b)) over the layer. -/
namespace Bk
open PySem PySem.Spec PyProof.Rows L2
/-- new pairs at as -/
def putP (H : Hp) : List Addr → List (V × V) → Hp
  | a :: as, p :: ps => putP (upd H a (.tup [p.1, p.2])) as ps
  | _, _ => H
theorem putP_off {b : Addr} : ∀ (as : List Addr) (ps : List (V × V)) (H : Hp), b ∉ as → putP H as ps b = H b
  | [], _, _, _ => rfl
  | _ :: _, [], _, _ => rfl
  | a :: as, p :: ps, H, h => by
    show putP (upd H a (.tup [p.1, p.2])) as ps b = H b
    rw [putP_off as ps _ (fun z => h (List.mem_cons_of_mem _ z)), upd_ne (fun z => h (by rw [z]; exact List.mem_cons_self))]
theorem putP_at : ∀ (as : List Addr) (ps : List (V × V)) (H : Hp), as.length = ps.length → as.Nodup → Paired (fun (t : Addr) (p : V × V) => putP H as ps t = some (.tup [p.1, p.2])) as ps
  | [], [], _, _, _ => .nil
  | [], _ :: _, _, h, _ => by cases h
  | _ :: _, [], _, h, _ => by cases h
  | a :: as, p :: ps, H, h, hn => by
    have hn' := List.nodup_cons.mp hn
    have ih := putP_at as ps (upd H a (.tup [p.1, p.2])) (Nat.succ.inj h) hn'.2
    refine .cons ?_ ih
    show putP (upd H a (.tup [p.1, p.2])) as ps a = some (.tup [p.1, p.2])
    rw [putP_off as ps _ hn'.1, upd_same]
theorem zip_len {α β : Type} (xs : List α) (ys : List β) : (xs.zip ys).length = min xs.length ys.length := List.length_zip
theorem zip_at {α β : Type} {xs : List α} {ys : List β} {j : Nat} {p : α × β} (h : (xs.zip ys)[j]? = some p) : xs[j]? = some p.1 ∧ ys[j]? = some p.2 := by
  obtain ⟨x, y⟩ := p
  rw [List.getElem?_zip_eq_some] at h
  exact h
/-- list(zip(a, b)): a new list of new pairs -/
def rZipL (K : PySem.W.Frag) : List V → Hp → VK → Prop := fun vs H Q => ∃ (a b : Addr) (xs ys : List V), vs = [.ref a, .ref b] ∧ SqL K H a xs ∧ SqL K H b ys ∧
  ∀ (H' : Hp) (p : Addr) (ts : List Addr), (∀ b o, H b = some o → H' b = some o) → H p = none → (∀ t ∈ ts, H t = none) → p ∉ ts → H' p = some (.lst (ts.map V.ref)) →
    Paired (fun (t : Addr) (q : V × V) => H' t = some (.tup [q.1, q.2])) ts (xs.zip ys) → Q (.ref p) H'
def tZipL (K : PySem.W.Frag) (ta : TA) : TE := fun σ H Q => ta σ H fun vs H1 => rZipL K vs H1 Q
section
variable {X : Cx} {e e2 : Expr} {ta : TA} {p p2 pos zpos : Pos}
theorem zips_laid {pins : List (Addr × Obj)} {σ : L2.St} {H : Hp} {s : Shared} {h1 h' : Heap} {tk : Nat} {xs ys : List V} {us ws : List Value} {acc : Array Value} {c : Nat} {S : Addr} {as : List Addr} (I : Inv X pins σ H s) (rx : Vals xs us) (ry : Vals ys ws) (hz : xs.length ≤ sizeLine)
    (hS0 : s.heap.objs.size ≤ S) (hk : ∀ b o, s.heap.get? b = some o → h'.get? b = some o) (hS : h'.get? S = some { cls := .type "list", dict := none, data := .seq acc c, slots := #[] }) (hl : as.length = min us.length ws.length) (hG : KlzG us.toArray ws.toArray S h' as) (hacc : acc.toList = as.map Value.ref) :
    ∃ H' : Hp, (∀ b o, H b = some o → H' b = some o) ∧ H S = none ∧ (∀ t ∈ as, H t = none) ∧ S ∉ as ∧ H' S = some (.lst (as.map V.ref)) ∧ Paired (fun (t : Addr) (q : V × V) => H' t = some (.tup [q.1, q.2])) as (xs.zip ys) ∧ Inv X pins σ H' { s with heap := h', toks := tk } := by
  have lx := rx.length
  have ly := ry.length
  have lz : (xs.zip ys).length = as.length := by rw [zip_len, hl, lx, ly]
  have hSn : S ∉ as := fun z => Nat.lt_irrefl _ (hG.above _ z)
  have nd : as.Nodup := List.Pairwise.imp (fun {a b} (h : a < b) => Nat.ne_of_lt h) hG.rise
  have lowS : ∀ t ∈ as, s.heap.objs.size ≤ t := fun t ht => Nat.le_trans hS0 (Nat.le_of_lt (hG.above t ht))
  have new : ∀ t ∈ as, H t = none := fun t ht => I.hok.fresh (lowS t ht)
  have newS : H S = none := I.hok.fresh hS0
  have atP := putP_at as (xs.zip ys) (upd H S (.lst (as.map V.ref))) lz.symm nd
  have off : ∀ b, b ∉ as → b ≠ S → putP (upd H S (.lst (as.map V.ref))) as (xs.zip ys) b = H b := fun b h1 h2 => by rw [putP_off as _ _ h1, upd_ne h2]
  have low : ∀ b o, s.heap.get? b = some o → b ∉ as ∧ b ≠ S := fun b o e => ⟨fun z => absurd (Heap.lt_size e) (Nat.not_lt.mpr (lowS b z)), Nat.ne_of_lt (Nat.lt_of_lt_of_le (Heap.lt_size e) hS0)⟩
  have kp : ∀ b u, H b = some u → (putP (upd H S (.lst (as.map V.ref))) as (xs.zip ys)) b = some u := fun b u e => by
    rw [off b (fun z => by rw [new b z] at e; cases e) (fun z => by rw [z, newS] at e; cases e)]
    exact e
  have eS : putP (upd H S (.lst (as.map V.ref))) as (xs.zip ys) S = some (.lst (as.map V.ref)) := by rw [putP_off as _ _ hSn, upd_same]
  refine ⟨putP (upd H S (.lst (as.map V.ref))) as (xs.zip ys), kp, newS, new, hSn, eS, atP, ?_⟩
  refine I.call' (ch := []) rfl ⟨fun b o q _ _ _ => hk b o q, fun b o q _ _ _ => ⟨o.slots, hk b o q⟩, fun b o q n _ => ?_, fun b o q _ => ⟨o, hk b o q⟩, fun b xs q => kp b _ q, fun b o u q => kp b _ q, fun b ps q => ⟨#[], by rw [kp b _ q]; simp⟩⟩ (fun b u q => ?_) I.bare fun b z => by simp at z
  · obtain ⟨z1, z2⟩ := low b o q
    rw [off b z1 z2]
    exact n
  · by_cases hb : b ∈ as
    · obtain ⟨j, pk, e1, e2, e3⟩ := LiI.paired_ix atP hb
      rw [e3] at q
      cases q
      obtain ⟨x, y, f1, f2, f3⟩ := hG.pairs j b e1
      obtain ⟨g1, g2⟩ := zip_at e2
      obtain ⟨u, k1, k2⟩ := rx.get g1
      obtain ⟨u', k3, k4⟩ := ry.get g2
      have f1' : us[j]? = some x := by simpa using f1
      have f2' : ws[j]? = some y := by simpa using f2
      rw [f1'] at k1
      rw [f2'] at k3
      cases k1
      cases k3
      exact ⟨by show 2 ≤ sizeLine; decide, [x, y], .cons k2 (.cons k4 .nil), ⟨_, f3, rfl, _, rfl⟩⟩
    · by_cases hb2 : b = S
      · rw [hb2] at q ⊢
        rw [eS] at q
        cases q
        refine ⟨by rw [List.length_map]; exact Nat.le_trans (by rw [hl, ← lx]; exact Nat.min_le_left ..) hz, acc.toList, c, by rw [hacc]; exact LiI.vals_refs as, ?_⟩
        rw [Array.toArray_toList]
        exact hS
      · rw [off b hb hb2] at q
        exact (I.hok b u q).stay (fun d v _ y => hk d v y) (fun d y => kp d _ y) fun d xs y => kp d _ y
theorem pe_listZip (hc : X.calm = true) (hgl : Gl X "list") (hml : X.mg "list" = none) (hgz : Gl X "zip") (hmz : X.mg "zip" = none) (ha : PA X [e, e2] ta)
    (hsz : starEach [e, e2] X.env = (false, eval e X.env) :: starEach [e2] X.env := by rfl) (hpz : (backTo zpos (starEach [e2] X.env)).any (·.1) = false := by rfl)
    (hs : starEach [.Call (.Name "zip" p2) [e, e2] [] zpos] X.env = (false, eval (.Call (.Name "zip" p2) [e, e2] [] zpos) X.env) :: starEach [] X.env := by rfl) :
    PE X (.Call (.Name "list" p) [.Call (.Name "zip" p2) [e, e2] [] zpos] [] pos) (tZipL X.K ta) := by
  refine ⟨fun pins s σ H Q I hq => ?_⟩
  refine wpAny_Call_Name_kw (ld_blt (u := Value.type "list") I hgl hml (by decide +kernel) ?_)
  refine PyProof.Rows.callWith_type1 ?_ hs rfl
  rw [hs]
  show wpAny _ _ (spliced ((false, eval (.Call (.Name "zip" p2) [e, e2] [] zpos) X.env) :: backTo pos (starEach [] X.env))) _ _ s
  refine Calls.spliced_cons ?_
  refine wpAny_Call_Name_kw (ld_blt I hgz hmz PyProof.Rows.boot_zip (PyProof.Rows.callWith_type1 (thn (ha.run zpos pins s σ H _ I hq) fun us s1 ⟨vs, H1, I1, r1, q1⟩ => ?_) hsz hpz))
  obtain ⟨a, b, xs, ys, ex, hqx, hqy, q⟩ := q1
  subst ex
  cases r1 with
  | cons r rr =>
    cases rr with
    | cons r' rr =>
      cases rr
      cases r
      cases r'
      obtain ⟨its, rv, p1, zx⟩ := I1.list hqx
      obtain ⟨its2, rv2, p2', zy⟩ := I1.list hqy
      refine call_zip_2 p1.isList p2'.isList fun h' hz hTI hTO h1 h2 hsz' hk => ?_
      refine Calls.spliced_nil ?_
      have I2 : Inv X pins σ H1 { s1 with heap := h' } := I1.kept (t' := s1.toks) hk
      refine klz_call (s := { s1 with heap := h' }) (n := min its.length its2.length) (I1.ok.hd hc) (PySem.W.ktu_apart s1.heap.objs.size a b p1.lt p2'.lt) (by simp) ?_ hz hTI hTO h1 h2 (p1.isList.at fun o e => hk a o e) (p2'.isList.at fun o e => hk b o e) fun h'' tk acc c as hk2 hS hl hG hacc => ?_
      · exact Nat.le_trans (Nat.min_le_left ..) (by rw [← rv.length]; exact zx)
      · have old : ∀ b o, s1.heap.get? b = some o → h''.get? b = some o := fun b o e => by
          have hlt := Heap.lt_size e
          refine hk2 b o ?_ ?_ ?_ ?_ (hk b o e)
          · exact Nat.ne_of_lt (Nat.lt_of_lt_of_le hlt (Nat.le_add_right _ _))
          · exact Nat.ne_of_lt (Nat.lt_of_lt_of_le hlt (Nat.le_add_right _ _))
          · exact Nat.ne_of_lt hlt
          · exact Nat.ne_of_lt (Nat.lt_of_lt_of_le hlt (Nat.le_add_right _ _))
        have hS0 : s1.heap.objs.size ≤ h'.objs.size := by rw [hsz']; exact Nat.le_add_right _ _
        obtain ⟨H', k1, k2, k3, k4, k5, k6, J⟩ := zips_laid (h1 := h') (tk := tk) I1 rv rv2 zx hS0 old hS hl hG hacc
        exact ⟨.ref _, H', J, rfl, q H' _ as k1 k2 k3 k4 k5 k6⟩
end
end Bk

/-! The end of a Spec row whose def makes lambdas: tables of code objects are tracked. -/
namespace Bk
open PySem PySem.Spec PyProof.Rows L2
open PySem.W (Codec WData Well WellAll ReadsW ReadsAllW)
section
variable {K : PySem.W.Frag} {H H' : Hp}
theorem sqL_mono (e : ∀ b o, H b = some o → H' b = some o) {a : Addr} {xs : List V} (h : SqL K H a xs) : SqL K H' a xs := by
  rcases h with (h | ⟨o, h⟩) | h
  · exact .inl (.inl (e _ _ h))
  · exact .inl (.inr ⟨o, e _ _ h⟩)
  · exact .inr h
theorem sqT_mono (e : ∀ b o, H b = some o → H' b = some o) {a : Addr} {xs : List V} (h : SqT K H a xs) : SqT K H' a xs := by
  rcases h with (h | ⟨o, h⟩) | h
  · exact .inl (.inl (e _ _ h))
  · exact .inl (.inr ⟨o, e _ _ h⟩)
  · exact .inr h
mutual
theorem dw_mono (e : ∀ b o, H b = some o → H' b = some o) : ∀ (d : WData) (v : V), Dw K H v d → Dw K H' v d
  | _, _, .non => .non
  | _, _, .bl b => .bl b
  | _, _, .int i => .int i
  | _, _, .str x => .str x
  | _, _, .byt b => .byt b
  | _, _, .lst h r => .lst (sqL_mono e h) (dws_mono e _ _ r)
  | _, _, .tup h r => .tup (sqT_mono e h) (dws_mono e _ _ r)
theorem dws_mono (e : ∀ b o, H b = some o → H' b = some o) : ∀ (ds : List WData) (vs : List V), DwAll K H vs ds → DwAll K H' vs ds
  | _, _, .nil => .nil
  | _, _, .cons h r => .cons (dw_mono e _ _ h) (dws_mono e _ _ r)
end
end
theorem spec_callT {P : Program} {w : World} {K : PySem.W.Frag} {mg mb : Str → Option Value} {CX : CXT} {k : Nat} {fa : Addr} {fd : FuncData} {ps : List Str} {sp : Sp} {s₁ : Shared} {vals : List Value} {ds : List WData} {R : PySem.W.WRecords} {cl : Str → Option Addr} {d0 : WData} {cs : List (Addr × Addr)}
    (KX : K.In s₁.heap) (hns : s₁.heap.Ns mainGlobals mg) (hb : s₁.heap.Ns builtinsNs mb) (hbb : ∀ x : Str, x ≠ "__name__" → mb x = bootBuiltins x) (hlim : s₁.heap.NoLimit) (hg : s₁.gens = #[])
    (hT : ∀ p ∈ cs, s₁.heap.get? p.2 = some { cls := .none, data := .fields #[] }) (nT : ∀ p ∈ cs, K.lookup p.2 = none) (C : ∀ p ∈ cs, PySem.W.CodeHd s₁.heap p.1 p.2)
    (hbm : ∃ (bm : Addr) (ob : Obj), mg "__builtins__" = some (.ref bm) ∧ bm ≠ builtinsNs ∧ s₁.heap.get? bm = some ob ∧ ob.cls = .type "module" ∧ ob.dict = some builtinsNs ∧ ob.data = .plain)
    (hwl : WellAll w.params s₁.heap vals ds) (hpl : plWs ds = true) (hwt : ∀ d ∈ ds, d.weight ≤ 1048576) (hr : Room k callerA)
    (F : ∀ base : Heap, K.In base → base.Ns mainGlobals mg → (∀ p ∈ cs, LamX.TabB base mg p.1 p.2) → FnOk P w K mg base CX k fa fd ps sp) (hbind : ∀ (s : Shared) (us : List Value), us.length = ps.length → BindsTo s fd ⟨us, []⟩ (ps.zip us)) (hlen : ds.length = ps.length)
    (hsp : ∀ (H : Hp) (xs : List V), (∀ p ∈ cs, H p.2 = some (.tbl #[])) → DwAll K H xs ds → sp xs H (fun v H' => Dw K H' v d0) fun _ _ _ => False)
    (hCX : ∀ H e s', CX [] H s₁ (fun _ _ _ => False) e s' → False) :
    codeAny (model P w) callerA (.call (.ref fa) ⟨vals, []⟩) (fun r s' => ∃ u as, r = .ok (.ret u) ∧ ReadsW R cl s'.heap u d0 as ∧ OldK s₁.heap s'.heap ∧ s'.os = s₁.os ∧ AllBare s'.gens) s₁ := by
  obtain ⟨A, ho, ar⟩ := area_all ds vals hwl hpl hwt
  have isT : ∀ b : Addr, b ∈ cs.map (·.2) → s₁.heap.get? b = some { cls := .none, data := .fields #[] } := fun b hb => by
    obtain ⟨p, hp, e⟩ := List.mem_map.mp hb
    rw [← e]
    exact hT p hp
  have memT : ∀ p ∈ cs, p.2 ∈ cs.map (·.2) := fun p hp => List.mem_map.mpr ⟨p, hp, rfl⟩
  have hO0 : OnlyF (argH K s₁.heap A) := argH_only ar
  have hok0 : HOk P w (argH K s₁.heap A) s₁.heap := argH_ok ar
  have hS0 := dw_all KX ar ds vals hwl hpl ho
  have hV := vals_toV ho
  have hK0 : ∀ b u, argH K s₁.heap A b = some u → K.lookup b = none := fun b u q => (argH_is ar q).1
  have seq0 : ∀ {b : Addr} {u : HO}, argH K s₁.heap A b = some u → ∃ (o : Obj) (vs : Array Value) (n : Nat), s₁.heap.get? b = some o ∧ o.data = .seq vs n := fun {b u} q => by
    obtain ⟨_, vs, _, _, ⟨e2, _⟩ | ⟨e2, _⟩⟩ := argH_is ar q
    · exact ⟨_, _, _, e2, rfl⟩
    · exact ⟨_, _, _, e2, rfl⟩
  generalize argH K s₁.heap A = H0 at hO0 hok0 hS0 hK0 seq0
  have off0 : ∀ b, b ∈ cs.map (·.2) → H0 b = none := fun b hb => by
    cases q : H0 b with
    | none => rfl
    | some u =>
      obtain ⟨o, vs, n, e, d⟩ := seq0 q
      rw [isT b hb] at e
      cases e
      cases d
  -- the tables beside
  obtain ⟨H, hH, hN⟩ : ∃ H : Hp, (∀ b, b ∈ cs.map (·.2) → H b = some (.tbl #[])) ∧ ∀ b, b ∉ cs.map (·.2) → H b = H0 b :=
    ⟨fun b => if b ∈ cs.map (·.2) then some (.tbl #[]) else H0 b, fun b h => if_pos h, fun b h => if_neg h⟩
  have up : ∀ b o, H0 b = some o → H b = some o := fun b o e => by
    rw [hN b (fun z => by rw [off0 b z] at e; cases e)]
    exact e
  have down : ∀ b u, H b = some u → b ∈ cs.map (·.2) ∧ u = .tbl #[] ∨ H0 b = some u := fun b u e => by
    by_cases hb : b ∈ cs.map (·.2)
    · rw [hH b hb] at e
      exact .inl ⟨hb, (Option.some.inj e).symm⟩
    · rw [hN b hb] at e
      exact .inr e
  have hS : DwAll K H (vals.map toV) ds := dws_mono up _ _ hS0
  have hok : HOk P w H s₁.heap := fun b u e => by
    rcases down b u e with ⟨hb, eu⟩ | e0
    · rw [eu]
      exact isT b hb
    · exact (hok0 b u e0).stay (fun _ _ _ q => q) (fun d q => up d _ q) fun d xs q => up d _ q
  have hK : ∀ b o, K.lookup b = some o → H b = none := fun b o e => by
    cases q : H b with
    | none => rfl
    | some u =>
      rcases down b u q with ⟨hb, _⟩ | e0
      · obtain ⟨p, hp, ep⟩ := List.mem_map.mp hb
        rw [← ep, nT p hp] at e
        cases e
      · rw [hK0 b u e0] at e
        cases e
  have noD : ∀ {b : Addr} {o : Obj}, s₁.heap.get? b = some o → (∀ vs n, o.data ≠ .seq vs n) → o.data ≠ .fields #[] → H b = none := fun {b o} e h1 h2 => by
    cases q : H b with
    | none => rfl
    | some u =>
      rcases down b u q with ⟨hb, _⟩ | e0
      · rw [isT b hb] at e
        cases e
        exact (h2 rfl).elim
      · obtain ⟨o', vs, n, e1, d⟩ := seq0 e0
        rw [e] at e1
        cases e1
        exact (h1 _ _ d).elim
  have noA : ∀ {b : Addr} {o : Obj} {es : Array DictEntry} {ep : Nat}, s₁.heap.get? b = some o → o.data = .dict es ep → H b = none := fun {b o es ep} e d => by
    refine noD e (fun vs n z => ?_) fun z => ?_
    · rw [d] at z
      cases z
    · rw [d] at z
      cases z
  have base_of : ∀ {b : Addr} {o : Obj}, s₁.heap.get? b = some o → H b = none → (hidT s₁.heap H).get? b = some o := fun e n => hidT_get e n
  have nsK : ∀ {b : Addr} {m : Str → Option Value}, s₁.heap.Ns b m → (hidT s₁.heap H).Ns b m := fun {b m} ⟨o, es, ep, e, d, r⟩ => ⟨o, es, ep, base_of e (noA e d), d, r⟩
  have hKb : K.In (hidT s₁.heap H) := fun b o e => base_of (KX b o e) (hK b o e)
  have hM : Mod K mg (hidT s₁.heap H) := ⟨hKb, nsK hns, ⟨mb, nsK hb, hbb⟩, let ⟨mc, h1, h2⟩ := hlim; ⟨mc, nsK h1, h2⟩⟩
  have TB : ∀ p ∈ cs, LamX.TabB (hidT s₁.heap H) mg p.1 p.2 := fun p hp => by
    have hTp := hT p hp
    refine ⟨?_, ?_, fun z => ?_⟩
    · obtain ⟨o, us, file, tf, flags, tg, inF, text, tt, e1, r1, r2, r3, r4, r5, r6, r7, r8, hne⟩ := C p hp
      refine ⟨o, us, file, tf, flags, tg, inF, text, tt, base_of e1 (noD e1 (fun vs n z => ?_) fun z => ?_), r1, r2, r3, r4, r5, r6, r7, r8, hne⟩
      · rw [r2] at z
        cases z
      · rw [r2] at z
        cases z
        simp at r3
    · obtain ⟨bm, ob, b1, b2, b3, b4, b5, b6⟩ := hbm
      have nG : bm ≠ mainGlobals := fun q => by
        obtain ⟨o, es, ep, e, hd, _⟩ := hns
        rw [q, e] at b3
        cases b3
        rw [hd] at b6
        cases b6
      have nP : bm ≠ p.2 := fun q => by
        rw [q, hTp] at b3
        cases b3
        cases b6
      refine ⟨bm, ob, b1, b2, nG, nP, base_of b3 (noD b3 (fun vs n z => ?_) fun z => ?_), b4, b5, b6⟩
      · rw [b6] at z
        cases z
      · rw [b6] at z
        cases z
    · obtain ⟨o, es, ep, e, hd, _⟩ := hns
      rw [z, hTp] at e
      cases e
      cases hd
  have e0 : Env0 P w K mg (hidT s₁.heap H) callerA [] s₁ H := ⟨rfl, hM, fun b o e => of_hidT e, Nat.le_of_eq (hidT_size _ _), trivial, fun b hb => absurd (show b ∈ ([] : List Addr) from hb) (by simp), hok, .of_eq hg⟩
  have hl : vals.length = ps.length := by rw [wellAll_len hwl]; exact hlen
  refine codeAny_mono ((F _ hKb (nsK hns) TB).run callerA [] s₁ H ⟨vals, []⟩ vals (vals.map toV) _ _ hr e0 (hbind s₁ vals hl) hV (hsp H _ (fun p hp => hH _ (memT p hp)) hS)) fun r s' x => ?_
  cases r with
  | error e => exact (hCX H e s' x).elim
  | ok fl =>
    cases fl with
    | next => exact False.elim x
    | brk => exact False.elim x
    | cont => exact False.elim x
    | ret u =>
      obtain ⟨v, H', os, bare, un, hok', r', q⟩ := x
      have key : ∀ b o, b ∉ cs.map (·.2) → s₁.heap.get? b = some o → s'.heap.get? b = some o := fun b o nb e => by
        cases q2 : H b with
        | none => exact un.keep b o e q2 (by intro z; exact absurd (show b ∈ ([] : List Addr) from z) (by simp)) (by simp)
        | some u2 =>
          rcases down b u2 q2 with ⟨hb, _⟩ | e00
          · exact (nb hb).elim
          · rcases hO0 b with z | ⟨ob, u3, z⟩
            · rw [e00] at z
              cases z
            · have z1 := up _ _ z
              have z2 := un.frzs b ob _ z1
              obtain ⟨e1, _⟩ := hok b _ z1
              obtain ⟨e2, _⟩ := hok' b _ z2
              rw [e] at e1
              cases e1
              exact e2
      have grown : ∀ p ∈ cs, ∃ more : Array Value, s'.heap.get? p.2 = some { cls := .none, data := .fields more } := fun p hp => by
        obtain ⟨more, z⟩ := un.tbls p.2 #[] (hH _ (memT p hp))
        exact ⟨_, hok' p.2 _ z⟩
      have KX' : K.In s'.heap := fun b o e => key b o (fun hb => by
        obtain ⟨p, hp, ep⟩ := List.mem_map.mp hb
        rw [← ep, nT p hp] at e
        cases e) (KX b o e)
      obtain ⟨as, hrd⟩ := Dw.reads (R := R) (cl := cl) hok' KX' d0 v u q r'
      refine ⟨u, as, rfl, hrd, ⟨fun b o e => ?_, fun b o e => ?_⟩, os, bare⟩
      · by_cases hb : b ∈ cs.map (·.2)
        · obtain ⟨p, hp, ep⟩ := List.mem_map.mp hb
          obtain ⟨more, hm⟩ := grown p hp
          rw [← ep] at e ⊢
          rw [hT p hp] at e
          cases e
          exact .inr (.inl ⟨((C p hp).tab (hT p hp)).isCodeTable, rfl, #[], more, rfl, by rw [Array.empty_append]; exact hm⟩)
        · exact .inl (key b o hb e)
      · by_cases hb : b ∈ cs.map (·.2)
        · obtain ⟨p, hp, ep⟩ := List.mem_map.mp hb
          obtain ⟨more, hm⟩ := grown p hp
          rw [← ep]
          exact ⟨_, hm⟩
        · exact ⟨o, key b o hb e⟩
/-- what is known of the asked def's promise at the head's heap h -/
def SpecAtT (r : PySem.W.OpenSpec) (w : World) (K : PySem.W.Frag) (CX : CXT) (k : Nat) (ps : List Str) (mg : Str → Option Value) (fa : Addr) (h : Heap) : Prop :=
  ∃ (fd : FuncData) (cs : List (Addr × Addr)) (sp : Sp), (∀ p ∈ cs, h.get? p.2 = some { cls := .none, data := .fields #[] }) ∧ (∀ p ∈ cs, K.lookup p.2 = none) ∧ (∀ p ∈ cs, PySem.W.CodeHd h p.1 p.2) ∧
    (∀ (s : Shared) (us : List Value), us.length = ps.length → BindsTo s fd ⟨us, []⟩ (ps.zip us)) ∧
    (∀ (H : Hp) (xs : List V) (a : Codec.denoteAll r.args), (∀ p ∈ cs, H p.2 = some (.tbl #[])) → Codec.withinAll r.args a = true → DwAll K H xs (Codec.encAll r.args a) →
      sp xs H (fun v H' => Dw K H' v (r.ret.enc (Codec.app r.args r.f a))) fun _ _ _ => False) ∧
    ∀ base : Heap, K.In base → base.Ns mainGlobals mg → (∀ p ∈ cs, LamX.TabB base mg p.1 p.2) → FnOk r.prog w K mg base CX k fa fd ps sp
theorem walk_specT {r : PySem.W.OpenSpec} {k : Nat} {q : Program} {loose : List Str} {XP : (Str → Option Value) → Heap → Prop} {YP : World → Heap → Prop} {d : DefRec} {CX : World → CXT} {ps : List Str}
    (hwell : r.wellSaid = true) (hdf : d.params.defaults = []) (hlen : r.args.length = ps.length) (hr : Room k callerA)
    (F : ∀ (w : World) (mg : Str → Option Value) (fa : Addr) (h : Heap), YP w h → h.Ns mainGlobals mg → mg d.name = some (.ref fa) → ∃ K : PySem.W.Frag, K.In h ∧ SpecAtT r w K (CX w) k ps mg fa h)
    (hCX : ∀ (w : World) (H : Hp) (s : Shared) (e : Value) (s' : Shared), CX w [] H s (fun _ _ _ => False) e s' → False) :
    PySem.W.WalkOS q loose XP YP r d [] (fun f vs => PySem.call f vs) := by
  intro w s₀ s₁ mg mb G Y fa o pm cd doc dV kV ho hd hcd hD hmg hg args vals as hpre hlay hrd hwl hlo
  obtain ⟨a, e1, e2⟩ := PySem.W.os_pre_some hpre
  obtain ⟨e3, hwi⟩ := Codec.encAll_of_decAll r.args args a e1
  subst e3
  obtain ⟨K, KX, fd, cs, sp, hT, nT, C, hb, hsp, hF⟩ := F w mg fa _ Y G.T.g hmg
  refine PySem.W.enter_call (codeAny_mono (spec_callT (R := []) (cl := classAt s₀.heap) (d0 := r.ret.enc (Codec.app r.args r.f a)) KX G.T.g G.T.b G.T.builtins G.T.nolimit hg hT nT C G.T.bmain hwl (pl_encAll _ _) (layable_weight hlay) hr hF hb (by rw [encAll_len]; exact hlen)
    (fun H xs hH hS => hsp H xs a hH hwi hS) fun H e s' => hCX w H s₁ e s') fun r' s' hq => ?_)
  obtain ⟨u, as', rfl, h1, h2, h3, h4⟩ := hq
  exact ⟨.inl ⟨u, _, as', rfl, fun _ => rfl, h1, (PySem.W.OpenSpec.post_iff hwell hwi _ _).mpr rfl, fun z => Bool.noConfusion (show false = true from z)⟩, h2, h3, h4⟩
end Bk

/-! told_or_refused(lambda: ..): a try with four clauses, each of which returns a list of one number. -/
namespace Bk
open PySem PySem.Spec PyProof.Rows L2 LamX
/-- the four refusals by place -/
inductive Ref4 where
  | mal | loop | could | fit
deriving DecidableEq
def Ref4.code : Ref4 → Int
  | .mal => -22
  | .loop => -33
  | .could => -16
  | .fit => -34
/-- what is answered where a refusal is due -/
def Refuse (Cs : Ref4 → Addr) (Q : VK) : XK := fun cls _ H' => ∃ i : Ref4, cls = .ref (Cs i) ∧ ∀ p, H' p = none → Q (.ref p) (upd H' p (.lst [.int i.code]))
def Told4 (Cs : Ref4 → Addr) : (XK → Hp → VK → Prop) → Hp → VK → Prop := fun tl H Q => tl (Refuse Cs Q) H Q
/-- except e: return [-k] -/
abbrev hd4 (e : Str) (k : Int) (j : Nat) (p1 p2 p3 p4 p5 p6 : Pos) : ExceptHandler := .ExceptHandler (some (.Name e p1)) none [.Return (some (.List [.UnaryOp .USub (.Constant (.int k) j p2) p3] p4)) p5] p6
def t_hd (k : Int) : TS := tRet (tLst (tCons (tUn (rU fun i => .int (-i)) (tC (.int k))) tNil))
section
variable {X : Cx}
theorem told_gives4 {Ng : List Str} {x a q e1 e2 e3 e4 : Str} {sg : Scope} {g : Addr} {cdg : Value} {Cs : Ref4 → Addr} {j1 j2 j3 j4 : Nat} {p1 p2 p3 p8 : Pos}
    {a1 a2 a3 a4 a5 a6 b1 b2 b3 b4 b5 b6 c1 c2 c3 c4 c5 c6 d1 d2 d3 d4 d5 d6 : Pos}
    (g1 : sg.names.lookup e1 = some .globalImplicit) (g2 : sg.names.lookup e2 = some .globalImplicit) (g3 : sg.names.lookup e3 = some .globalImplicit) (g4 : sg.names.lookup e4 = some .globalImplicit)
    (m1 : X.mg e1 = some (.ref (Cs .mal))) (m2 : X.mg e2 = some (.ref (Cs .loop))) (m3 : X.mg e3 = some (.ref (Cs .could))) (m4 : X.mg e4 = some (.ref (Cs .fit)))
    (n1 : (e1 == ("__debug__" : Str)) = false) (n2 : (e2 == ("__debug__" : Str)) = false) (n3 : (e3 == ("__debug__" : Str)) = false) (n4 : (e4 == ("__debug__" : Str)) = false)
    (hex : ∀ i j, PySem.W.exmOne X.K (.ref (Cs i)) (.ref (Cs j)) = some (decide (i = j)))
    (h0 : ∀ f : Addr, (L2.start Ng [V.ref f])[0]? = some (some (V.ref f))) :
    GivesTo X Ng x sg g cdg [.Try [.Return (some (.Call (.Name a p1) [] [] p2)) p3]
      [hd4 e1 22 j1 a1 a2 a3 a4 a5 a6, hd4 e2 33 j2 b1 b2 b3 b4 b5 b6, hd4 e3 16 j3 c1 c2 c3 c4 c5 c6, hd4 e4 34 j4 d1 d2 d3 d4 d5 d6] [] [] p8] a q (Told4 Cs) := by
  intro f c' s H Q tl act hc h
  have one : ∀ (Y : Cx) (k : Int) (j : Nat) (q1 q2 q3 q4 : Pos), PSs Y [.Return (some (.List [.UnaryOp .USub (.Constant (.int k) j q1) q2] q3)) q4] (t_hd k) := fun Y k j q1 q2 q3 q4 =>
    pss_one (ps_ret (pe_lst (pa_cons (pe_un un_neg pe_int) pa_nil)))
  refine ⟨_, pss_one (ps_try_many (X := (cxOf C8.CX0 X.prog X.w X.K X.mg X.base Ng x sg g cdg X.A X.stack s H C8.E0).nox)
      (l := [(.ref (Cs .mal), fun _ _ _ => t_hd 22), (.ref (Cs .loop), fun _ _ _ => t_hd 33), (.ref (Cs .could), fun _ _ _ => t_hd 16), (.ref (Cs .fit), fun _ _ _ => t_hd 34)])
      (tb := fun W D σ H => ∃ Ech : XK, (∀ cls d σ' H', Ech cls d H' → W cls d σ' H') ∧ σ[0]? = some (some (.ref f)) ∧ H c' = some (CodeO c' q) ∧ tl Ech H D.rt)
      rfl rfl L2.takes0 (fun W pn xe tk _ => ?_)
      (.cons ⟨g1, n1, .inl m1⟩ (fun _ _ _ _ _ _ _ => one _ _ _ _ _ _ _) (.cons ⟨g2, n2, .inl m2⟩ (fun _ _ _ _ _ _ _ => one _ _ _ _ _ _ _) (.cons ⟨g3, n3, .inl m3⟩ (fun _ _ _ _ _ _ _ => one _ _ _ _ _ _ _) (.cons ⟨g4, n4, .inl m4⟩ (fun _ _ _ _ _ _ _ => one _ _ _ _ _ _ _) .nil))))), ?_⟩
  · refine ⟨fun pins s' σ H' D I h' => ?_⟩
    obtain ⟨Ech, hW, h1, h2, h3⟩ := h'
    have hp := act W pn xe Ech p1 p2 tk hW
    have hq := pss_one (ps_ret (pos := p3) hp)
    exact hq.run pins s' σ H' D I ⟨h1, h2, h3⟩
  · refine ⟨Refuse Cs Q, fun cls d σ' H' ⟨i, e, hp⟩ => ?_, h0 f, hc, h⟩
    subst e
    have fin : ∀ (k : Int), -k = i.code → ∀ a, H' a = none → t_hd k { nx := fun _ H'' => Q .non H'', rt := Q } σ' H' := fun k ek a _ => by
      refine ⟨k, rfl, ?_⟩
      exact ⟨by show 1 ≤ sizeLine; decide, fun p hn => by
        show Q (V.ref p) (upd H' p (HO.lst [V.int (-k)]))
        rw [ek]
        exact hp p hn⟩
    cases i with
    | mal => exact ⟨_, hex .mal .mal, fun _ => fin 22 rfl, (fun z => nomatch z)⟩
    | loop =>
      exact ⟨_, hex .loop .mal, (fun z => nomatch z), fun _ => ⟨_, hex .loop .loop, fun _ => fin 33 rfl, (fun z => nomatch z)⟩⟩
    | could =>
      exact ⟨_, hex .could .mal, (fun z => nomatch z), fun _ => ⟨_, hex .could .loop, (fun z => nomatch z), fun _ => ⟨_, hex .could .could, fun _ => fin 16 rfl, (fun z => nomatch z)⟩⟩⟩
    | fit =>
      exact ⟨_, hex .fit .mal, (fun z => nomatch z), fun _ => ⟨_, hex .fit .loop, (fun z => nomatch z), fun _ => ⟨_, hex .fit .could, (fun z => nomatch z), fun _ => ⟨_, hex .fit .fit, fun _ => fin 34 rfl, (fun z => nomatch z)⟩⟩⟩⟩
end
end Bk

/-! The rules with the written part named, so that a comprehension's block can use them. -/
namespace Bk
open PySem PySem.Spec PyProof.Rows L2
theorem bt_tuple : bootBuiltins "tuple" = some (.type "tuple") := by decide +kernel
theorem bt_list : bootBuiltins "list" = some (.type "list") := by decide +kernel
theorem bt_all : bootBuiltins "all" = some (.builtin "all") := by decide +kernel
theorem bt_any : bootBuiltins "any" = some (.builtin "any") := by decide +kernel
theorem bt_sum : bootBuiltins "sum" = some (.builtin "sum") := by decide +kernel
theorem bt_max : bootBuiltins "max" = some (.builtin "max") := by decide +kernel
theorem bt_len : bootBuiltins "len" = some (.builtin "len") := by decide +kernel
theorem bt_sorted : bootBuiltins "sorted" = some (.builtin "sorted") := by decide +kernel
section
variable {X : Cx} {K : PySem.W.Frag}
def rTupOf (K : PySem.W.Frag) : List V → Hp → VK → Prop := fun xs H Q => ∃ p ys, xs = [.ref p] ∧ ((SqL K H p ys ∧ ∀ l, H l = none → Q (.ref l) (upd H l (.tup ys))) ∨ (SqT K H p ys ∧ Q (.ref p) H))
def rListOf (K : PySem.W.Frag) : List V → Hp → VK → Prop := fun xs H Q => ∃ p ys, xs = [.ref p] ∧ (SqL K H p ys ∨ SqT K H p ys) ∧ ∀ l, H l = none → Q (.ref l) (upd H l (.lst ys))
def rLenOf (K : PySem.W.Frag) : List V → Hp → VK → Prop := fun xs H Q => ∃ p ys, xs = [.ref p] ∧ (SqL K H p ys ∨ SqT K H p ys) ∧ Q (.int ys.length) H
theorem kTuple (e : X.K = K := by rfl) : CallR X (.type "tuple") (rTupOf K) := by subst e; exact call_tuple_of
theorem kList (e : X.K = K := by rfl) : CallR X (.type "list") (rListOf K) := by subst e; exact call_list_of
theorem kLen (e : X.K = K := by rfl) : CallR X (.builtin "len") (rLenOf K) := by subst e; exact call_len_seq
theorem kAll (hc : X.calm = true) (e : X.K = K := by rfl) : CallR X (.builtin "all") (rAll K) := by subst e; exact cr_all hc
theorem kAny (hc : X.calm = true) (e : X.K = K := by rfl) : CallR X (.builtin "any") (rAny K) := by subst e; exact cr_any hc
theorem kSum (hc : X.calm = true) (e : X.K = K := by rfl) : CallR X (.builtin "sum") (rSum K) := by subst e; exact cr_sum hc
theorem kSlL (e : X.K = K := by rfl) : SlR X (rSlL K) := by subst e; exact sl_list
theorem kIxL (e : X.K = K := by rfl) : IxR X (rIxL K) := by subst e; exact ix_list
theorem kIxT (e : X.K = K := by rfl) : IxR X (rIxT K) := by subst e; exact ix_tup
theorem kIn (e : X.K = K := by rfl) : OpR X (compareOp .In) (rIn K false) := by subst e; exact op_in_seq
theorem kNotIn (e : X.K = K := by rfl) : OpR X (compareOp .NotIn) (rIn K true) := by subst e; exact op_notIn_seq
theorem kInD (hu : X.A.units + 65 < cLine) (e : X.K = K := by rfl) : OpR X (compareOp .In) (rInD K) := by subst e; exact op_inD hu
theorem kNotInD (hu : X.A.units + 65 < cLine) (e : X.K = K := by rfl) : OpR X (compareOp .NotIn) (rNotInD K) := by subst e; exact op_notInD hu
theorem kEqD (hu : X.A.units + 64 < cLine) (e : X.K = K := by rfl) : OpR X (compareOp .Eq) (rEqD K) := by subst e; exact op_eqD hu
theorem kNeD (hu : X.A.units + 64 < cLine) (e : X.K = K := by rfl) : OpR X (compareOp .NotEq) (rNeD K) := by subst e; exact op_neD hu
theorem kFld {o : Expr} {f : Str} {ta : TE} {pos : Pos} (he : PE X o ta) (hb : attributeBase o f X.env (eval o X.env) = eval o X.env) (e : X.K = K := by rfl) : PE X (.Attribute o f pos) (tFld K ta f) := by subst e; exact pe_fld he hb
theorem kSetF {o v : Expr} {f : Str} {ta tv : TE} {pos pos' : Pos} (ha : PE X o ta) (hv : PE X v tv) (hs : swapsWith v (some (.Attribute o f pos')) pos.line X.env = pure false) (e : X.K = K := by rfl) : PS X (.Assign [.Attribute o f pos'] v pos) (sFld K ta tv f) := by subst e; exact ps_fld ha hv hs
theorem kIt {tg l : Expr} {tl : TE} (hl : PE X l tl) (e : X.K = K := by rfl) : PI X tg l (iList K tl) := by subst e; exact pi_list hl
theorem kItT {tg l : Expr} {tl : TE} (hl : PE X l tl) (e : X.K = K := by rfl) : PI X tg l (iTup K tl) := by subst e; exact pi_tup hl
def tTruth (K : PySem.W.Frag) (ta : TE) : TT := fun σ H Q => ta σ H fun x H' => ∃ k, TruV K x H' k ∧ Q k H'
theorem kTruth {a : Expr} {ta : TE} (ha : PE X a ta) (he : ∀ whole, isTrue a X.env whole = (do let v ← whole; standAt a.pos; holding [v] (truthy v))) (e : X.K = K := by rfl) : PT X a (tTruth K ta) := by subst e; exact pt_truth ha he
theorem kTupT {es : List Expr} {k : Nat} {t : TGs} {n : Nat} {pos : Pos} (hc : X.calm = true) (h : PGs X es t) (hn : (assignEach es X.env).length = n := by rfl) (hst : (assignEach es X.env).findIdx? (·.1) = none := by rfl) (e : X.K = K := by rfl) : PG X (.Tuple es k pos) (gTup K n t) := by subst e; exact pg_tup hc h hn hst
def rExt (K : PySem.W.Frag) : V → List V → Hp → VK → Prop := rExtend
end
end Bk

/-! Mathematics of a book's form: what the program reads is what the specification's bookOf reads. -/
namespace BkM
open Ks480 Ks482

def cutW (w : Nat) (row : List Nat) : List (List Nat) := (List.range (row.length / w)).map fun i => (row.drop (w * i)).take w

theorem cutW_nil (w : Nat) : cutW w [] = [] := by simp [cutW]
theorem cutW_append {w : Nat} (hw : 0 < w) {a r : List Nat} (ha : a.length = w) : cutW w (a ++ r) = a :: cutW w r := by
  unfold cutW
  have e : (a ++ r).length / w = r.length / w + 1 := by
    rw [List.length_append, ha, Nat.add_comm, Nat.add_div_right _ hw]
  rw [e, List.range_succ_eq_map, List.map_cons, List.map_map]
  congr 1
  · simp [← ha]
  · apply List.map_congr_left
    intro i _
    show (List.drop (w * (i + 1)) (a ++ r)).take w = _
    rw [Nat.mul_succ, Nat.add_comm, ← ha, List.drop_append, List.drop_eq_nil_of_le (Nat.le_add_right _ _)]
    simp
theorem cutW_len {w : Nat} (hw : 0 < w) {row : List Nat} (h : row.length % w = 0) : ∀ c ∈ cutW w row, c.length = w := by
  intro c hc
  unfold cutW at hc
  obtain ⟨i, hi, rfl⟩ := List.mem_map.mp hc
  have hi := List.mem_range.mp hi
  have := Nat.div_add_mod row.length w
  have h2 : w * (i + 1) ≤ w * (row.length / w) := Nat.mul_le_mul_left w hi
  rw [Nat.mul_succ] at h2
  simp only [List.length_take, List.length_drop]
  omega

def isHap : List Nat → Bool
  | [k, i, x] => if k = 2 ∨ k = 3 then x == 0 else if k = 5 then i == 0 && x == 0 else decide (k < 5)
  | _ => false
def evRow : Ev → List Nat
  | .done i x => [0, i, x]
  | .failed i x => [1, i, x]
  | .off i => [2, i, 0]
  | .fired i => [3, i, 0]
  | .word c x => [4, c, x]
  | .callOff => [5, 0, 0]
theorem evRow_inj : ∀ {a b : Ev}, evRow a = evRow b → a = b := by
  intro a b h
  cases a <;> cases b <;> simp_all [evRow]
theorem evRow_len (e : Ev) : (evRow e).length = 3 := by cases e <;> rfl
theorem ev_of {k i x : Nat} : (∃ e, ev k i x = some e ∧ evRow e = [k, i, x] ∧ isHap [k, i, x] = true) ∨ (ev k i x = none ∧ isHap [k, i, x] = false) := by
  match k with
  | 0 => exact .inl ⟨_, rfl, rfl, rfl⟩
  | 1 => exact .inl ⟨_, rfl, rfl, rfl⟩
  | 2 =>
    match x with
    | 0 => exact .inl ⟨_, rfl, rfl, rfl⟩
    | x + 1 => exact .inr ⟨rfl, rfl⟩
  | 3 =>
    match x with
    | 0 => exact .inl ⟨_, rfl, rfl, rfl⟩
    | x + 1 => exact .inr ⟨rfl, rfl⟩
  | 4 => exact .inl ⟨_, rfl, rfl, rfl⟩
  | 5 =>
    match i, x with
    | 0, 0 => exact .inl ⟨_, rfl, rfl, rfl⟩
    | 0, x + 1 => exact .inr ⟨rfl, rfl⟩
    | i + 1, 0 => exact .inr ⟨rfl, rfl⟩
    | i + 1, x + 1 => exact .inr ⟨rfl, rfl⟩
  | k + 6 =>
    refine .inr ⟨rfl, ?_⟩
    have h1 : ¬ (k + 6 = 2 ∨ k + 6 = 3) := by omega
    have h2 : ¬ (k + 6 = 5) := by omega
    have h3 : ¬ (k + 6 < 5) := by omega
    simp [isHap, h2, h3]
/-- what happened, read -/
theorem evs_some : ∀ {h : List Nat} {es : List Ev}, evs h = some es → h.length % 3 = 0 ∧ cutW 3 h = es.map evRow ∧ (cutW 3 h).all isHap = true
  | [], es, h => by
    cases h
    exact ⟨rfl, rfl, rfl⟩
  | [a], es, h => by cases h
  | [a, b], es, h => by cases h
  | k :: i :: x :: l, es, h => by
    have h' : (match ev k i x, evs l with | some e, some r => some (e :: r) | _, _ => none) = some es := h
    cases h1 : ev k i x with
    | none => rw [h1] at h'; cases h'
    | some e =>
      cases h2 : evs l with
      | none => rw [h1, h2] at h'; cases h'
      | some r =>
        rw [h1, h2] at h'
        cases h'
        obtain ⟨p1, p2, p3⟩ := evs_some h2
        rcases ev_of (k := k) (i := i) (x := x) with ⟨e', q1, q2, q3⟩ | ⟨q1, _⟩
        · rw [h1] at q1
          cases q1
          have c : cutW 3 (k :: i :: x :: l) = [k, i, x] :: cutW 3 l := cutW_append (a := [k, i, x]) (r := l) (by decide) rfl
          refine ⟨?_, ?_, ?_⟩
          · simp only [List.length_cons]
            omega
          · rw [c, p2, List.map_cons, q2]
          · rw [c, List.all_cons, q3, p3]
            rfl
        · rw [h1] at q1; cases q1
theorem evs_none : ∀ {h : List Nat}, evs h = none → h.length % 3 = 0 → (cutW 3 h).all isHap = false
  | [], h, _ => by cases h
  | [a], h, z => by simp at z
  | [a, b], h, z => by simp at z
  | k :: i :: x :: l, h, z => by
    have h' : (match ev k i x, evs l with | some e, some r => some (e :: r) | _, _ => none) = none := h
    have c : cutW 3 (k :: i :: x :: l) = [k, i, x] :: cutW 3 l := cutW_append (a := [k, i, x]) (r := l) (by decide) rfl
    rw [c, List.all_cons]
    rcases ev_of (k := k) (i := i) (x := x) with ⟨e', q1, q2, q3⟩ | ⟨q1, q2⟩
    · cases h2 : evs l with
      | none =>
        have := evs_none h2 (by simp only [List.length_cons] at z; omega)
        rw [this, Bool.and_false]
      | some r => rw [q1, h2] at h'; cases h'
    · rw [q2]
      rfl

def bidRow (b : Bid) : List Nat := [b.kind, b.a, b.b, b.c]
theorem bidRow_inj {a b : Bid} (h : bidRow a = bidRow b) : a = b := by
  cases a; cases b; simp_all [bidRow]
def okBid : List Nat → Bool
  | k :: _ => decide (k ≤ 6)
  | _ => false
theorem bidsOf_some : ∀ {l : List Nat} {bs : List Bid}, bidsOf l = some bs → l.length % 4 = 0 ∧ cutW 4 l = bs.map bidRow ∧ (cutW 4 l).all okBid = true
  | [], es, h => by
    cases h
    exact ⟨rfl, rfl, rfl⟩
  | [a], es, h => by cases h
  | [a, b], es, h => by cases h
  | [a, b, c], es, h => by cases h
  | k :: a :: b :: c :: l, bs, h => by
    have h' : (match bidOf k a b c, bidsOf l with | some e, some r => some (e :: r) | _, _ => none) = some bs := h
    cases h1 : bidOf k a b c with
    | none => rw [h1] at h'; cases h'
    | some e =>
      cases h2 : bidsOf l with
      | none => rw [h1, h2] at h'; cases h'
      | some r =>
        rw [h1, h2] at h'
        cases h'
        obtain ⟨p1, p2, p3⟩ := bidsOf_some h2
        unfold bidOf at h1
        split at h1
        · rename_i hk
          cases h1
          have cc : cutW 4 (k :: a :: b :: c :: l) = [k, a, b, c] :: cutW 4 l := cutW_append (a := [k, a, b, c]) (r := l) (by decide) rfl
          refine ⟨?_, ?_, ?_⟩
          · simp only [List.length_cons]
            omega
          · rw [cc, p2, List.map_cons]
            rfl
          · rw [cc, List.all_cons, p3, Bool.and_true]
            exact decide_eq_true hk
        · cases h1
theorem bidsOf_none : ∀ {l : List Nat}, bidsOf l = none → l.length % 4 = 0 → (cutW 4 l).all okBid = false
  | [], h, _ => by cases h
  | [a], h, z => by simp at z
  | [a, b], h, z => by simp at z
  | [a, b, c], h, z => by simp at z
  | k :: a :: b :: c :: l, h, z => by
    have h' : (match bidOf k a b c, bidsOf l with | some e, some r => some (e :: r) | _, _ => none) = none := h
    have cc : cutW 4 (k :: a :: b :: c :: l) = [k, a, b, c] :: cutW 4 l := cutW_append (a := [k, a, b, c]) (r := l) (by decide) rfl
    rw [cc, List.all_cons]
    by_cases hk : k ≤ 6
    · have e1 : bidOf k a b c = some ⟨k, a, b, c⟩ := if_pos hk
      cases h2 : bidsOf l with
      | none =>
        have := bidsOf_none h2 (by simp only [List.length_cons] at z; omega)
        rw [this, Bool.and_false]
      | some r => rw [e1, h2] at h'; cases h'
    · have : okBid [k, a, b, c] = false := decide_eq_false hk
      rw [this]
      rfl

/-- the pages as the program cuts them: from a start on -/
def pagesFrom {α : Type} : Nat → List Nat → List α → List (List α)
  | _, [], _ => []
  | at_, n :: l, b => (b.drop at_).take n :: pagesFrom (at_ + n) l b
theorem pagesFrom_drop {α : Type} (b : List α) : ∀ (l : List Nat) (i k : Nat), pagesFrom i l (b.drop k) = pagesFrom (k + i) l b
  | [], _, _ => rfl
  | n :: l, i, k => by
    show ((b.drop k).drop i).take n :: pagesFrom (i + n) l (b.drop k) = (b.drop (k + i)).take n :: pagesFrom (k + i + n) l b
    rw [pagesFrom_drop b l, List.drop_drop, Nat.add_assoc]
theorem pagesFrom_length {α : Type} (b : List α) : ∀ (l : List Nat) (i : Nat), (pagesFrom i l b).length = l.length
  | [], _ => rfl
  | n :: l, i => congrArg (· + 1) (pagesFrom_length b l (i + n))
theorem pagesFrom_map {α β : Type} (f : α → β) (b : List α) : ∀ (l : List Nat) (i : Nat), pagesFrom i l (b.map f) = (pagesFrom i l b).map (List.map f)
  | [], _ => rfl
  | n :: l, i => by
    show ((b.map f).drop i).take n :: pagesFrom (i + n) l (b.map f) = _
    rw [pagesFrom_map f b l, ← List.map_drop, ← List.map_take]
    rfl
theorem cut_is : ∀ (l : List Nat) (b : List Bid), Ks482.cut l b = if l.sum = b.length then some (pagesFrom 0 l b) else none
  | [], [] => rfl
  | [], x :: r => by
    rw [if_neg (by simp)]
    rfl
  | n :: l, b => by
    show (if b.length < n then none else match Ks482.cut l (b.drop n) with | some r => some (b.take n :: r) | none => none) = _
    by_cases h : b.length < n
    · rw [if_pos h, if_neg (by rw [List.sum_cons]; omega)]
    · rw [if_neg h, cut_is l (b.drop n)]
      have e : (l.sum = (b.drop n).length) ↔ ((n :: l).sum = b.length) := by
        rw [List.length_drop, List.sum_cons]
        omega
      by_cases h2 : l.sum = (b.drop n).length
      · rw [if_pos h2, if_pos (e.mp h2)]
        show some (b.take n :: pagesFrom 0 l (b.drop n)) = some ((b.drop 0).take n :: pagesFrom (0 + n) l b)
        rw [pagesFrom_drop, List.drop_zero, Nat.add_comm]
      · rw [if_neg h2, if_neg (fun q => h2 (e.mpr q))]

/-- what read_book finds wrong -/
structure Formed (h sizes bids : List Nat) : Prop where
  h3 : h.length % 3 = 0
  most : h.length / 3 ≤ 60
  haps : (cutW 3 h).all isHap = true
  b4 : bids.length % 4 = 0
  len : sizes.length = h.length / 3 + 1
  sum : sizes.sum = bids.length / 4
  kinds : (cutW 4 bids).all okBid = true
theorem cutW_length (w : Nat) (row : List Nat) : (cutW w row).length = row.length / w := by simp [cutW]
theorem bookOf_none {h sizes bids : List Nat} (e : bookOf h sizes bids = none) : ¬ Formed h sizes bids := fun F => by
  unfold bookOf at e
  cases h1 : evs h with
  | none =>
    have := evs_none h1 F.h3
    rw [F.haps] at this
    cases this
  | some es =>
    cases h2 : bidsOf bids with
    | none =>
      have := bidsOf_none h2 F.b4
      rw [F.kinds] at this
      cases this
    | some bs =>
      rw [h1, h2] at e
      obtain ⟨p1, p2, p3⟩ := evs_some h1
      obtain ⟨q1, q2, q3⟩ := bidsOf_some h2
      have l1 : es.length = h.length / 3 := by rw [← cutW_length, p2, List.length_map]
      have l2 : bs.length = bids.length / 4 := by rw [← cutW_length, q2, List.length_map]
      have hm : ¬ (Ks480.MOST < es.length) := by
        have := F.most
        show ¬ (60 < es.length)
        omega
      have e2 : Ks482.cut sizes bs = some (pagesFrom 0 sizes bs) := by rw [cut_is, if_pos (by rw [F.sum, l2])]
      simp only [e2, if_neg hm] at e
      have fl := F.len
      cases hs : sizes with
      | nil => rw [hs] at fl; simp at fl
      | cons n l =>
        rw [hs] at e
        simp only [pagesFrom] at e
        rw [hs] at fl
        rw [if_pos (by rw [pagesFrom_length, l1]; simp only [List.length_cons] at fl; omega)] at e
        cases e
theorem bookOf_some {h sizes bids : List Nat} {b : Book} (e : bookOf h sizes bids = some b) : Formed h sizes bids ∧ cutW 3 h = b.rest.map (fun p => evRow p.1) ∧
    pagesFrom 0 sizes (cutW 4 bids) = (b.first :: b.rest.map (·.2)).map (List.map bidRow) ∧ cutW 4 bids = (allBids b).map bidRow := by
  unfold bookOf at e
  cases h1 : evs h with
  | none => rw [h1] at e; cases e
  | some es =>
    cases h2 : bidsOf bids with
    | none => rw [h1, h2] at e; cases e
    | some bs =>
      rw [h1, h2] at e
      obtain ⟨p1, p2, p3⟩ := evs_some h1
      obtain ⟨q1, q2, q3⟩ := bidsOf_some h2
      have l1 : es.length = h.length / 3 := by rw [← cutW_length, p2, List.length_map]
      have l2 : bs.length = bids.length / 4 := by rw [← cutW_length, q2, List.length_map]
      by_cases hm : Ks480.MOST < es.length
      · simp only [if_pos hm] at e; cases e
      · simp only [if_neg hm] at e
        have hm' : ¬ (60 < es.length) := hm
        by_cases hs : sizes.sum = bs.length
        · rw [cut_is, if_pos hs] at e
          cases hz : sizes with
          | nil => rw [hz] at e; cases e
          | cons n l =>
            rw [hz] at e hs
            simp only [pagesFrom] at e
            by_cases hl : (pagesFrom (0 + n) l bs).length = es.length
            · rw [if_pos hl] at e
              cases e
              have hl' := hl
              rw [pagesFrom_length] at hl'
              have z1 : (es.zip (pagesFrom (0 + n) l bs)).map (·.1) = es := List.map_fst_zip (by omega)
              have z2 : (es.zip (pagesFrom (0 + n) l bs)).map (·.2) = pagesFrom (0 + n) l bs := List.map_snd_zip (by omega)
              refine ⟨⟨p1, by omega, p3, q1, by simp only [List.length_cons]; omega, by omega, q3⟩, ?_, ?_, ?_⟩
              · rw [p2]
                conv => lhs; rw [← z1]
                rw [List.map_map]
                rfl
              · rw [q2, pagesFrom_map]
                simp only [pagesFrom, z2]
              · rw [q2]
                congr 1
                have fl : ∀ (l : List Nat) (i : Nat), (pagesFrom i l bs).flatten = (bs.drop i).take l.sum := by
                  intro l
                  induction l with
                  | nil => intro i; simp [pagesFrom]
                  | cons m r ih =>
                    intro i
                    simp only [pagesFrom, List.flatten_cons, ih, List.sum_cons]
                    rw [List.take_add, List.drop_drop]
                have := fl (n :: l) 0
                rw [hs] at this
                simp only [pagesFrom, List.flatten_cons, List.drop_zero, List.take_length] at this
                show bs = List.take n (List.drop 0 bs) ++ (es.zip (pagesFrom (0 + n) l bs)).flatMap (fun p => p.2)
                rw [List.flatMap_def, z2, List.drop_zero, this]
            · rw [if_neg hl] at e; cases e
        · rw [cut_is, if_neg hs] at e; cases e
end BkM


namespace Bk
open PySem PySem.Spec PyProof.Rows L2
def extraB (_ : PySem.W.Frag) : Bool := true
def topS (i : Nat) : Stmt := PySem.Challenge.pw_bookagain_s07_open_of.main.body.getD i (.Pass ⟨0, 0, 0, 0⟩)
abbrev s__wall : Stmt := topS 0
abbrev s_cut : Stmt := topS 18
abbrev s_is_happening : Stmt := topS 19
abbrev s_read_happenings : Stmt := topS 20
abbrev s_read_book : Stmt := topS 21
abbrev s_read_pages : Stmt := topS 22
abbrev s_Outstanding_may_come : Stmt := inClass (topS 24) 0
abbrev s_Alone_init : Stmt := inClass (topS 26) 0
abbrev s_Alone_bids_of_kind : Stmt := inClass (topS 26) 1
abbrev s_Alone_is_answered : Stmt := inClass (topS 26) 2
abbrev s_Alone_still_runs : Stmt := inClass (topS 26) 3
abbrev s_Alone_is_over : Stmt := inClass (topS 26) 4
abbrev s_Alone_was_called_off : Stmt := inClass (topS 26) 5
abbrev s_open_of : Stmt := topS 28
abbrev s_told_or_refused : Stmt := topS 29
abbrev s_told_outstanding : Stmt := topS 30
def dfs0 : List He.DefD := [
  ⟨("_wall", none), "_wall", "_wall", defArgs s__wall, defBody s__wall, defScope s__wall, [], []⟩,
  ⟨("cut", none), "cut", "cut", defArgs s_cut, defBody s_cut, defScope s_cut, [], []⟩,
  ⟨("is_happening", none), "is_happening", "is_happening", defArgs s_is_happening, defBody s_is_happening, defScope s_is_happening, [], []⟩,
  ⟨("read_happenings", none), "read_happenings", "read_happenings", defArgs s_read_happenings, defBody s_read_happenings, defScope s_read_happenings, [], []⟩,
  ⟨("read_book", none), "read_book", "read_book", defArgs s_read_book, defBody s_read_book, defScope s_read_book, [], []⟩,
  ⟨("read_pages", none), "read_pages", "read_pages", defArgs s_read_pages, defBody s_read_pages, defScope s_read_pages, [], []⟩,
  ⟨("Outstanding", some "may_come"), "may_come", "Outstanding.may_come", defArgs s_Outstanding_may_come, defBody s_Outstanding_may_come, defScope s_Outstanding_may_come, [], []⟩,
  ⟨("Alone", some "__init__"), "__init__", "Alone.__init__", defArgs s_Alone_init, defBody s_Alone_init, defScope s_Alone_init, [], []⟩,
  ⟨("Alone", some "bids_of_kind"), "bids_of_kind", "Alone.bids_of_kind", defArgs s_Alone_bids_of_kind, defBody s_Alone_bids_of_kind, defScope s_Alone_bids_of_kind, [], []⟩,
  ⟨("Alone", some "is_answered"), "is_answered", "Alone.is_answered", defArgs s_Alone_is_answered, defBody s_Alone_is_answered, defScope s_Alone_is_answered, [], []⟩,
  ⟨("Alone", some "still_runs"), "still_runs", "Alone.still_runs", defArgs s_Alone_still_runs, defBody s_Alone_still_runs, defScope s_Alone_still_runs, [], []⟩,
  ⟨("Alone", some "is_over"), "is_over", "Alone.is_over", defArgs s_Alone_is_over, defBody s_Alone_is_over, defScope s_Alone_is_over, [], []⟩,
  ⟨("Alone", some "was_called_off"), "was_called_off", "Alone.was_called_off", defArgs s_Alone_was_called_off, defBody s_Alone_was_called_off, defScope s_Alone_was_called_off, [], []⟩,
  ⟨("open_of", none), "open_of", "open_of", defArgs s_open_of, defBody s_open_of, defScope s_open_of, [], []⟩,
  ⟨("told_or_refused", none), "told_or_refused", "told_or_refused", defArgs s_told_or_refused, defBody s_told_or_refused, defScope s_told_or_refused, [], []⟩,
  ⟨("told_outstanding", none), "told_outstanding", "told_outstanding", defArgs s_told_outstanding, defBody s_told_outstanding, defScope s_told_outstanding, [], []⟩]
def dfs : List He.DefD := dfs0
def fas0 : List He.Fa := [
  .glo "_wall",
  .glo "cut",
  .glo "is_happening",
  .glo "read_happenings",
  .glo "read_book",
  .glo "read_pages",
  .glo "open_of",
  .glo "told_or_refused",
  .glo "told_outstanding",
  .glo "Malformed",
  .glo "LoopMustWait",
  .glo "CouldNotHappen",
  .glo "DoesNotFit",
  .glo "Outstanding",
  .glo "Alone",
  .int "BID_ASK" 0,
  .int "BID_TIMER" 1,
  .int "BID_STOP" 2,
  .int "BID_CALL_OFF" 3,
  .int "BID_END" 6]
def fas1 : List He.Fa := [
  .int "HAS_DONE" 0,
  .int "HAS_FAILED" 1,
  .int "HAS_NEVER_DONE" 2,
  .int "HAS_FIRED" 3,
  .int "HAS_CALLED_OFF" 5,
  .int "MOST_HAPPENINGS" 60,
  .free "all",
  .free "any",
  .free "enumerate",
  .free "len",
  .free "list",
  .free "range",
  .free "sum",
  .free "tuple",
  .free "zip",
  .cls "Outstanding",
  .keep "Outstanding",
  .meth "Outstanding" "may_come",
  .cls "Alone",
  .keep "Alone"]
def fas2 : List He.Fa := [
  .mkr "Alone",
  .noat "Alone" "happened",
  .noat "Alone" "bids",
  .noat "Alone" "asks",
  .noat "Alone" "called_off_asks",
  .noat "Alone" "timers",
  .meth "Alone" "__init__",
  .meth "Alone" "bids_of_kind",
  .meth "Alone" "is_answered",
  .meth "Alone" "still_runs",
  .meth "Alone" "is_over",
  .meth "Alone" "was_called_off",
  .meth "Alone" "may_come"]
def fas : List He.Fa := fas0 ++ (fas1 ++ (fas2))
def excs0 : List Str := [
  "Malformed",
  "LoopMustWait",
  "CouldNotHappen",
  "DoesNotFit"]
def excs : List Str := excs0
def inhs0 : List (Str × Str × Str) := [
  ("Alone", "Outstanding", "may_come")]
def inhs : List (Str × Str × Str) := inhs0
def loose0 : List Str := [
  "_wall",
  "BID_ASK",
  "BID_TIMER",
  "BID_STOP",
  "BID_CALL_OFF",
  "BID_END",
  "HAS_DONE",
  "HAS_FAILED",
  "HAS_NEVER_DONE",
  "HAS_FIRED",
  "HAS_CALLED_OFF",
  "Malformed",
  "LoopMustWait",
  "CouldNotHappen",
  "DoesNotFit",
  "MOST_HAPPENINGS",
  "cut",
  "is_happening",
  "read_happenings",
  "read_book"]
def loose1 : List Str := [
  "read_pages",
  "Outstanding",
  "Alone",
  "told_or_refused",
  "told_outstanding"]
def loose : List Str := loose0 ++ (loose1)
abbrev entryI : Nat := 28
def exBase : List Value := [.type "Exception", .type "BaseException", .type "object"]
def excB (K : PySem.W.Frag) (x : Str) : Bool := PySem.W.excIn K (He.ga K x) exBase "Exception.__new__" && (PySem.W.keepIn K (.ref (He.ga K x)) && (decide (PySem.W.subIn K (.ref (He.ga K x)) (.type "BaseException") = some true) && decide (PySem.W.typeIn K (.ref (He.ga K x)) = some (.type "type"))))
def exmB (K : PySem.W.Frag) (x y : Str) : Bool := decide (PySem.W.exmOne K (.ref (He.ga K x)) (.ref (He.ga K y)) = some (decide (x = y)))
def moreB (K : PySem.W.Frag) : Bool := (excs.all fun x => excB K x && excs.all fun y => exmB K x y) && ((inhs.all fun t => decide (He.ma K (He.ga K t.1) t.2.2 = He.ma K (He.ga K t.2.1) t.2.2)) && extraB K)
def tfs : List He.Defn := [("open_of", none)]
/-- what the top has left -/
structure Hd (w : World) (K : PySem.W.Frag) (mg : Str → Option Value) (h : Heap) : Prop where
  c : ∃ h0, He.SaysX fas dfs [] tfs moreB w h0 K
  X : K.In h
  G : h.Ns mainGlobals mg
section
variable {w : World} {K : PySem.W.Frag} {mg : Str → Option Value} {h : Heap}
theorem Hd.t (F : Hd w K mg h) : He.SaysD fas dfs K := F.c.choose_spec.t.d
theorem Hd.more (F : Hd w K mg h) : moreB K = true := F.c.choose_spec.more
theorem Hd.extra (F : Hd w K mg h) : extraB K = true := (Bool.and_eq_true_iff.mp (Bool.and_eq_true_iff.mp F.more).2).2
theorem Hd.inh (F : Hd w K mg h) (i : Nat) {t : Str × Str × Str} (e : inhs[i]? = some t) : He.ma K (He.ga K t.1) t.2.2 = He.ma K (He.ga K t.2.1) t.2.2 := by
  have a := (Bool.and_eq_true_iff.mp (Bool.and_eq_true_iff.mp F.more).2).1
  exact of_decide_eq_true (List.all_eq_true.mp a t (List.mem_of_getElem? e))
theorem Hd.exc (F : Hd w K mg h) {x : Str} (e : x ∈ excs) : excB K x = true := by
  have a := List.all_eq_true.mp (Bool.and_eq_true_iff.mp F.more).1 x e
  exact (Bool.and_eq_true_iff.mp a).1
theorem Hd.exm (F : Hd w K mg h) {x y : Str} (e : x ∈ excs) (e2 : y ∈ excs) : PySem.W.exmOne K (.ref (He.ga K x)) (.ref (He.ga K y)) = some (decide (x = y)) := by
  have a := List.all_eq_true.mp (Bool.and_eq_true_iff.mp F.more).1 x e
  exact of_decide_eq_true (List.all_eq_true.mp (Bool.and_eq_true_iff.mp a).2 y e2)
theorem Hd.excParts (F : Hd w K mg h) {x : Str} (e : x ∈ excs) : PySem.W.excIn K (He.ga K x) exBase "Exception.__new__" = true ∧ PySem.W.keepIn K (.ref (He.ga K x)) = true ∧ PySem.W.subIn K (.ref (He.ga K x)) (.type "BaseException") = some true ∧ PySem.W.typeIn K (.ref (He.ga K x)) = some (.type "type") := by
  have a := F.exc e
  unfold excB at a
  rw [Bool.and_eq_true, Bool.and_eq_true, Bool.and_eq_true] at a
  exact ⟨a.1, a.2.1, of_decide_eq_true a.2.2.1, of_decide_eq_true a.2.2.2⟩
theorem Hd.in_Malformed : ("Malformed" : Str) ∈ excs := by decide +kernel
theorem Hd.x_Malformed (F : Hd w K mg h) : PySem.W.excIn K (He.ga K "Malformed") exBase "Exception.__new__" = true := (F.excParts Hd.in_Malformed).1
theorem Hd.xk_Malformed (F : Hd w K mg h) : PySem.W.keepIn K (.ref (He.ga K "Malformed")) = true := (F.excParts Hd.in_Malformed).2.1
theorem Hd.xr_Malformed (F : Hd w K mg h) {X : Cx} (e : X.K = K := by rfl) : Raises X (.ref (He.ga K "Malformed")) := by
  subst e
  exact raises_own (F.excParts Hd.in_Malformed).2.2.1 (F.excParts Hd.in_Malformed).2.2.2
theorem Hd.in_LoopMustWait : ("LoopMustWait" : Str) ∈ excs := by decide +kernel
theorem Hd.x_LoopMustWait (F : Hd w K mg h) : PySem.W.excIn K (He.ga K "LoopMustWait") exBase "Exception.__new__" = true := (F.excParts Hd.in_LoopMustWait).1
theorem Hd.xk_LoopMustWait (F : Hd w K mg h) : PySem.W.keepIn K (.ref (He.ga K "LoopMustWait")) = true := (F.excParts Hd.in_LoopMustWait).2.1
theorem Hd.xr_LoopMustWait (F : Hd w K mg h) {X : Cx} (e : X.K = K := by rfl) : Raises X (.ref (He.ga K "LoopMustWait")) := by
  subst e
  exact raises_own (F.excParts Hd.in_LoopMustWait).2.2.1 (F.excParts Hd.in_LoopMustWait).2.2.2
theorem Hd.in_CouldNotHappen : ("CouldNotHappen" : Str) ∈ excs := by decide +kernel
theorem Hd.x_CouldNotHappen (F : Hd w K mg h) : PySem.W.excIn K (He.ga K "CouldNotHappen") exBase "Exception.__new__" = true := (F.excParts Hd.in_CouldNotHappen).1
theorem Hd.xk_CouldNotHappen (F : Hd w K mg h) : PySem.W.keepIn K (.ref (He.ga K "CouldNotHappen")) = true := (F.excParts Hd.in_CouldNotHappen).2.1
theorem Hd.xr_CouldNotHappen (F : Hd w K mg h) {X : Cx} (e : X.K = K := by rfl) : Raises X (.ref (He.ga K "CouldNotHappen")) := by
  subst e
  exact raises_own (F.excParts Hd.in_CouldNotHappen).2.2.1 (F.excParts Hd.in_CouldNotHappen).2.2.2
theorem Hd.in_DoesNotFit : ("DoesNotFit" : Str) ∈ excs := by decide +kernel
theorem Hd.x_DoesNotFit (F : Hd w K mg h) : PySem.W.excIn K (He.ga K "DoesNotFit") exBase "Exception.__new__" = true := (F.excParts Hd.in_DoesNotFit).1
theorem Hd.xk_DoesNotFit (F : Hd w K mg h) : PySem.W.keepIn K (.ref (He.ga K "DoesNotFit")) = true := (F.excParts Hd.in_DoesNotFit).2.1
theorem Hd.xr_DoesNotFit (F : Hd w K mg h) {X : Cx} (e : X.K = K := by rfl) : Raises X (.ref (He.ga K "DoesNotFit")) := by
  subst e
  exact raises_own (F.excParts Hd.in_DoesNotFit).2.2.1 (F.excParts Hd.in_DoesNotFit).2.2.2

theorem Hd.g__wall (F : Hd w K mg h) : mg "_wall" = some (.ref (He.ga K "_wall")) := He.glo_ok F.X F.G (F.t.fact 0 (f := .glo "_wall") rfl)
theorem Hd.g_cut (F : Hd w K mg h) : mg "cut" = some (.ref (He.ga K "cut")) := He.glo_ok F.X F.G (F.t.fact 1 (f := .glo "cut") rfl)
theorem Hd.g_is_happening (F : Hd w K mg h) : mg "is_happening" = some (.ref (He.ga K "is_happening")) := He.glo_ok F.X F.G (F.t.fact 2 (f := .glo "is_happening") rfl)
theorem Hd.g_read_happenings (F : Hd w K mg h) : mg "read_happenings" = some (.ref (He.ga K "read_happenings")) := He.glo_ok F.X F.G (F.t.fact 3 (f := .glo "read_happenings") rfl)
theorem Hd.g_read_book (F : Hd w K mg h) : mg "read_book" = some (.ref (He.ga K "read_book")) := He.glo_ok F.X F.G (F.t.fact 4 (f := .glo "read_book") rfl)
theorem Hd.g_read_pages (F : Hd w K mg h) : mg "read_pages" = some (.ref (He.ga K "read_pages")) := He.glo_ok F.X F.G (F.t.fact 5 (f := .glo "read_pages") rfl)
theorem Hd.g_open_of (F : Hd w K mg h) : mg "open_of" = some (.ref (He.ga K "open_of")) := He.glo_ok F.X F.G (F.t.fact 6 (f := .glo "open_of") rfl)
theorem Hd.g_told_or_refused (F : Hd w K mg h) : mg "told_or_refused" = some (.ref (He.ga K "told_or_refused")) := He.glo_ok F.X F.G (F.t.fact 7 (f := .glo "told_or_refused") rfl)
theorem Hd.g_told_outstanding (F : Hd w K mg h) : mg "told_outstanding" = some (.ref (He.ga K "told_outstanding")) := He.glo_ok F.X F.G (F.t.fact 8 (f := .glo "told_outstanding") rfl)
theorem Hd.g_Malformed (F : Hd w K mg h) : mg "Malformed" = some (.ref (He.ga K "Malformed")) := He.glo_ok F.X F.G (F.t.fact 9 (f := .glo "Malformed") rfl)
theorem Hd.g_LoopMustWait (F : Hd w K mg h) : mg "LoopMustWait" = some (.ref (He.ga K "LoopMustWait")) := He.glo_ok F.X F.G (F.t.fact 10 (f := .glo "LoopMustWait") rfl)
theorem Hd.g_CouldNotHappen (F : Hd w K mg h) : mg "CouldNotHappen" = some (.ref (He.ga K "CouldNotHappen")) := He.glo_ok F.X F.G (F.t.fact 11 (f := .glo "CouldNotHappen") rfl)
theorem Hd.g_DoesNotFit (F : Hd w K mg h) : mg "DoesNotFit" = some (.ref (He.ga K "DoesNotFit")) := He.glo_ok F.X F.G (F.t.fact 12 (f := .glo "DoesNotFit") rfl)
theorem Hd.g_Outstanding (F : Hd w K mg h) : mg "Outstanding" = some (.ref (He.ga K "Outstanding")) := He.glo_ok F.X F.G (F.t.fact 13 (f := .glo "Outstanding") rfl)
theorem Hd.g_Alone (F : Hd w K mg h) : mg "Alone" = some (.ref (He.ga K "Alone")) := He.glo_ok F.X F.G (F.t.fact 14 (f := .glo "Alone") rfl)
theorem Hd.i_BID_ASK (F : Hd w K mg h) : ∃ t, mg "BID_ASK" = some (.int 0 t) := He.int_ok F.X F.G (F.t.fact 15 (f := .int "BID_ASK" 0) rfl)
theorem Hd.i_BID_TIMER (F : Hd w K mg h) : ∃ t, mg "BID_TIMER" = some (.int 1 t) := He.int_ok F.X F.G (F.t.fact 16 (f := .int "BID_TIMER" 1) rfl)
theorem Hd.i_BID_STOP (F : Hd w K mg h) : ∃ t, mg "BID_STOP" = some (.int 2 t) := He.int_ok F.X F.G (F.t.fact 17 (f := .int "BID_STOP" 2) rfl)
theorem Hd.i_BID_CALL_OFF (F : Hd w K mg h) : ∃ t, mg "BID_CALL_OFF" = some (.int 3 t) := He.int_ok F.X F.G (F.t.fact 18 (f := .int "BID_CALL_OFF" 3) rfl)
theorem Hd.i_BID_END (F : Hd w K mg h) : ∃ t, mg "BID_END" = some (.int 6 t) := He.int_ok F.X F.G (F.t.fact 19 (f := .int "BID_END" 6) rfl)
theorem Hd.i_HAS_DONE (F : Hd w K mg h) : ∃ t, mg "HAS_DONE" = some (.int 0 t) := He.int_ok F.X F.G (F.t.fact 20 (f := .int "HAS_DONE" 0) rfl)
theorem Hd.i_HAS_FAILED (F : Hd w K mg h) : ∃ t, mg "HAS_FAILED" = some (.int 1 t) := He.int_ok F.X F.G (F.t.fact 21 (f := .int "HAS_FAILED" 1) rfl)
theorem Hd.i_HAS_NEVER_DONE (F : Hd w K mg h) : ∃ t, mg "HAS_NEVER_DONE" = some (.int 2 t) := He.int_ok F.X F.G (F.t.fact 22 (f := .int "HAS_NEVER_DONE" 2) rfl)
theorem Hd.i_HAS_FIRED (F : Hd w K mg h) : ∃ t, mg "HAS_FIRED" = some (.int 3 t) := He.int_ok F.X F.G (F.t.fact 23 (f := .int "HAS_FIRED" 3) rfl)
theorem Hd.i_HAS_CALLED_OFF (F : Hd w K mg h) : ∃ t, mg "HAS_CALLED_OFF" = some (.int 5 t) := He.int_ok F.X F.G (F.t.fact 24 (f := .int "HAS_CALLED_OFF" 5) rfl)
theorem Hd.i_MOST_HAPPENINGS (F : Hd w K mg h) : ∃ t, mg "MOST_HAPPENINGS" = some (.int 60 t) := He.int_ok F.X F.G (F.t.fact 25 (f := .int "MOST_HAPPENINGS" 60) rfl)
theorem Hd.n_all (F : Hd w K mg h) : mg "all" = none := He.free_ok F.X F.G (F.t.fact 26 (f := .free "all") rfl)
theorem Hd.n_any (F : Hd w K mg h) : mg "any" = none := He.free_ok F.X F.G (F.t.fact 27 (f := .free "any") rfl)
theorem Hd.n_enumerate (F : Hd w K mg h) : mg "enumerate" = none := He.free_ok F.X F.G (F.t.fact 28 (f := .free "enumerate") rfl)
theorem Hd.n_len (F : Hd w K mg h) : mg "len" = none := He.free_ok F.X F.G (F.t.fact 29 (f := .free "len") rfl)
theorem Hd.n_list (F : Hd w K mg h) : mg "list" = none := He.free_ok F.X F.G (F.t.fact 30 (f := .free "list") rfl)
theorem Hd.n_range (F : Hd w K mg h) : mg "range" = none := He.free_ok F.X F.G (F.t.fact 31 (f := .free "range") rfl)
theorem Hd.n_sum (F : Hd w K mg h) : mg "sum" = none := He.free_ok F.X F.G (F.t.fact 32 (f := .free "sum") rfl)
theorem Hd.n_tuple (F : Hd w K mg h) : mg "tuple" = none := He.free_ok F.X F.G (F.t.fact 33 (f := .free "tuple") rfl)
theorem Hd.n_zip (F : Hd w K mg h) : mg "zip" = none := He.free_ok F.X F.G (F.t.fact 34 (f := .free "zip") rfl)
theorem Hd.c_Outstanding (F : Hd w K mg h) : Cls K (He.ga K "Outstanding") := He.cls_ok (F.t.fact 35 (f := .cls "Outstanding") rfl)
theorem Hd.kp_Outstanding (F : Hd w K mg h) : PySem.W.keepIn K (.ref (He.ga K "Outstanding")) = true := He.keep_ok (F.t.fact 36 (f := .keep "Outstanding") rfl)
theorem Hd.m_Outstanding_may_come (F : Hd w K mg h) : Meth K (He.ga K "Outstanding") "may_come" (He.ma K (He.ga K "Outstanding") "may_come") := He.meth_ok (F.t.fact 37 (f := .meth "Outstanding" "may_come") rfl)
theorem Hd.c_Alone (F : Hd w K mg h) : Cls K (He.ga K "Alone") := He.cls_ok (F.t.fact 38 (f := .cls "Alone") rfl)
theorem Hd.kp_Alone (F : Hd w K mg h) : PySem.W.keepIn K (.ref (He.ga K "Alone")) = true := He.keep_ok (F.t.fact 39 (f := .keep "Alone") rfl)
theorem Hd.mk_Alone (F : Hd w K mg h) : Mk K (He.ga K "Alone") (He.ma K (He.ga K "Alone") "__init__") := He.mkr_ok (F.t.fact 40 (f := .mkr "Alone") rfl)
theorem Hd.a_Alone_happened (F : Hd w K mg h) : NoAttr K (He.ga K "Alone") "happened" := He.noat_ok (F.t.fact 41 (f := .noat "Alone" "happened") rfl)
theorem Hd.a_Alone_bids (F : Hd w K mg h) : NoAttr K (He.ga K "Alone") "bids" := He.noat_ok (F.t.fact 42 (f := .noat "Alone" "bids") rfl)
theorem Hd.a_Alone_asks (F : Hd w K mg h) : NoAttr K (He.ga K "Alone") "asks" := He.noat_ok (F.t.fact 43 (f := .noat "Alone" "asks") rfl)
theorem Hd.a_Alone_called_off_asks (F : Hd w K mg h) : NoAttr K (He.ga K "Alone") "called_off_asks" := He.noat_ok (F.t.fact 44 (f := .noat "Alone" "called_off_asks") rfl)
theorem Hd.a_Alone_timers (F : Hd w K mg h) : NoAttr K (He.ga K "Alone") "timers" := He.noat_ok (F.t.fact 45 (f := .noat "Alone" "timers") rfl)
theorem Hd.m_Alone_init (F : Hd w K mg h) : Meth K (He.ga K "Alone") "__init__" (He.ma K (He.ga K "Alone") "__init__") := He.meth_ok (F.t.fact 46 (f := .meth "Alone" "__init__") rfl)
theorem Hd.m_Alone_bids_of_kind (F : Hd w K mg h) : Meth K (He.ga K "Alone") "bids_of_kind" (He.ma K (He.ga K "Alone") "bids_of_kind") := He.meth_ok (F.t.fact 47 (f := .meth "Alone" "bids_of_kind") rfl)
theorem Hd.m_Alone_is_answered (F : Hd w K mg h) : Meth K (He.ga K "Alone") "is_answered" (He.ma K (He.ga K "Alone") "is_answered") := He.meth_ok (F.t.fact 48 (f := .meth "Alone" "is_answered") rfl)
theorem Hd.m_Alone_still_runs (F : Hd w K mg h) : Meth K (He.ga K "Alone") "still_runs" (He.ma K (He.ga K "Alone") "still_runs") := He.meth_ok (F.t.fact 49 (f := .meth "Alone" "still_runs") rfl)
theorem Hd.m_Alone_is_over (F : Hd w K mg h) : Meth K (He.ga K "Alone") "is_over" (He.ma K (He.ga K "Alone") "is_over") := He.meth_ok (F.t.fact 50 (f := .meth "Alone" "is_over") rfl)
theorem Hd.m_Alone_was_called_off (F : Hd w K mg h) : Meth K (He.ga K "Alone") "was_called_off" (He.ma K (He.ga K "Alone") "was_called_off") := He.meth_ok (F.t.fact 51 (f := .meth "Alone" "was_called_off") rfl)
theorem Hd.m_Alone_may_come (F : Hd w K mg h) : Meth K (He.ga K "Alone") "may_come" (He.ma K (He.ga K "Outstanding") "may_come") := F.inh 0 rfl ▸ He.meth_ok (F.t.fact 52 (f := .meth "Alone" "may_come") rfl)
theorem Hd.d__wall (F : Hd w K mg h) : ∃ fd, FunD K "_wall" "_wall" (defArgs s__wall) (defBody s__wall) (defScope s__wall) [] [] (He.ga K "_wall") fd := F.t.def_ 0 (d := ⟨("_wall", none), "_wall", "_wall", defArgs s__wall, defBody s__wall, defScope s__wall, [], []⟩) rfl
theorem Hd.d_cut (F : Hd w K mg h) : ∃ fd, FunD K "cut" "cut" (defArgs s_cut) (defBody s_cut) (defScope s_cut) [] [] (He.ga K "cut") fd := F.t.def_ 1 (d := ⟨("cut", none), "cut", "cut", defArgs s_cut, defBody s_cut, defScope s_cut, [], []⟩) rfl
theorem Hd.d_is_happening (F : Hd w K mg h) : ∃ fd, FunD K "is_happening" "is_happening" (defArgs s_is_happening) (defBody s_is_happening) (defScope s_is_happening) [] [] (He.ga K "is_happening") fd := F.t.def_ 2 (d := ⟨("is_happening", none), "is_happening", "is_happening", defArgs s_is_happening, defBody s_is_happening, defScope s_is_happening, [], []⟩) rfl
theorem Hd.d_read_happenings (F : Hd w K mg h) : ∃ fd, FunD K "read_happenings" "read_happenings" (defArgs s_read_happenings) (defBody s_read_happenings) (defScope s_read_happenings) [] [] (He.ga K "read_happenings") fd := F.t.def_ 3 (d := ⟨("read_happenings", none), "read_happenings", "read_happenings", defArgs s_read_happenings, defBody s_read_happenings, defScope s_read_happenings, [], []⟩) rfl
theorem Hd.d_read_book (F : Hd w K mg h) : ∃ fd, FunD K "read_book" "read_book" (defArgs s_read_book) (defBody s_read_book) (defScope s_read_book) [] [] (He.ga K "read_book") fd := F.t.def_ 4 (d := ⟨("read_book", none), "read_book", "read_book", defArgs s_read_book, defBody s_read_book, defScope s_read_book, [], []⟩) rfl
theorem Hd.d_read_pages (F : Hd w K mg h) : ∃ fd, FunD K "read_pages" "read_pages" (defArgs s_read_pages) (defBody s_read_pages) (defScope s_read_pages) [] [] (He.ga K "read_pages") fd := F.t.def_ 5 (d := ⟨("read_pages", none), "read_pages", "read_pages", defArgs s_read_pages, defBody s_read_pages, defScope s_read_pages, [], []⟩) rfl
theorem Hd.d_Outstanding_may_come (F : Hd w K mg h) : ∃ fd, FunD K "may_come" "Outstanding.may_come" (defArgs s_Outstanding_may_come) (defBody s_Outstanding_may_come) (defScope s_Outstanding_may_come) [] [] (He.ma K (He.ga K "Outstanding") "may_come") fd := F.t.def_ 6 (d := ⟨("Outstanding", some "may_come"), "may_come", "Outstanding.may_come", defArgs s_Outstanding_may_come, defBody s_Outstanding_may_come, defScope s_Outstanding_may_come, [], []⟩) rfl
theorem Hd.d_Alone_init (F : Hd w K mg h) : ∃ fd, FunD K "__init__" "Alone.__init__" (defArgs s_Alone_init) (defBody s_Alone_init) (defScope s_Alone_init) [] [] (He.ma K (He.ga K "Alone") "__init__") fd := F.t.def_ 7 (d := ⟨("Alone", some "__init__"), "__init__", "Alone.__init__", defArgs s_Alone_init, defBody s_Alone_init, defScope s_Alone_init, [], []⟩) rfl
theorem Hd.d_Alone_bids_of_kind (F : Hd w K mg h) : ∃ fd, FunD K "bids_of_kind" "Alone.bids_of_kind" (defArgs s_Alone_bids_of_kind) (defBody s_Alone_bids_of_kind) (defScope s_Alone_bids_of_kind) [] [] (He.ma K (He.ga K "Alone") "bids_of_kind") fd := F.t.def_ 8 (d := ⟨("Alone", some "bids_of_kind"), "bids_of_kind", "Alone.bids_of_kind", defArgs s_Alone_bids_of_kind, defBody s_Alone_bids_of_kind, defScope s_Alone_bids_of_kind, [], []⟩) rfl
theorem Hd.d_Alone_is_answered (F : Hd w K mg h) : ∃ fd, FunD K "is_answered" "Alone.is_answered" (defArgs s_Alone_is_answered) (defBody s_Alone_is_answered) (defScope s_Alone_is_answered) [] [] (He.ma K (He.ga K "Alone") "is_answered") fd := F.t.def_ 9 (d := ⟨("Alone", some "is_answered"), "is_answered", "Alone.is_answered", defArgs s_Alone_is_answered, defBody s_Alone_is_answered, defScope s_Alone_is_answered, [], []⟩) rfl
theorem Hd.d_Alone_still_runs (F : Hd w K mg h) : ∃ fd, FunD K "still_runs" "Alone.still_runs" (defArgs s_Alone_still_runs) (defBody s_Alone_still_runs) (defScope s_Alone_still_runs) [] [] (He.ma K (He.ga K "Alone") "still_runs") fd := F.t.def_ 10 (d := ⟨("Alone", some "still_runs"), "still_runs", "Alone.still_runs", defArgs s_Alone_still_runs, defBody s_Alone_still_runs, defScope s_Alone_still_runs, [], []⟩) rfl
theorem Hd.d_Alone_is_over (F : Hd w K mg h) : ∃ fd, FunD K "is_over" "Alone.is_over" (defArgs s_Alone_is_over) (defBody s_Alone_is_over) (defScope s_Alone_is_over) [] [] (He.ma K (He.ga K "Alone") "is_over") fd := F.t.def_ 11 (d := ⟨("Alone", some "is_over"), "is_over", "Alone.is_over", defArgs s_Alone_is_over, defBody s_Alone_is_over, defScope s_Alone_is_over, [], []⟩) rfl
theorem Hd.d_Alone_was_called_off (F : Hd w K mg h) : ∃ fd, FunD K "was_called_off" "Alone.was_called_off" (defArgs s_Alone_was_called_off) (defBody s_Alone_was_called_off) (defScope s_Alone_was_called_off) [] [] (He.ma K (He.ga K "Alone") "was_called_off") fd := F.t.def_ 12 (d := ⟨("Alone", some "was_called_off"), "was_called_off", "Alone.was_called_off", defArgs s_Alone_was_called_off, defBody s_Alone_was_called_off, defScope s_Alone_was_called_off, [], []⟩) rfl
theorem Hd.d_open_of (F : Hd w K mg h) : ∃ fd, FunD K "open_of" "open_of" (defArgs s_open_of) (defBody s_open_of) (defScope s_open_of) [] [] (He.ga K "open_of") fd := F.t.def_ 13 (d := ⟨("open_of", none), "open_of", "open_of", defArgs s_open_of, defBody s_open_of, defScope s_open_of, [], []⟩) rfl
theorem Hd.d_told_or_refused (F : Hd w K mg h) : ∃ fd, FunD K "told_or_refused" "told_or_refused" (defArgs s_told_or_refused) (defBody s_told_or_refused) (defScope s_told_or_refused) [] [] (He.ga K "told_or_refused") fd := F.t.def_ 14 (d := ⟨("told_or_refused", none), "told_or_refused", "told_or_refused", defArgs s_told_or_refused, defBody s_told_or_refused, defScope s_told_or_refused, [], []⟩) rfl
theorem Hd.d_told_outstanding (F : Hd w K mg h) : ∃ fd, FunD K "told_outstanding" "told_outstanding" (defArgs s_told_outstanding) (defBody s_told_outstanding) (defScope s_told_outstanding) [] [] (He.ga K "told_outstanding") fd := F.t.def_ 15 (d := ⟨("told_outstanding", none), "told_outstanding", "told_outstanding", defArgs s_told_outstanding, defBody s_told_outstanding, defScope s_told_outstanding, [], []⟩) rfl
end
abbrev N_cut : List Str := ["row", "width", "at"]
abbrev p_cut : List Str := ["row", "width"]
theorem sc_cut : FnScope N_cut p_cut (defScope s_cut) := ⟨rfl, rfl, rfl, by decide +kernel, rfl, by decide +kernel, by decide +kernel⟩
abbrev N_is_happening : List Str := ["three"]
abbrev p_is_happening : List Str := ["three"]
theorem sc_is_happening : FnScope N_is_happening p_is_happening (defScope s_is_happening) := ⟨rfl, rfl, rfl, by decide +kernel, rfl, by decide +kernel, by decide +kernel⟩
abbrev N_read_happenings : List Str := ["h", "happenings", "three"]
abbrev p_read_happenings : List Str := ["h"]
theorem sc_read_happenings : FnScope N_read_happenings p_read_happenings (defScope s_read_happenings) := ⟨rfl, rfl, rfl, by decide +kernel, rfl, by decide +kernel, by decide +kernel⟩
abbrev N_read_book : List Str := ["h", "sizes", "bids", "happenings"]
abbrev p_read_book : List Str := ["h", "sizes", "bids"]
theorem sc_read_book : FnScope N_read_book p_read_book (defScope s_read_book) := ⟨rfl, rfl, rfl, by decide +kernel, rfl, by decide +kernel, by decide +kernel⟩
abbrev N_read_pages : List Str := ["happenings", "sizes", "bids", "fours", "pages", "start", "size", "four"]
abbrev p_read_pages : List Str := ["happenings", "sizes", "bids"]
theorem sc_read_pages : FnScope N_read_pages p_read_pages (defScope s_read_pages) := ⟨rfl, rfl, rfl, by decide +kernel, rfl, by decide +kernel, by decide +kernel⟩
abbrev N_Alone_init : List Str := ["self", "book", "three", "page", "number"]
abbrev p_Alone_init : List Str := ["self", "book"]
theorem sc_Alone_init : FnScope N_Alone_init p_Alone_init (defScope s_Alone_init) := ⟨rfl, rfl, rfl, by decide +kernel, rfl, by decide +kernel, by decide +kernel⟩
abbrev N_Alone_bids_of_kind : List Str := ["self", "kind", "number", "four"]
abbrev p_Alone_bids_of_kind : List Str := ["self", "kind"]
theorem sc_Alone_bids_of_kind : FnScope N_Alone_bids_of_kind p_Alone_bids_of_kind (defScope s_Alone_bids_of_kind) := ⟨rfl, rfl, rfl, by decide +kernel, rfl, by decide +kernel, by decide +kernel⟩
abbrev N_Alone_is_answered : List Str := ["self", "number", "answers", "three"]
abbrev p_Alone_is_answered : List Str := ["self", "number"]
theorem sc_Alone_is_answered : FnScope N_Alone_is_answered p_Alone_is_answered (defScope s_Alone_is_answered) := ⟨rfl, rfl, rfl, by decide +kernel, rfl, by decide +kernel, by decide +kernel⟩
abbrev N_Alone_still_runs : List Str := ["self", "number"]
abbrev p_Alone_still_runs : List Str := ["self", "number"]
theorem sc_Alone_still_runs : FnScope N_Alone_still_runs p_Alone_still_runs (defScope s_Alone_still_runs) := ⟨rfl, rfl, rfl, by decide +kernel, rfl, by decide +kernel, by decide +kernel⟩
abbrev N_open_of : List Str := ["h", "sizes", "bids"]
abbrev p_open_of : List Str := ["h", "sizes", "bids"]
theorem sc_open_of : FnScope N_open_of p_open_of (defScope s_open_of) := ⟨rfl, rfl, rfl, by decide +kernel, rfl, by decide +kernel, by decide +kernel⟩
abbrev N_told_or_refused : List Str := ["make_answer"]
abbrev p_told_or_refused : List Str := ["make_answer"]
theorem sc_told_or_refused : FnScope N_told_or_refused p_told_or_refused (defScope s_told_or_refused) := ⟨rfl, rfl, rfl, by decide +kernel, rfl, by decide +kernel, by decide +kernel⟩
abbrev N_told_outstanding : List Str := ["alone", "told", "numbers"]
abbrev p_told_outstanding : List Str := ["alone"]
theorem sc_told_outstanding : FnScope N_told_outstanding p_told_outstanding (defScope s_told_outstanding) := ⟨rfl, rfl, rfl, by decide +kernel, rfl, by decide +kernel, by decide +kernel⟩
end Bk

namespace Bk
open PySem PySem.Spec PyProof.Rows L2

/-! ### common words of the promises -/
/-- a def keeps its promise, and how it is called -/
def Keeps (P : Program) (w : World) (K : PySem.W.Frag) (mg : Str → Option Value) (base : Heap) (k : Nat) (f : Addr) (ps : List Str) (sp : Sp) : Prop :=
  ∃ fd, FnOk P w K mg base (L2.CX P w) k f fd ps sp ∧ L2.Binds K fd ps [] ∧ PySem.W.keepIn K (.ref f) = true
def nV (n : Nat) : V := .int (n : Int)
theorem nV_inj {a b : Nat} (h : nV a = nV b) : a = b := by
  have := V.int.inj h
  omega
/-- tuples of numbers at as -/
def TupsAt (H : Hp) (as : List Addr) (rows : List (List Nat)) : Prop := Paired (fun (a : Addr) (r : List Nat) => H a = some (.tup (r.map nV))) as rows
def RowsAt (H : Hp) (p : Addr) (rows : List (List Nat)) : Prop := ∃ as, H p = some (.lst (as.map V.ref)) ∧ TupsAt H as rows
/-- all but what is new stays -/
theorem paired_mono {α β : Type} {F G : α → β → Prop} (e : ∀ a b, F a b → G a b) {xs : List α} {ys : List β} (h : Paired F xs ys) : Paired G xs ys := Paired.mapP h e
theorem TupsAt.mono {H H' : Hp} (e : ∀ b xs, H b = some (.tup xs) → H' b = some (.tup xs)) {as : List Addr} {rows : List (List Nat)} (h : TupsAt H as rows) : TupsAt H' as rows := Paired.mapP h fun a r q => e a _ q
theorem paired_len {α β : Type} {F : α → β → Prop} {xs : List α} {ys : List β} (h : Paired F xs ys) : xs.length = ys.length := Paired.length h
theorem paired_at {α β : Type} {F : α → β → Prop} : ∀ {xs : List α} {ys : List β}, Paired F xs ys → ∀ {i : Nat} {x : α}, xs[i]? = some x → ∃ y, ys[i]? = some y ∧ F x y
  | _, _, .nil, i, x, h => by cases h
  | _, _, .cons r t, 0, x, h => by
    have e := Option.some.inj h
    subst e
    exact ⟨_, rfl, r⟩
  | _, _, .cons r t, i + 1, x, h => paired_at t h
theorem paired_snoc {α β : Type} {F : α → β → Prop} : ∀ {xs : List α} {ys : List β} {x : α} {y : β}, Paired F xs ys → F x y → Paired F (xs ++ [x]) (ys ++ [y])
  | _, _, _, _, .nil, h => .cons h .nil
  | _, _, _, _, .cons r t, h => .cons r (paired_snoc t h)
theorem take_snoc {α : Type} : ∀ {l : List α} {i : Nat} {x : α}, l[i]? = some x → l.take (i + 1) = l.take i ++ [x]
  | [], i, x, h => by simp at h
  | a :: l, 0, x, h => by
    have e : a = x := Option.some.inj h
    subst e
    rfl
  | a :: l, i + 1, x, h => by
    have ih := take_snoc (l := l) (i := i) (x := x) h
    show a :: l.take (i + 1) = a :: l.take i ++ [x]
    rw [ih]
    rfl
theorem lt_of_at {α : Type} {l : List α} {i : Nat} {x : α} (h : l[i]? = some x) : i < l.length := (List.getElem?_eq_some_iff.mp h).1
/-- lists of at most some thousand items are short -/
theorem short_line {n : Nat} (h : n ≤ 100000) : n < sizeLine := Nat.lt_of_le_of_lt h (by decide)
theorem short_le {n : Nat} (h : n ≤ 100000) : n ≤ sizeLine := Nat.le_of_lt (short_line h)
/-! ### tests whose answer is known -/
theorem ifT {c : Bool} {A B : Prop} (hc : c = true) (h : A) : if c = true then A else B := by
  rw [if_pos hc]
  exact h
theorem ifF {c : Bool} {A B : Prop} (hc : c = false) (h : B) : if c = true then A else B := by
  rw [hc, if_neg Bool.false_ne_true]
  exact h
theorem dneF {x y : V} (h : x = y) : (!decide (x = y)) = false := by rw [decide_eq_true h]; rfl
theorem dneT {x y : V} (h : ¬ x = y) : (!decide (x = y)) = true := by rw [decide_eq_false h]; rfl
theorem intE {i j : Int} (h : i = j) : V.int i = V.int j := congrArg V.int h
theorem intN {i j : Int} (h : ¬ i = j) : ¬ V.int i = V.int j := fun z => h (V.int.inj z)

/-! ### book.py: cut -/
section
variable {P : Program} {w : World} {K : PySem.W.Frag} {mg : Str → Option Value} {h : Heap} {base : Heap} (F : Hd w K mg h)
open BkM (cutW cutW_length)
def spCut (K : PySem.W.Frag) : Sp := fun vs H Q E => ∃ (a : Addr) (ns : List Nat) (c : Nat), vs = [.ref a, .int (c : Int)] ∧ SqL K H a (ns.map nV) ∧ ns.length ≤ 1000 ∧ (c = 3 ∨ c = 4) ∧
  (ns.length % c ≠ 0 → E (.ref (He.ga K "Malformed")) none H) ∧ (ns.length % c = 0 → ∀ H' p, Same H H' → H p = none → RowsAt H' p (cutW c ns) → Q (.ref p) H')
theorem range_size {n c : Nat} (hc : 0 < c) (hd : n % c = 0) : Builtin.Range.rangeSize 0 (n : Int) (c : Int) = ((n / c : Nat) : Int) := by
  unfold Builtin.Range.rangeSize
  have c0 : (c : Int) > 0 := by omega
  rw [if_pos c0]
  obtain ⟨k, rfl⟩ := Nat.dvd_of_mod_eq_zero hd
  rw [Nat.mul_div_cancel_left _ hc]
  by_cases h0 : (0 : Int) < ((c * k : Nat) : Int)
  · rw [if_pos h0]
    have hk : 0 < k := by
      rcases Nat.eq_zero_or_pos k with z | z
      · rw [z, Nat.mul_zero] at h0
        omega
      · exact z
    have e : ((c * k : Nat) : Int) - 0 - 1 = ((c : Int) - 1) + (c : Int) * ((k : Int) - 1) := by
      rw [Int.mul_sub, Int.mul_one, Int.natCast_mul]
      omega
    rw [e, Int.add_mul_ediv_left _ _ (by omega), Int.ediv_eq_zero_of_lt (by omega) (by omega)]
    omega
  · rw [if_neg h0]
    have : c * k = 0 := by omega
    rcases Nat.mul_eq_zero.mp this with z | z
    · omega
    · rw [z]; rfl
theorem range_c {n c : Nat} (hn : n ≤ 1000) (hc : c = 3 ∨ c = 4) (hd : n % c = 0) : RgC 0 (n : Int) (c : Int) (n / c) := by
  have hc0 : 0 < c := by omega
  refine ⟨by omega, by rcases hc with rfl | rfl <;> decide, ?_, range_size hc0 hd⟩
  have hk : n / c ≤ n := Nat.div_le_self _ _
  have hm : c * (n / c) = n := Nat.mul_div_cancel' (Nat.dvd_of_mod_eq_zero hd)
  have hfit : ∀ z : Int, -5 ≤ z → z ≤ 2000 → Builtin.Range.rangeFitsLong z = true := fun z h1 h2 => by
    unfold Builtin.Range.rangeFitsLong
    rw [Bool.and_eq_true, decide_eq_true_eq, decide_eq_true_eq]
    omega
  unfold Builtin.Range.small
  rw [range_size hc0 hd, hfit 0 (by omega) (by omega), hfit n (by omega) (by omega), hfit c (by omega) (by omega), hfit _ (Int.le_trans (by decide) (Int.natCast_nonneg (n / c))) (Int.le_trans (Int.ofNat_le.mpr (Nat.le_trans hk hn)) (by decide)), if_pos (show (c : Int) > 0 by omega), hfit _ (by omega) (by omega), Bool.or_true]
  rfl
/-- a slice of numbers -/
theorem cut_nat (ns : List Nat) (i c : Nat) (h : i + c ≤ ns.length) : cutV (ns.map nV) (some (i : Int)) (some ((i : Int) + (c : Int))) = ((ns.drop i).take c).map nV := by
  have e : ((i : Int) + (c : Int)) = ((i + c : Nat) : Int) := by omega
  unfold cutV
  rw [e, HT.sIx_nat, HT.sIx_nat, List.length_map, Nat.min_eq_left h, Nat.min_eq_left (show i ≤ ns.length by omega), Nat.add_sub_cancel_left, ← List.map_drop, ← List.map_take]
theorem cutW_at (c : Nat) (ns : List Nat) {i : Nat} (h : i < ns.length / c) : (cutW c ns)[i]? = some ((ns.drop (c * i)).take c) := by
  unfold BkM.cutW
  rw [List.getElem?_map, List.getElem?_range h]
  rfl
include F in
theorem ok_cut : Keeps P w K mg base 1 (He.ga K "cut") p_cut (spCut K) := by
  obtain ⟨fd, FD⟩ := F.d_cut
  refine ⟨fd, FD.ok sc_cut (fun vs H Q E q => ?_) (fun cdv A outer s H vs Q E hr q => ?_), FD.bindsN fun _ _ _ _ _ _ us hl => match us, hl with | [_, _], _ => rfl, FD.kp⟩
  · obtain ⟨a, ns, c, rfl, _⟩ := q
    rfl
  · obtain ⟨a, ns, c, rfl, hS, hl, hc, kE, kQ⟩ := q
    refine ⟨_, (pss_cons (ps_if (pt_cmpR op_ne (pe_op op_mod (pe_callB (kLen (K := K)) (by rfl) F.n_len bt_len (pa_cons (pv 0) pa_nil)) (pv 1)) pe_int (nomark _)) (pss_one (ps_raise rfl (takes_of rfl rfl rfl rfl) (pmk_own0 PySem.F.excBase_Exception F.x_Malformed F.g_Malformed F.xk_Malformed F.xr_Malformed rfl))) pss_nil)
      (pss_one (ps_ret (pe_lc (own := [("at", 2)]) (g := gName 2) (tt := tYes) rfl sc_cut.nd (pi_range3 rfl F.n_range (pa_cons pe_int (pa_cons (pe_callB (kLen (K := K)) (by rfl) F.n_len bt_len (pa_cons (pv 0) pa_nil)) (pa_cons (pv 1) pa_nil)))) (blkOk_by (own := [("at", 2)]) (N := N_cut) (sc := defScope s_cut) (by decide +kernel)) (fun _ _ _ _ _ => (pg_name (i := 2) sc_cut.nd rfl (Or.inl rfl))) (fun _ _ _ _ _ => pts_nil) (fun _ _ _ _ _ => (pe_callTy (kTuple (K := K)) (by rfl) F.n_tuple bt_tuple (pa_cons (pe_slice (kSlL (K := K)) (pv 0) (po_some (pv 2)) (po_some (pe_op op_add (pv 2) (pv 1)))) pa_nil))))))), ?_⟩
    have hl' : (ns.map nV).length = ns.length := List.length_map ..
    -- the test
    refine ⟨_, rfl, a, _, rfl, .inl hS, _, rfl, _, _, rfl, rfl, (by show (0 : Int) < (c : Int); omega), rfl, _, rfl, ?_⟩
    by_cases hd : ns.length % c = 0
    · have hd0 : (((ns.map nV).length : Int) % (c : Int)) = 0 := by rw [hl', ← Int.natCast_emod, hd]; rfl
      refine ifF (dneF (intE hd0)) ?_
      refine ⟨_, rfl, a, _, rfl, .inl hS, _, rfl, 0, _, _, ns.length / c, rfl, by rw [hl']; exact range_c hl hc hd, fun D hD => ?_⟩
      have hk : c * (ns.length / c) = ns.length := Nat.mul_div_cancel' (Nat.dvd_of_mod_eq_zero hd)
      have hc0 : 0 < c := by omega
      have hq : ns.length / c ≤ 1000 := Nat.le_trans (Nat.div_le_self _ _) hl
      refine lc_rangeC (n := ns.length / c) (fun i H' => Same H H' ∧ ∃ as, H' D = some (.lst (as.map V.ref)) ∧ TupsAt H' as ((cutW c ns).take i)) ?_ ?_ ?_
      · exact ⟨fun b o e => by rw [upd_ne (ne_of_none e hD)]; exact e, [], upd_same, .nil⟩
      · rintro i H' hi ⟨sm, as, hd1, ht⟩
        have hb : c * i + c ≤ ns.length := by
          have : c * (i + 1) ≤ c * (ns.length / c) := Nat.mul_le_mul_left c hi
          rw [hk, Nat.mul_succ] at this
          exact this
        have la : as.length = i := by rw [paired_len ht, List.length_take, cutW_length]; omega
        have eat : (0 : Int) + (i : Nat) * (c : Int) = ((c * i : Nat) : Int) := by rw [Int.zero_add, Int.natCast_mul, Int.mul_comm]
        rw [eat]
        refine ⟨rfl, _, rfl, _, rfl, _, rfl, _, rfl, _, rfl, _, _, rfl, rfl, _, rfl, a, _, rfl, sm.seq hS, fun sl hsl => ?_⟩
        refine ⟨sl, _, rfl, .inl ⟨SqL.of upd_same, fun tp htp => ?_⟩⟩
        rw [cut_nat ns (c * i) c hb]
        have nD : ∀ {q : Addr}, H' q = none → D ≠ q := fun hq => ne_of_none hd1 hq
        have htp' : H' tp = none ∧ tp ≠ sl := by
          by_cases z : tp = sl
          · rw [z, upd_same] at htp
            cases htp
          · rw [upd_ne z] at htp
            exact ⟨htp, z⟩
        refine ⟨as.map V.ref, ?_, ?_, ?_⟩
        · rw [upd_ne (nD htp'.1), upd_ne (nD hsl)]
          exact hd1
        · rw [List.length_map, la]
          exact short_line (by omega)
        · have kp : ∀ b o, H' b = some o → b ≠ D → upd (upd (upd H' sl (.lst (((ns.drop (c * i)).take c).map nV))) tp (.tup (((ns.drop (c * i)).take c).map nV))) D (.lst (as.map V.ref ++ [V.ref tp])) b = some o := fun b o e hb => by
            rw [upd_ne hb, upd_ne (ne_of_none e htp'.1), upd_ne (ne_of_none e hsl)]
            exact e
          refine ⟨fun b o e => kp b o (sm b o e) (ne_of_none e hD), as ++ [tp], ?_, ?_⟩
          · rw [List.map_append]
            exact upd_same
          · rw [take_snoc (cutW_at c ns hi)]
            refine paired_snoc (TupsAt.mono (fun b xs e => kp b _ e (fun z => by rw [z, hd1] at e; cases e)) ht) ?_
            rw [upd_ne (fun z => nD htp'.1 z.symm)]
            exact upd_same
      · rintro H' ⟨sm, as, hd1, ht⟩
        refine kQ hd H' D sm hD ⟨as, hd1, ?_⟩
        rw [List.take_of_length_le (by rw [cutW_length]; exact Nat.le_refl _)] at ht
        exact ht
    · have hd0 : ¬ (((ns.map nV).length : Int) % (c : Int)) = 0 := fun z => hd (by rw [hl', ← Int.natCast_emod] at z; exact Int.ofNat.inj z)
      exact ifT (dneT (intN hd0)) (kE hd)
end

/-! ### book.py: is_happening, read_happenings -/
section
variable {P : Program} {w : World} {K : PySem.W.Frag} {mg : Str → Option Value} {h : Heap} {base : Heap} (F : Hd w K mg h)
open BkM (cutW cutW_length isHap okBid)
theorem inV_int (i : Int) : ∀ ns : List Int, inV (.int i) (ns.map V.int) = decide (i ∈ ns)
  | [] => rfl
  | n :: ns => by
    show (eqV (.int n) (.int i) || inV (.int i) (ns.map V.int)) = _
    rw [inV_int i ns]
    show ((n == i) || decide (i ∈ ns)) = _
    by_cases e : n = i
    · subst e
      simp
    · have e' : ¬ i = n := fun z => e z.symm
      simp [e, e']
theorem flat_ints : ∀ ns : List Int, (ns.map V.int).all flatV = true
  | [] => rfl
  | _ :: ns => by
    show (true && (ns.map V.int).all flatV) = true
    rw [flat_ints ns] <;> rfl
def spIsHap (K : PySem.W.Frag) : Sp := fun vs H Q _ => ∃ (t : Addr) (k i x : Nat), vs = [.ref t] ∧ H t = some (.tup ([k, i, x].map nV)) ∧ ∀ H', Same H H' → Q (.bl (isHap [k, i, x])) H'
theorem nat_dec {a b : Nat} : decide (V.int (a : Int) = V.int (b : Int)) = decide (a = b) := by
  by_cases e : a = b
  · rw [decide_eq_true e, decide_eq_true (by rw [e])]
  · rw [decide_eq_false e, decide_eq_false (fun z => e (by have := V.int.inj z; omega))]
theorem Same.new {H : Hp} {p : Addr} {o : HO} (hp : H p = none) : Same H (upd H p o) := fun b u e => by
  rw [upd_ne (ne_of_none e hp)]
  exact e
theorem isHap_def (k i x : Nat) : isHap [k, i, x] = if k = 2 ∨ k = 3 then x == 0 else if k = 5 then i == 0 && x == 0 else decide (k < 5) := rfl
include F in
theorem ok_is_happening : Keeps P w K mg base 1 (He.ga K "is_happening") p_is_happening (spIsHap K) := by
  obtain ⟨fd, FD⟩ := F.d_is_happening
  refine ⟨fd, FD.ok sc_is_happening (fun vs H Q E q => ?_) (fun cdv A outer s H vs Q E hr q => ?_), FD.bindsN fun _ _ _ _ _ _ us hl => match us, hl with | [_], _ => rfl, FD.kp⟩
  · obtain ⟨t, k, i, x, rfl, _⟩ := q
    rfl
  · obtain ⟨t, k, i, x, rfl, hT, kQ⟩ := q
    refine ⟨_, (pss_cons (ps_if (pt_cmpR (kIn (K := K)) (pe_ix (kIxT (K := K)) (pv 0) pe_int (fun _ _ => rfl)) (pe_tup (pa_cons (pe_glob (v := .int 2) rfl (Exists.choose_spec F.i_HAS_NEVER_DONE) ⟨_, rfl⟩) (pa_cons (pe_glob (v := .int 3) rfl (Exists.choose_spec F.i_HAS_FIRED) ⟨_, rfl⟩) pa_nil))) rfl) (pss_one (ps_ret (pe_cmpR op_eq (pe_ix (kIxT (K := K)) (pv 0) pe_int (fun _ _ => rfl)) pe_int (nomark _)))) pss_nil)
      (pss_cons (ps_if (pt_cmpR op_eq (pe_ix (kIxT (K := K)) (pv 0) pe_int (fun _ _ => rfl)) (pe_glob (v := .int 5) rfl (Exists.choose_spec F.i_HAS_CALLED_OFF) ⟨_, rfl⟩) (nomark _)) (pss_one (ps_ret (pe_and (pe_cmpR op_eq (pe_ix (kIxT (K := K)) (pv 0) pe_int (fun _ _ => rfl)) pe_int (nomark _)) (pe_one (pe_cmpR op_eq (pe_ix (kIxT (K := K)) (pv 0) pe_int (fun _ _ => rfl)) pe_int (nomark _)))))) pss_nil)
      (pss_one (ps_ret (pe_cmpR op_lt (pe_ix (kIxT (K := K)) (pv 0) pe_int (fun _ _ => rfl)) (pe_glob (v := .int 5) rfl (Exists.choose_spec F.i_HAS_CALLED_OFF) ⟨_, rfl⟩) (nomark _)))))), ?_⟩
    have hs : SqT K H t [nV k, nV i, nV x] := SqT.of hT
    refine ⟨_, rfl, t, _, 0, _, rfl, rfl, hs, rfl, (by show 2 ≤ sizeLine; decide), fun p hp => ?_⟩
    refine ⟨p, _, rfl, .inr (SqT.of upd_same), rfl, rfl, _, rfl, ?_⟩
    have sm : Same H (upd H p (.tup [V.int 2, V.int 3])) := Same.new hp
    have hs' : SqT K (upd H p (.tup [V.int 2, V.int 3])) t [nV k, nV i, nV x] := SqT.of (sm _ _ hT)
    have e1 : inV (nV k) [V.int 2, V.int 3] = decide (k = 2 ∨ k = 3) := by
      rw [show ([V.int 2, V.int 3] : List V) = [(2 : Int), 3].map V.int from rfl, nV, inV_int]
      refine decide_eq_decide.mpr ?_
      simp only [List.mem_cons, List.not_mem_nil, or_false]
      omega
    by_cases c1 : k = 2 ∨ k = 3
    · refine ifT (e1.trans (decide_eq_true c1)) ?_
      refine ⟨_, rfl, t, _, 2, _, rfl, rfl, hs', rfl, rfl, ?_⟩
      have e2 : isHap [k, i, x] = decide (nV x = V.int 0) := by
        rw [isHap_def]
        rw [if_pos c1]
        exact (nat_dec (b := 0)).symm
      rw [← e2]
      exact kQ _ sm
    · refine ifF (e1.trans (decide_eq_false c1)) ?_
      refine ⟨_, rfl, t, _, 0, _, rfl, rfl, hs', rfl, rfl, _, rfl, ?_⟩
      by_cases c2 : k = 5
      · refine ifT (decide_eq_true (by rw [c2]; rfl)) ?_
        refine ⟨_, rfl, t, _, 1, _, rfl, rfl, hs', rfl, rfl, _, rfl, ?_⟩
        have e2 : isHap [k, i, x] = (decide (i = 0) && decide (x = 0)) := by
          rw [isHap_def]
          rw [if_neg c1, if_pos c2]
          rfl
        by_cases c3 : i = 0
        · refine ifT (decide_eq_true (by rw [c3]; rfl)) ?_
          refine ⟨_, rfl, t, _, 2, _, rfl, rfl, hs', rfl, rfl, ?_⟩
          rw [decide_eq_true c3, Bool.true_and] at e2
          have e3 : decide (nV x = V.int 0) = isHap [k, i, x] := e2 ▸ nat_dec (b := 0)
          rw [e3]
          exact kQ _ sm
        · refine ifF (decide_eq_false (fun z => c3 (nV_inj (b := 0) z))) ?_
          rw [decide_eq_false c3, Bool.false_and] at e2
          rw [← e2]
          exact kQ _ sm
      · refine ifF (decide_eq_false (fun z => c2 (nV_inj (b := 5) z))) ?_
        refine ⟨_, rfl, t, _, 0, _, rfl, rfl, hs', rfl, _, _, rfl, rfl, ?_⟩
        have e2 : isHap [k, i, x] = decide ((k : Int) < 5) := by
          rw [isHap_def]
          rw [if_neg c1, if_neg c2]
          exact decide_eq_decide.mpr (by omega)
        show Q (V.bl (decide ((k : Int) < 5))) _
        rw [← e2]
        exact kQ _ sm
def spReadHap (K : PySem.W.Frag) : Sp := fun vs H Q E => ∃ (a : Addr) (ns : List Nat), vs = [.ref a] ∧ SqL K H a (ns.map nV) ∧ ns.length ≤ 1000 ∧
  (¬ (ns.length % 3 = 0 ∧ ns.length / 3 ≤ 60 ∧ (cutW 3 ns).all isHap = true) → ∀ H', Same H H' → E (.ref (He.ga K "Malformed")) none H') ∧
  (ns.length % 3 = 0 → ns.length / 3 ≤ 60 → (cutW 3 ns).all isHap = true → ∀ H' p, Same H H' → H p = none → RowsAt H' p (cutW 3 ns) → Q (.ref p) H')
/-- each item is a tuple of three numbers -/
theorem three_at {r : List Nat} (h : r.length = 3) : ∃ k i x, r = [k, i, x] := by
  match r, h with
  | [k, i, x], _ => exact ⟨k, i, x, rfl⟩
theorem TupsAt.same {H H' : Hp} (e : Same H H') {as : List Addr} {rows : List (List Nat)} (t : TupsAt H as rows) : TupsAt H' as rows := t.mono fun b _ q => e b _ q
theorem RowsAt.same {H H' : Hp} (e : Same H H') {p : Addr} {rows : List (List Nat)} : RowsAt H p rows → RowsAt H' p rows := fun ⟨as, h1, h2⟩ => ⟨as, e _ _ h1, h2.same e⟩
/-- the k-th address holds the k-th row -/
theorem TupsAt.at_ {H : Hp} {as : List Addr} {rows : List (List Nat)} (t : TupsAt H as rows) {i : Nat} {r : List Nat} (h : rows[i]? = some r) : ∃ a, as[i]? = some a ∧ H a = some (.tup (r.map nV)) := by
  have hi : i < as.length := by rw [paired_len t]; exact lt_of_at h
  obtain ⟨r', h1, h2⟩ := paired_at t (List.getElem?_eq_getElem hi)
  rw [h] at h1
  cases h1
  exact ⟨_, List.getElem?_eq_getElem hi, h2⟩
theorem map_at {α β : Type} {f : α → β} {l : List α} {i : Nat} {y : β} (h : (l.map f)[i]? = some y) : ∃ x, l[i]? = some x ∧ y = f x := by
  rw [List.getElem?_map] at h
  cases e : l[i]? with
  | none => rw [e] at h; cases h
  | some x => rw [e] at h; exact ⟨x, rfl, (Option.some.inj h).symm⟩
include F in
theorem ok_read_happenings : Keeps P w K mg base 3 (He.ga K "read_happenings") p_read_happenings (spReadHap K) := by
  obtain ⟨fd, FD⟩ := F.d_read_happenings
  obtain ⟨fd_cut, G_cut, b_cut, k_cut⟩ := ok_cut (P := P) (base := base) F
  obtain ⟨fd_is_happening, G_is_happening, b_is_happening, k_is_happening⟩ := ok_is_happening (P := P) (base := base) F
  refine ⟨fd, FD.ok sc_read_happenings (fun vs H Q E q => ?_) (fun cdv A outer s H vs Q E hr q => ?_), FD.bindsN fun _ _ _ _ _ _ us hl => match us, hl with | [_], _ => rfl, FD.kp⟩
  · obtain ⟨a, ns, rfl, _⟩ := q
    rfl
  · obtain ⟨a, ns, rfl, hS, hl, kE, kQ⟩ := q
    refine ⟨_, (pss_cons (ps_set (i := 1) sc_read_happenings.nd rfl (Or.inl rfl) (pe_call G_cut (hr.mono (by first | decide | omega)) rfl F.g_cut k_cut b_cut .nil (passes_call (takes_of rfl rfl rfl rfl) (fun _ _ _ _ h => h)) (pa_cons (pv 0) (pa_cons pe_int pa_nil))))
      (pss_cons (ps_if (pt_cmpR op_gt (pe_callB (kLen (K := K)) (by rfl) F.n_len bt_len (pa_cons (pv 1) pa_nil)) (pe_glob (v := .int 60) rfl (Exists.choose_spec F.i_MOST_HAPPENINGS) ⟨_, rfl⟩) (nomark _)) (pss_one (ps_raise rfl (takes_of rfl rfl rfl rfl) (pmk_own0 PySem.F.excBase_Exception F.x_Malformed F.g_Malformed F.xk_Malformed F.xr_Malformed rfl))) pss_nil)
      (pss_cons (ps_if (pt_not (pt_val (pe_callB (kAll (K := K) rfl) (by rfl) F.n_all bt_all (pa_cons (pe_lc (own := [("three", 2)]) (g := gName 2) (tt := tYes) rfl sc_read_happenings.nd (kIt (K := K) (pv 1)) (blkOk_by (own := [("three", 2)]) (N := N_read_happenings) (sc := defScope s_read_happenings) (by decide +kernel)) (fun _ _ _ _ _ => (pg_name (i := 2) sc_read_happenings.nd rfl (Or.inl rfl))) (fun _ _ _ _ _ => pts_nil) (fun _ _ _ _ _ => (pe_call G_is_happening (hr.mono (by first | decide | omega)) rfl F.g_is_happening k_is_happening b_is_happening .nil passL (pa_cons (pv 2) pa_nil)))) pa_nil)))) (pss_one (ps_raise rfl (takes_of rfl rfl rfl rfl) (pmk_own0 PySem.F.excBase_Exception F.x_Malformed F.g_Malformed F.xk_Malformed F.xr_Malformed rfl))) pss_nil)
      (pss_one (ps_ret (pv 1)))))), ?_⟩
    refine ⟨_, rfl, a, ns, 3, rfl, hS, hl, .inl rfl, fun hd => kE (fun z => hd z.1) H (Same.refl H), fun hd H1 p s1 hp ⟨as, hp1, ht⟩ => ?_⟩
    have la : as.length = ns.length / 3 := by rw [paired_len ht, cutW_length]
    refine ⟨_, rfl, p, _, rfl, .inl (SqL.of hp1), _, _, rfl, rfl, _, rfl, ?_⟩
    by_cases hm : ns.length / 3 ≤ 60
    · refine ifF (decide_eq_false (by rw [List.length_map, la]; omega)) ?_
      refine ⟨_, rfl, p, rfl, ⟨_, SqL.of hp1⟩, fun D hD => ?_⟩
      have hl3 : ∀ (i : Nat) (r : List Nat), (cutW 3 ns)[i]? = some r → r.length = 3 := fun i r e => BkM.cutW_len (by decide) hd r (List.mem_of_getElem? e)
      refine lc_list (K := K) (a := p) (xs := as.map V.ref) (fun i H' => Same H1 H' ∧ H' D = some (.lst ((((cutW 3 ns).take i).map isHap).map V.bl))) ?_ ?_ ?_ ?_
      · exact ⟨Same.new hD, upd_same⟩
      · exact fun i H' _ ⟨sm, _⟩ => SqL.of (sm _ _ hp1)
      · rintro i v H' hi ⟨sm, hd1⟩
        obtain ⟨t, hi', rfl⟩ := map_at hi
        obtain ⟨r, hr1, hr2⟩ := paired_at ht hi'
        obtain ⟨k, j, x, rfl⟩ := three_at (hl3 i r hr1)
        refine ⟨rfl, _, rfl, t, k, j, x, rfl, sm _ _ hr2, fun H'' s2 => ?_⟩
        refine ⟨_, s2 _ _ hd1, ?_, fun b o e => ?_, ?_⟩
        · rw [List.length_map, List.length_map, List.length_take]
          have := lt_of_at hr1
          rw [cutW_length] at this
          exact short_line (by omega)
        · rw [upd_ne (ne_of_none e hD)]
          exact s2 _ _ (sm _ _ e)
        · rw [take_snoc hr1, List.map_append, List.map_append]
          exact upd_same
      · rintro H' ⟨sm, hd1⟩
        rw [List.length_map, la, ← cutW_length 3 ns, List.take_length] at hd1
        refine ⟨D, _, rfl, SqL.of hd1, _, rfl, ?_⟩
        have e1 : ((cutW 3 ns).map isHap).all id = (cutW 3 ns).all isHap := by rw [List.all_map]; rfl
        rw [e1]
        by_cases ha : (cutW 3 ns).all isHap = true
        · refine ifF (by rw [ha]; rfl) ?_
          exact ⟨_, rfl, kQ hd hm ha H' p (s1.trans sm) hp ⟨as, sm _ _ hp1, ht.same sm⟩⟩
        · exact ifT (by rw [Bool.eq_false_iff.mpr ha]; rfl) (kE (fun z => ha z.2.2) H' (s1.trans sm))
    · exact ifT (decide_eq_true (by rw [List.length_map, la]; omega)) (kE (fun z => hm z.2.1) H1 s1)
end

/-! ### book.py: read_pages, read_book -/
section
variable {P : Program} {w : World} {K : PySem.W.Frag} {mg : Str → Option Value} {h : Heap} {base : Heap} (F : Hd w K mg h)
open BkM (cutW cutW_length isHap okBid pagesFrom)
def PagesAt (H : Hp) (q : Addr) (pages : List (List (List Nat))) : Prop := ∃ ps, H q = some (.lst (ps.map V.ref)) ∧ Paired (fun (a : Addr) (rows : List (List Nat)) => RowsAt H a rows) ps pages
theorem PagesAt.same {H H' : Hp} (e : Same H H') {q : Addr} {pages : List (List (List Nat))} : PagesAt H q pages → PagesAt H' q pages := fun ⟨ps, h1, h2⟩ => ⟨ps, e _ _ h1, Paired.mapP h2 fun _ _ z => z.same e⟩
theorem paired_drop {α β : Type} {F : α → β → Prop} : ∀ {xs : List α} {ys : List β} (n : Nat), Paired F xs ys → Paired F (xs.drop n) (ys.drop n)
  | _, _, 0, h => h
  | _, _, _ + 1, .nil => .nil
  | _, _, n + 1, .cons _ t => paired_drop n t
theorem paired_take {α β : Type} {F : α → β → Prop} : ∀ {xs : List α} {ys : List β} (n : Nat), Paired F xs ys → Paired F (xs.take n) (ys.take n)
  | _, _, 0, _ => .nil
  | _, _, _ + 1, .nil => .nil
  | _, _, n + 1, .cons r t => .cons r (paired_take n t)
theorem cut_map {α : Type} (f : α → V) (l : List α) (i c : Nat) (h : i + c ≤ l.length) : cutV (l.map f) (some (i : Int)) (some ((i : Int) + (c : Int))) = ((l.drop i).take c).map f := by
  have e : ((i : Int) + (c : Int)) = ((i + c : Nat) : Int) := by omega
  unfold cutV
  rw [e, HT.sIx_nat, HT.sIx_nat, List.length_map, Nat.min_eq_left h, Nat.min_eq_left (show i ≤ l.length by omega), Nat.add_sub_cancel_left, ← List.map_drop, ← List.map_take]
theorem map_nV (l : List Nat) : l.map nV = (l.map fun (n : Nat) => (n : Int)).map V.int := by
  rw [List.map_map]
  rfl
theorem sum_cast : ∀ l : List Nat, (l.map fun (n : Nat) => (n : Int)).sum = ((l.sum : Nat) : Int)
  | [] => rfl
  | n :: l => by
    rw [List.map_cons, List.sum_cons, List.sum_cons, sum_cast l]
    omega
theorem sum_take_le : ∀ (l : List Nat) (i : Nat), (l.take i).sum ≤ l.sum
  | [], i => by simp
  | n :: l, 0 => by simp
  | n :: l, i + 1 => by
    rw [List.take_succ_cons, List.sum_cons, List.sum_cons]
    have := sum_take_le l i
    omega
theorem pagesFrom_snoc {α : Type} (b : List α) : ∀ (l : List Nat) (n i : Nat), pagesFrom i (l ++ [n]) b = pagesFrom i l b ++ [(b.drop (i + l.sum)).take n]
  | [], n, i => by
    show [(b.drop i).take n] = [(b.drop (i + 0)).take n]
    rw [Nat.add_zero]
  | m :: l, n, i => by
    show (b.drop i).take m :: pagesFrom (i + m) (l ++ [n]) b = (b.drop i).take m :: (pagesFrom (i + m) l b ++ [(b.drop (i + (m + l.sum))).take n])
    rw [pagesFrom_snoc b l n (i + m), Nat.add_assoc]
def spReadPages (K : PySem.W.Frag) : Sp := fun vs H Q E => ∃ (p a b : Addr) (n : Nat) (xs : List V) (sz bd : List Nat), vs = [.ref p, .ref a, .ref b] ∧ SqL K H p xs ∧ xs.length = n ∧ n ≤ 60 ∧ SqL K H a (sz.map nV) ∧ sz.length ≤ 100 ∧ SqL K H b (bd.map nV) ∧ bd.length ≤ 1000 ∧
  (¬ (bd.length % 4 = 0 ∧ sz.length = n + 1 ∧ sz.sum = bd.length / 4 ∧ (cutW 4 bd).all okBid = true) → ∀ H', Same H H' → E (.ref (He.ga K "Malformed")) none H') ∧
  (bd.length % 4 = 0 → sz.length = n + 1 → sz.sum = bd.length / 4 → (cutW 4 bd).all okBid = true → ∀ H' q, Same H H' → H q = none → PagesAt H' q (pagesFrom 0 sz (cutW 4 bd)) → Q (.ref q) H')
theorem four_at {r : List Nat} (h : r.length = 4) : ∃ k a b c, r = [k, a, b, c] := by
  match r, h with
  | [k, a, b, c], _ => exact ⟨k, a, b, c, rfl⟩
include F in
theorem ok_read_pages : Keeps P w K mg base 3 (He.ga K "read_pages") p_read_pages (spReadPages K) := by
  obtain ⟨fd, FD⟩ := F.d_read_pages
  obtain ⟨fd_cut, G_cut, b_cut, k_cut⟩ := ok_cut (P := P) (base := base) F
  refine ⟨fd, FD.ok sc_read_pages (fun vs H Q E q => ?_) (fun cdv A outer s H vs Q E hr q => ?_), FD.bindsN fun _ _ _ _ _ _ us hl => match us, hl with | [_, _, _], _ => rfl, FD.kp⟩
  · obtain ⟨p, a, b, n, xs, sz, bd, rfl, _⟩ := q
    rfl
  · obtain ⟨p, a, b, n, xs, sz, bd, rfl, hp, hxl, hn, ha, hzl, hb, hbl, kE, kQ⟩ := q
    refine ⟨_, (pss_cons (ps_set (i := 3) sc_read_pages.nd rfl (Or.inl rfl) (pe_call G_cut (hr.mono (by first | decide | omega)) rfl F.g_cut k_cut b_cut .nil (passes_call (takes_of rfl rfl rfl rfl) (fun _ _ _ _ h => h)) (pa_cons (pv 2) (pa_cons pe_int pa_nil))))
      (pss_cons (ps_if (PW.pt (pw_or (pt_cmpR op_ne (pe_callB (kLen (K := K)) (by rfl) F.n_len bt_len (pa_cons (pv 1) pa_nil)) (pe_op op_add (pe_callB (kLen (K := K)) (by rfl) F.n_len bt_len (pa_cons (pv 0) pa_nil)) pe_int) (nomark _)) (pw_or1 (pt_cmpR op_ne (pe_callB (kSum (K := K) rfl) (by rfl) F.n_sum bt_sum (pa_cons (pv 1) pa_nil)) (pe_callB (kLen (K := K)) (by rfl) F.n_len bt_len (pa_cons (pv 3) pa_nil)) (nomark _))))) (pss_one (ps_raise rfl (takes_of rfl rfl rfl rfl) (pmk_own0 PySem.F.excBase_Exception F.x_Malformed F.g_Malformed F.xk_Malformed F.xr_Malformed rfl))) pss_nil)
      (pss_cons (ps_if (pt_val (pe_callB (kAny (K := K) rfl) (by rfl) F.n_any bt_any (pa_cons (pe_lc (own := [("four", 7)]) (g := gName 7) (tt := tYes) rfl sc_read_pages.nd (kIt (K := K) (pv 3)) (blkOk_by (own := [("four", 7)]) (N := N_read_pages) (sc := defScope s_read_pages) (by decide +kernel)) (fun _ _ _ _ _ => (pg_name (i := 7) sc_read_pages.nd rfl (Or.inl rfl))) (fun _ _ _ _ _ => pts_nil) (fun _ _ _ _ _ => (pe_cmpR op_gt (pe_ix (kIxT (K := K)) (pv 7) pe_int (fun _ _ => rfl)) (pe_glob (v := .int 6) rfl (Exists.choose_spec F.i_BID_END) ⟨_, rfl⟩) (nomark _)))) pa_nil))) (pss_one (ps_raise rfl (takes_of rfl rfl rfl rfl) (pmk_own0 PySem.F.excBase_Exception F.x_Malformed F.g_Malformed F.xk_Malformed F.xr_Malformed rfl))) pss_nil)
      (pss_cons (ps_set (i := 4) sc_read_pages.nd rfl (Or.inl rfl) (pe_lst pa_nil))
      (pss_cons (ps_set (i := 5) sc_read_pages.nd rfl (Or.inl rfl) pe_int)
      (pss_cons (ps_for (passes_of rfl) rfl (kIt (K := K) (pv 1)) (pg_name (i := 6) sc_read_pages.nd rfl (Or.inl rfl)) (pss_cons (ps_expr (pe_bm PySem.F.plainAttrs_list PySem.F.slot_list_append PySem.F.type_list_append mt_append (pv 4) (pa_cons (pe_slice (kSlL (K := K)) (pv 3) (po_some (pv 5)) (po_some (pe_op op_add (pv 5) (pv 6)))) pa_nil)))
      (pss_one (ps_aug (i := 5) sc_read_pages.nd rfl (Or.inl rfl) (pv 6) ip_add))))
      (pss_one (ps_ret (pv 4))))))))), ?_⟩
    refine ⟨_, rfl, b, bd, 4, rfl, hb, hbl, .inr rfl, fun hd => kE (fun z => hd z.1) H (Same.refl H), fun hd H1 f s1 hf ⟨as, hf1, ht⟩ => ?_⟩
    have la : as.length = bd.length / 4 := by rw [paired_len ht, cutW_length]
    -- len(sizes) != len(happenings) + 1 or sum(sizes) != len(fours)
    refine ⟨_, rfl, a, _, rfl, .inl (s1.seq ha), _, rfl, p, _, rfl, .inl (s1.seq hp), _, _, rfl, rfl, rfl, _, rfl, ?_⟩
    rw [List.length_map, hxl]
    by_cases c1 : sz.length = n + 1
    · refine ifF (dneF (intE (by rw [c1]; rfl))) ?_
      refine ⟨_, rfl, a, _, rfl, map_nV sz ▸ s1.seq ha, _, rfl, f, _, rfl, .inl (SqL.of hf1), rfl, _, rfl, ?_⟩
      rw [List.length_map, la, sum_cast]
      by_cases c2 : sz.sum = bd.length / 4
      · refine ifF (dneF (intE (by rw [c2]))) ?_
        refine ⟨_, rfl, f, rfl, ⟨_, SqL.of hf1⟩, fun D hD => ?_⟩
        have hl4 : ∀ (i : Nat) (r : List Nat), (cutW 4 bd)[i]? = some r → r.length = 4 := fun i r e => BkM.cutW_len (by decide) hd r (List.mem_of_getElem? e)
        refine lc_list (K := K) (a := f) (xs := as.map V.ref) (fun i H' => Same H1 H' ∧ H' D = some (.lst ((((cutW 4 bd).take i).map fun r => !okBid r).map V.bl))) ?_ ?_ ?_ ?_
        · exact ⟨Same.new hD, upd_same⟩
        · exact fun i H' _ ⟨sm, _⟩ => SqL.of (sm _ _ hf1)
        · rintro i v H' hi ⟨sm, hd1⟩
          obtain ⟨t, hi', rfl⟩ := map_at hi
          obtain ⟨r, hr1, hr2⟩ := paired_at ht hi'
          obtain ⟨k, x, y, z, rfl⟩ := four_at (hl4 i r hr1)
          refine ⟨rfl, _, rfl, t, _, 0, _, rfl, rfl, SqT.of (sm _ _ hr2), rfl, _, _, rfl, rfl, ?_⟩
          refine ⟨_, hd1, ?_, fun b o e => ?_, ?_⟩
          · rw [List.length_map, List.length_map, List.length_take]
            have := lt_of_at hr1
            rw [cutW_length] at this
            exact short_line (by omega)
          · rw [upd_ne (ne_of_none e hD)]
            exact sm _ _ e
          · have e6 : decide ((6 : Int) < (k : Int)) = !okBid [k, x, y, z] := by
              show _ = !decide (k ≤ 6)
              by_cases e : k ≤ 6
              · rw [decide_eq_true e, decide_eq_false (by omega)]; rfl
              · rw [decide_eq_false e, decide_eq_true (by omega)]; rfl
            rw [take_snoc hr1, List.map_append, List.map_append]
            show upd H' D (.lst (_ ++ [V.bl (decide ((6 : Int) < (k : Int)))])) D = _
            rw [e6]
            exact upd_same
        · rintro H2 ⟨sm, hd1⟩
          rw [List.length_map, la, ← cutW_length 4 bd, List.take_length] at hd1
          refine ⟨D, _, rfl, SqL.of hd1, _, rfl, ?_⟩
          have e1 : ((cutW 4 bd).map fun r => !okBid r).any id = !(cutW 4 bd).all okBid := by rw [List.any_map, List.not_all_eq_any_not]; rfl
          rw [e1]
          by_cases ho : (cutW 4 bd).all okBid = true
          · refine ifF (by rw [ho]; rfl) ?_
            -- pages = []; start = 0
            refine ⟨by show 0 ≤ sizeLine; exact Nat.zero_le _, fun pg hpg => ?_⟩
            have s2 : Same H H2 := s1.trans sm
            refine ⟨_, rfl, a, rfl, ⟨_, (Same.new hpg).seq (s2.seq ha)⟩, for_list (K := K) (a := a) (xs := sz.map nV)
              (fun i σ H' => ∃ sv : Option V, σ = [some (.ref p), some (.ref a), some (.ref b), some (.ref f), some (.ref pg), some (.int (((sz.take i).sum : Nat) : Int)), sv, none] ∧ Same H2 H' ∧ ∃ ps, H' pg = some (.lst (ps.map V.ref)) ∧ Paired (fun (x : Addr) (rows : List (List Nat)) => x ≠ pg ∧ RowsAt H' x rows) ps (pagesFrom 0 (sz.take i) (cutW 4 bd)))
              ⟨none, rfl, Same.new hpg, [], upd_same, .nil⟩ (fun i σ H' _ ⟨_, _, s5, _⟩ => s5.seq (s2.seq ha)) ?_ ?_⟩
            · rintro i v σ H' hi ⟨sv, rfl, s5, ps, hp1, hp2⟩
              obtain ⟨m, hm, rfl⟩ := map_at hi
              have hle : (sz.take i).sum + m ≤ as.length := by
                have := sum_take_le sz (i + 1)
                rw [take_snoc hm, List.sum_append, List.sum_singleton] at this
                omega
              have lps : ps.length = i := by
                rw [paired_len hp2, BkM.pagesFrom_length, List.length_take]
                have := lt_of_at hm
                omega
              refine ⟨_, rfl, .inl ⟨rfl, _, SqL.of hp1⟩, _, rfl, _, rfl, _, rfl, _, rfl, _, rfl, _, _, rfl, rfl, _, rfl, f, _, rfl, SqL.of (s5 _ _ (sm _ _ hf1)), fun sl hsl => ?_⟩
              rw [cut_map V.ref as (sz.take i).sum m hle]
              have npg : pg ≠ sl := ne_of_none hp1 hsl
              refine ⟨pg, _, _, rfl, rfl, (by rw [upd_ne npg]; exact hp1), ?_, ?_⟩
              · rw [List.length_map, lps]
                have := lt_of_at hm
                exact short_line (by omega)
              · have kp : ∀ b o, H' b = some o → b ≠ pg → upd (upd H' sl (.lst (((as.drop (sz.take i).sum).take m).map V.ref))) pg (.lst (ps.map V.ref ++ [V.ref sl])) b = some o := fun b o e hb => by
                  rw [upd_ne hb, upd_ne (ne_of_none e hsl)]
                  exact e
                have kt : ∀ b xs, H' b = some (.tup xs) → upd (upd H' sl (.lst (((as.drop (sz.take i).sum).take m).map V.ref))) pg (.lst (ps.map V.ref ++ [V.ref sl])) b = some (.tup xs) := fun b xs e => kp b _ e (fun z => by rw [z, hp1] at e; cases e)
                have s6 : Same H2 (upd (upd H' sl (.lst (((as.drop (sz.take i).sum).take m).map V.ref))) pg (.lst (ps.map V.ref ++ [V.ref sl]))) := fun b o e => kp b o (s5 _ _ e) (ne_of_none e hpg)
                refine ⟨_, rfl, _, rfl, _, _, rfl, rfl, some (nV m), ?_, s6, ps ++ [sl], ?_, ?_⟩
                · rw [take_snoc hm, List.sum_append, List.sum_singleton]
                  show [_, _, _, _, _, some (V.int (((sz.take i).sum : Nat) + (m : Int))), _, _] = _
                  rw [← Int.natCast_add]
                · rw [List.map_append]
                  exact upd_same
                · rw [take_snoc hm, pagesFrom_snoc, Nat.zero_add]
                  refine paired_snoc (Paired.mapP hp2 fun x rows ⟨hx, xs, h1, h2⟩ => ⟨hx, xs, kp _ _ h1 hx, h2.mono kt⟩) ⟨npg.symm, _, (by rw [upd_ne (fun z => npg z.symm)]; exact upd_same), paired_take _ (paired_drop _ (ht.mono fun b xs e => kt b xs (s5 _ _ (sm _ _ e))))⟩
            · rintro σ H' ⟨sv, rfl, s5, ps, hp1, hp2⟩
              rw [List.length_map, List.take_length] at hp2
              have hpp : PagesAt H' pg (pagesFrom 0 sz (cutW 4 bd)) := ⟨ps, hp1, Paired.mapP hp2 fun _ _ z => z.2⟩
              exact ⟨_, rfl, kQ hd c1 c2 ho H' pg (s2.trans s5) (s2.free hpg) hpp⟩
          · exact ifT (by rw [Bool.eq_false_iff.mpr ho]; rfl) (kE (fun z => ho z.2.2.2) H2 (s1.trans sm))
      · exact ifT (dneT (intN (by omega))) (kE (fun z => c2 z.2.2.1) H1 s1)
    · exact ifT (dneT (intN (by omega))) (kE (fun z => c1 z.2.1) H1 s1)
/-- what happened, as the book tells it -/
def HapV (H : Hp) (v : V) : Option (List Nat) → Prop
  | none => v = .non
  | some r => ∃ a, v = .ref a ∧ H a = some (.tup (r.map nV))
def Item (H : Hp) (t : Addr) (o : Option (List Nat)) (rows : List (List Nat)) : Prop := ∃ v pg, H t = some (.tup [v, .ref pg]) ∧ HapV H v o ∧ RowsAt H pg rows
abbrev BookR : Type := List (Option (List Nat) × List (List Nat))
def ItemsAt (H : Hp) (ts : List Addr) (b : BookR) : Prop := Paired (fun (t : Addr) (it : Option (List Nat) × List (List Nat)) => Item H t it.1 it.2) ts b
def BookAt (H : Hp) (q : Addr) (b : BookR) : Prop := ∃ ts, H q = some (.lst (ts.map V.ref)) ∧ ItemsAt H ts b
theorem HapV.same {H H' : Hp} (e : Same H H') {v : V} : ∀ {o : Option (List Nat)}, HapV H v o → HapV H' v o
  | none, h => h
  | some _, ⟨a, h1, h2⟩ => ⟨a, h1, e _ _ h2⟩
theorem Item.same {H H' : Hp} (e : Same H H') {t : Addr} {o : Option (List Nat)} {rows : List (List Nat)} : Item H t o rows → Item H' t o rows := fun ⟨v, pg, h1, h2, h3⟩ => ⟨v, pg, e _ _ h1, h2.same e, h3.same e⟩
theorem ItemsAt.same {H H' : Hp} (e : Same H H') {ts : List Addr} {b : BookR} (h : ItemsAt H ts b) : ItemsAt H' ts b := Paired.mapP h fun _ _ z => z.same e
theorem BookAt.same {H H' : Hp} (e : Same H H') {q : Addr} {b : BookR} : BookAt H q b → BookAt H' q b := fun ⟨ts, h1, h2⟩ => ⟨ts, e _ _ h1, h2.same e⟩
/-- the book's rows by what was handed in -/
def bookR (h sz bd : List Nat) : BookR := (none :: (cutW 3 h).map some).zip (pagesFrom 0 sz (cutW 4 bd))
theorem haps_of {H : Hp} : ∀ {as : List Addr} {rows : List (List Nat)}, TupsAt H as rows → Paired (fun (v : V) (o : Option (List Nat)) => HapV H v o) (as.map V.ref) (rows.map some)
  | _, _, .nil => .nil
  | _, _, .cons h t => .cons ⟨_, rfl, h⟩ (haps_of t)
theorem pages_of {H : Hp} : ∀ {ps : List Addr} {pages : List (List (List Nat))}, Paired (fun (x : Addr) (rows : List (List Nat)) => RowsAt H x rows) ps pages → Paired (fun (v : V) (rows : List (List Nat)) => ∃ x, v = .ref x ∧ RowsAt H x rows) (ps.map V.ref) pages
  | _, _, .nil => .nil
  | _, _, .cons h t => .cons ⟨_, rfl, h⟩ (pages_of t)
theorem items_of {H : Hp} : ∀ {vs us : List V} {os : List (Option (List Nat))} {pages : List (List (List Nat))} {ts : List Addr}, Paired (fun (v : V) (o : Option (List Nat)) => HapV H v o) vs os → Paired (fun (v : V) (rows : List (List Nat)) => ∃ x, v = .ref x ∧ RowsAt H x rows) us pages →
    Paired (fun (t : Addr) (q : V × V) => H t = some (.tup [q.1, q.2])) ts (vs.zip us) → ItemsAt H ts (os.zip pages)
  | _, _, _, _, _, .nil, _, h => by
    cases h
    exact .nil
  | _, _, _, _, _, .cons _ _, .nil, h => by
    cases h
    exact .nil
  | _, _, _, _, _, .cons h1 t1, .cons ⟨x, e, h2⟩ t2, h => by
    cases h with
    | cons a b =>
      subst e
      exact .cons ⟨_, _, a, h1, h2⟩ (items_of t1 t2 b)
def spReadBook (K : PySem.W.Frag) : Sp := fun vs H Q E => ∃ (a b c : Addr) (hs sz bd : List Nat), vs = [.ref a, .ref b, .ref c] ∧ SqL K H a (hs.map nV) ∧ hs.length ≤ 1000 ∧ SqL K H b (sz.map nV) ∧ sz.length ≤ 100 ∧ SqL K H c (bd.map nV) ∧ bd.length ≤ 1000 ∧
  (¬ BkM.Formed hs sz bd → ∀ H', Same H H' → E (.ref (He.ga K "Malformed")) none H') ∧ (BkM.Formed hs sz bd → ∀ H' q, Same H H' → H q = none → BookAt H' q (bookR hs sz bd) → Q (.ref q) H')
include F in
theorem ok_read_book : Keeps P w K mg base 5 (He.ga K "read_book") p_read_book (spReadBook K) := by
  obtain ⟨fd, FD⟩ := F.d_read_book
  obtain ⟨fd_read_happenings, G_read_happenings, b_read_happenings, k_read_happenings⟩ := ok_read_happenings (P := P) (base := base) F
  obtain ⟨fd_read_pages, G_read_pages, b_read_pages, k_read_pages⟩ := ok_read_pages (P := P) (base := base) F
  refine ⟨fd, FD.ok sc_read_book (fun vs H Q E q => ?_) (fun cdv A outer s H vs Q E hr q => ?_), FD.bindsN fun _ _ _ _ _ _ us hl => match us, hl with | [_, _, _], _ => rfl, FD.kp⟩
  · obtain ⟨a, b, c, hs, sz, bd, rfl, _⟩ := q
    rfl
  · obtain ⟨a, b, c, hs, sz, bd, rfl, ha, hal, hb, hbl, hc, hcl, kE, kQ⟩ := q
    refine ⟨_, (pss_cons (ps_set (i := 3) sc_read_book.nd rfl (Or.inl rfl) (pe_call G_read_happenings (hr.mono (by first | decide | omega)) rfl F.g_read_happenings k_read_happenings b_read_happenings .nil (passes_call (takes_of rfl rfl rfl rfl) (fun _ _ _ _ h => h)) (pa_cons (pv 0) pa_nil)))
      (pss_one (ps_ret (pe_listZip rfl rfl F.n_list rfl F.n_zip (pa_cons (pe_op op_cat (pe_lst (pa_cons pe_non pa_nil)) (pv 3)) (pa_cons (pe_call G_read_pages (hr.mono (by first | decide | omega)) rfl F.g_read_pages k_read_pages b_read_pages .nil (passes_call (takes_of rfl rfl rfl rfl) (fun _ _ _ _ h => h)) (pa_cons (pv 3) (pa_cons (pv 1) (pa_cons (pv 2) pa_nil)))) pa_nil)))))), ?_⟩
    refine ⟨_, rfl, a, hs, rfl, ha, hal, fun hd H' sm => kE (fun z => hd ⟨z.h3, z.most, z.haps⟩) H' sm, fun d1 d2 d3 H1 p s1 hp ⟨as, hp1, ht⟩ => ?_⟩
    have la : as.length = hs.length / 3 := by rw [paired_len ht, cutW_length]
    refine ⟨by show 1 ≤ sizeLine; decide, fun n1 hn1 => ?_⟩
    have np : p ≠ n1 := ne_of_none hp1 hn1
    have s2 : Same H1 (upd H1 n1 (.lst [.non])) := Same.new hn1
    refine ⟨_, rfl, n1, p, _, _, rfl, rfl, upd_same, s2 _ _ hp1, by rw [List.length_map, la]; exact short_le (by show 1 + hs.length / 3 ≤ _; omega), fun z hz => ?_⟩
    have s3 : Same (upd H1 n1 (.lst [.non])) (upd (upd H1 n1 (.lst [.non])) z (.lst ([.non] ++ as.map V.ref))) := Same.new hz
    have s123 := (s1.trans s2).trans s3
    refine ⟨_, rfl, _, rfl, _, rfl, p, b, c, as.length, as.map V.ref, sz, bd, rfl, SqL.of (s3 _ _ (s2 _ _ hp1)), List.length_map .., by omega, s123.seq hb, hbl, s123.seq hc, hcl, fun hd H' sm => kE (fun q => hd ⟨q.b4, by rw [la]; exact q.len, q.sum, q.kinds⟩) H' (s123.trans sm), fun f1 f2 f3 f4 H4 q s4 hq hpp => ?_⟩
    obtain ⟨ps, hq1, hq2⟩ := hpp
    have hz4 : H4 z = some (.lst ([.non] ++ as.map V.ref)) := s4 _ _ upd_same
    refine ⟨z, q, _, _, rfl, SqL.of hz4, SqL.of hq1, fun H5 y ts s5 hy _ _ hy5 hts => ?_⟩
    have s05 := (s123.trans s4).trans s5
    have s15 : Same H1 H5 := ((s2.trans s3).trans s4).trans s5
    refine kQ ⟨d1, d2, d3, f1, by rw [← la]; exact f2, f3, f4⟩ H5 y s05 ((s123.trans s4).free hy) ⟨ts, hy5, ?_⟩
    exact items_of (.cons rfl (haps_of (ht.same s15))) (pages_of (Paired.mapP hq2 fun _ _ q => q.same s5)) hts
end

/-! ### data of rows -/
section
def natD (r : List Nat) : PyData := .tuple (r.map fun (n : Nat) => .int (n : Int))
def rowsD (rows : List (List Nat)) : PyData := .list (rows.map natD)
theorem dp_ints {K : PySem.W.Frag} {H : Hp} : ∀ r : List Nat, DpAll K H (r.map nV) (r.map fun (n : Nat) => PyData.int (n : Int))
  | [] => .nil
  | n :: r => .cons (.int (n : Int)) (dp_ints r)
theorem dp_row {K : PySem.W.Frag} {H : Hp} {a : Addr} {r : List Nat} (h : H a = some (.tup (r.map nV))) : Dp K H (.ref a) (natD r) := .tup (SqT.of h) (dp_ints r)
theorem dp_rowsL {K : PySem.W.Frag} {H : Hp} : ∀ {as : List Addr} {rows : List (List Nat)}, TupsAt H as rows → DpAll K H (as.map V.ref) (rows.map natD)
  | _, _, .nil => .nil
  | _, _, .cons h t => .cons (dp_row h) (dp_rowsL t)
theorem dp_rows {K : PySem.W.Frag} {H : Hp} {p : Addr} {rows : List (List Nat)} : RowsAt H p rows → Dp K H (.ref p) (rowsD rows) := fun ⟨_, h1, h2⟩ => .lst (SqL.of h1) (dp_rowsL h2)
theorem nats_lay : ∀ r : List Nat, PyData.canLayAll0 (r.map fun (n : Nat) => PyData.int (n : Int)) = true
  | [] => by simp [PyData.canLayAll0]
  | n :: r => by simp [PyData.canLayAll0, PyData.canLay0, nats_lay r]
theorem nats_depth : ∀ r : List Nat, PyData.depthAll (r.map fun (n : Nat) => PyData.int (n : Int)) ≤ 1
  | [] => by simp [PyData.depthAll]
  | n :: r => by
    have h1 := nats_depth r
    simp only [List.map_cons, PyData.depthAll, PyData.depth]
    omega
theorem natD_lay (r : List Nat) : (natD r).canLay0 = true := by
  show PyData.canLay0 (.tuple _) = true
  simp only [PyData.canLay0]
  exact nats_lay r
theorem natD_depth (r : List Nat) : (natD r).depth ≤ 2 := by
  have h := nats_depth r
  show PyData.depth (.tuple _) ≤ 2
  simp only [PyData.depth]
  omega
theorem natD_shaped (r : List Nat) : SeqAt.shaped (natD r) = true := by
  have h := natD_depth r
  show ((natD r).canLay0 && decide ((natD r).depth ≤ 64)) = true
  rw [natD_lay, decide_eq_true (by omega)]
  rfl
theorem rowsD_lay : ∀ rows : List (List Nat), PyData.canLayAll0 (rows.map natD) = true
  | [] => by simp [PyData.canLayAll0]
  | r :: rows => by simp [PyData.canLayAll0, natD_lay r, rowsD_lay rows]
theorem rowsD_depth : ∀ rows : List (List Nat), PyData.depthAll (rows.map natD) ≤ 2
  | [] => by simp [PyData.depthAll]
  | r :: rows => by
    have h1 := rowsD_depth rows
    have h2 := natD_depth r
    simp only [List.map_cons, PyData.depthAll]
    omega
theorem rowsD_shaped (rows : List (List Nat)) : SeqAt.shaped (rowsD rows) = true := by
  have h1 := rowsD_depth rows
  have h2 : PyData.depth (rowsD rows) ≤ 64 := by
    show PyData.depth (.list _) ≤ 64
    simp only [PyData.depth]
    omega
  show (PyData.canLay0 (rowsD rows) && decide (PyData.depth (rowsD rows) ≤ 64)) = true
  rw [decide_eq_true h2, Bool.and_true]
  show PyData.canLay0 (.list _) = true
  simp only [PyData.canLay0]
  exact rowsD_lay rows
theorem nats_eqv : ∀ r q : List Nat, PyData.eqvAll (r.map fun (n : Nat) => PyData.int (n : Int)) (q.map fun (n : Nat) => PyData.int (n : Int)) = decide (r = q)
  | [], [] => by simp [PyData.eqvAll]
  | [], _ :: _ => by simp [PyData.eqvAll]
  | _ :: _, [] => by simp [PyData.eqvAll]
  | a :: r, b :: q => by
    simp only [List.map_cons, PyData.eqvAll, PyData.eqv, nats_eqv r q]
    by_cases e : a = b
    · subst e
      simp
    · have : ((a : Int) == (b : Int)) = false := beq_eq_false_iff_ne.mpr (by omega)
      rw [this, decide_eq_false (fun z => e (List.cons.inj z).1), Bool.false_and]
theorem natD_eqv (r q : List Nat) : PyData.eqv (natD r) (natD q) = decide (r = q) := by
  show PyData.eqv (.tuple _) (.tuple _) = _
  simp only [PyData.eqv]
  exact nats_eqv r q
theorem rows_any (q : List Nat) : ∀ rows : List (List Nat), (rows.map natD).any (fun z => PyData.eqv z (natD q)) = decide (q ∈ rows)
  | [] => by simp
  | r :: rows => by
    rw [List.map_cons, List.any_cons, rows_any q rows, natD_eqv]
    by_cases e : r = q
    · subst e
      simp
    · have e' : ¬ q = r := fun z => e z.symm
      simp [e, e']
theorem hu65 {k : Nat} {A : Around} (hr : Room k A) : A.units + 65 < cLine := by
  have := hr.un
  omega
theorem hu64 {k : Nat} {A : Around} (hr : Room k A) : A.units + 64 < cLine := by
  have := hr.un
  omega
end
/-! ### what a book tells by itself -/
def kindIs (k : Nat) : List Nat → Bool
  | x :: _ => decide (x = k)
  | _ => false
def kindsR (k : Nat) (rows : List (List Nat)) : List Nat := (List.range rows.length).filter fun i => kindIs k (rows.getD i [])
def ansR (i : Nat) (happ : List (List Nat)) : Bool := happ.any fun r => decide (r.getD 0 9 < 3) && decide (r.getD 1 0 = i)
def asksR (happ rows : List (List Nat)) : List Nat := (kindsR 0 rows).filter fun i => !ansR i happ
def offsR (happ rows : List (List Nat)) : List Nat := (asksR happ rows).filter fun i => decide ([3, i, 0, 0] ∈ rows)
def runsR (happ rows : List (List Nat)) (i : Nat) : Bool := !decide ([2, i, 0, 0] ∈ rows) && !decide ([3, i, 0] ∈ happ)
def timersR (happ rows : List (List Nat)) : List Nat := (kindsR 1 rows).filter fun i => runsR happ rows i
def overR (rows : List (List Nat)) : Bool := !(kindsR 6 rows).isEmpty
def calledR (happ : List (List Nat)) : Bool := decide ([5, 0, 0] ∈ happ)
/-- rows of a width -/
def Wide (n : Nat) (rows : List (List Nat)) : Prop := ∀ r ∈ rows, r.length = n
theorem filter_snoc {α : Type} (p : α → Bool) (l : List α) (x : α) : (l ++ [x]).filter p = if p x = true then l.filter p ++ [x] else l.filter p := by
  rw [List.filter_append]
  by_cases h : p x = true
  · rw [if_pos h, List.filter_cons_of_pos h]; rfl
  · rw [if_neg h, List.filter_cons_of_neg h]; simp
theorem getD_of {α : Type} {l : List α} {i : Nat} {x d : α} (h : l[i]? = some x) : l.getD i d = x := by
  rw [List.getD_eq_getElem?_getD, h]
  rfl
section
variable {P : Program} {w : World} {K : PySem.W.Frag} {mg : Str → Option Value} {h : Heap} {base : Heap} (F : Hd w K mg h)
/-- self has these attributes -/
def SelfA (K : PySem.W.Frag) (H : Hp) (s : Addr) (fs : List (Str × V)) : Prop := ∃ dx, H s = some (.ins (He.ga K "Alone") dx fs)
def spKinds (K : PySem.W.Frag) : Sp := fun vs H Q _ => ∃ (s a : Addr) (k : Nat) (fs : List (Str × V)) (rows : List (List Nat)), vs = [.ref s, .int (k : Int)] ∧ SelfA K H s fs ∧ fs.lookup ("bids" : Str) = some (.ref a) ∧ RowsAt H a rows ∧ Wide 4 rows ∧ rows.length ≤ 1000 ∧
  ∀ H' p, Same H H' → H p = none → H' p = some (.lst ((kindsR k rows).map nV)) → Q (.ref p) H'
include F in
theorem ok_kinds : Keeps P w K mg base 1 (He.ma K (He.ga K "Alone") "bids_of_kind") p_Alone_bids_of_kind (spKinds K) := by
  obtain ⟨fd, FD⟩ := F.d_Alone_bids_of_kind
  refine ⟨fd, FD.ok sc_Alone_bids_of_kind (fun vs H Q E q => ?_) (fun cdv A outer s H vs Q E hr q => ?_), FD.bindsN fun _ _ _ _ _ _ us hl => match us, hl with | [_, _], _ => rfl, FD.kp⟩
  · obtain ⟨s, a, k, fs, rows, rfl, _⟩ := q
    rfl
  · obtain ⟨s, a, k, fs, rows, rfl, ⟨dx, hs⟩, hf, ⟨as, ha, ht⟩, hw, hl, kQ⟩ := q
    refine ⟨_, (pss_one (ps_ret (pe_lc (own := [("number", 2), ("four", 3)]) rfl sc_Alone_bids_of_kind.nd (pi_enum rfl F.n_enumerate (pa_cons (kFld (K := K) (pv 0) rfl) pa_nil)) (blkOk_by (own := [("number", 2), ("four", 3)]) (N := N_Alone_bids_of_kind) (sc := defScope s_Alone_bids_of_kind) (by decide +kernel)) (fun _ _ _ _ _ => (kTupT (K := K) (n := 2) rfl (pgs_cons (pg_name (i := 2) sc_Alone_bids_of_kind.nd rfl (Or.inl rfl)) (pgs_cons (pg_name (i := 3) sc_Alone_bids_of_kind.nd rfl (Or.inl rfl)) pgs_nil)))) (fun _ _ _ _ _ => (pts_one (pt_cmpR op_eq (pe_ix (kIxT (K := K)) (pv 3) pe_int (fun _ _ => rfl)) (pv 1) (nomark _)))) (fun _ _ _ _ _ => (pv 2))))), ?_⟩
    have la := paired_len ht
    refine ⟨_, rfl, s, _, dx, fs, .ref a, rfl, hs, F.c_Alone, F.a_Alone_bids, hf, a, _, rfl, SqL.of ha, fun D hD => ?_⟩
    refine lc_it (walk_enum (K := K) (a := a) (xs := as.map V.ref)) (fun i H' => Same H H' ∧ H' D = some (.lst (((List.range i).filter fun j => kindIs k (rows.getD j [])).map nV))) ?_ ?_ ?_ ?_
    · exact ⟨Same.new hD, upd_same⟩
    · exact fun i H' _ ⟨sm, _⟩ => SqL.of (sm _ _ ha)
    · rintro i v H1 H2 hi ⟨sm, hd1⟩ ⟨T, x, y, rfl, hT, rfl, hx, hy⟩
      cases hx
      obtain ⟨t, ht1, rfl⟩ := map_at hy
      obtain ⟨r, hr1, hr2⟩ := paired_at ht ht1
      obtain ⟨k', x', y', z', rfl⟩ := four_at (hw r (List.mem_of_getElem? hr1))
      have sT : Same H1 (upd H1 T (.tup [.int (i : Nat), .ref t])) := Same.new hT
      have kk : kindIs k (rows.getD i []) = decide (k' = k) := by rw [getD_of hr1]; rfl
      refine ⟨T, _, rfl, SqT.of upd_same, rfl, ⟨_, _, rfl, _, _, rfl, rfl, rfl, ?_⟩⟩
      refine ⟨_, rfl, t, _, 0, _, rfl, rfl, SqT.of (sT _ _ (sm _ _ hr2)), rfl, _, rfl, rfl, _, rfl, ?_⟩
      have e1 : decide (nV k' = V.int (k : Int)) = kindIs k (rows.getD i []) := by rw [kk]; exact nat_dec
      rw [e1]
      have nD : D ≠ T := ne_of_none hd1 hT
      by_cases c : kindIs k (rows.getD i []) = true
      · refine ifT c ?_
        refine ⟨_, rfl, _, (by rw [upd_ne nD]; exact hd1), ?_, fun b o e => ?_, ?_⟩
        · rw [List.length_map]
          have h1 : ((List.range i).filter fun j => kindIs k (rows.getD j [])).length ≤ (List.range i).length := List.length_filter_le ..
          rw [List.length_range] at h1
          rw [List.length_map] at hi
          exact short_line (by omega)
        · rw [upd_ne (ne_of_none e hD)]
          exact sT _ _ (sm _ _ e)
        · rw [List.range_succ, filter_snoc, if_pos c, List.map_append]
          exact upd_same
      · refine ifF (Bool.eq_false_iff.mpr c) ?_
        refine ⟨sm.trans sT, ?_⟩
        rw [List.range_succ, filter_snoc, if_neg c, upd_ne nD]
        exact hd1
    · rintro H' ⟨sm, hd1⟩
      rw [List.length_map, la] at hd1
      exact kQ H' D sm hD hd1
end
section
variable {P : Program} {w : World} {K : PySem.W.Frag} {mg : Str → Option Value} {h : Heap} {base : Heap} (F : Hd w K mg h)
def spAns (K : PySem.W.Frag) : Sp := fun vs H Q _ => ∃ (s a : Addr) (i : Nat) (fs : List (Str × V)) (happ : List (List Nat)), vs = [.ref s, .int (i : Int)] ∧ SelfA K H s fs ∧ fs.lookup ("happened" : Str) = some (.ref a) ∧ RowsAt H a happ ∧ Wide 3 happ ∧ happ.length ≤ 1000 ∧
  ∀ H', Same H H' → Q (.bl (ansR i happ)) H'
theorem any_filter_map (i : Nat) : ∀ happ : List (List Nat), decide ((i : Int) ∈ (happ.filter fun r => decide (r.getD 0 9 < 3)).map fun r => ((r.getD 1 0 : Nat) : Int)) = ansR i happ
  | [] => rfl
  | r :: happ => by
    have ih := any_filter_map i happ
    unfold ansR at ih ⊢
    rw [List.any_cons, ← ih]
    by_cases c : r.getD 0 9 < 3
    · rw [List.filter_cons_of_pos (by exact decide_eq_true c), List.map_cons, decide_eq_true c, Bool.true_and]
      by_cases e : r.getD 1 0 = i
      · rw [decide_eq_true e, Bool.true_or]
        exact decide_eq_true (List.mem_cons.mpr (.inl (by rw [e])))
      · rw [decide_eq_false e, Bool.false_or]
        refine decide_eq_decide.mpr ⟨fun z => (List.mem_cons.mp z).elim (fun q => absurd (by omega) e) id, fun z => List.mem_cons_of_mem _ z⟩
    · rw [List.filter_cons_of_neg (by simpa using c), decide_eq_false c, Bool.false_and, Bool.false_or]
include F in
theorem ok_ans : Keeps P w K mg base 1 (He.ma K (He.ga K "Alone") "is_answered") p_Alone_is_answered (spAns K) := by
  obtain ⟨fd, FD⟩ := F.d_Alone_is_answered
  refine ⟨fd, FD.ok sc_Alone_is_answered (fun vs H Q E q => ?_) (fun cdv A outer s H vs Q E hr q => ?_), FD.bindsN fun _ _ _ _ _ _ us hl => match us, hl with | [_, _], _ => rfl, FD.kp⟩
  · obtain ⟨s, a, i, fs, happ, rfl, _⟩ := q
    rfl
  · obtain ⟨s, a, i, fs, happ, rfl, ⟨dx, hs⟩, hf, ⟨as, ha, ht⟩, hw, hl, kQ⟩ := q
    refine ⟨_, (pss_cons (ps_setLc (i := 2) (y := "answers") (own := [("three", 3)]) (g := gName 3) rfl sc_Alone_is_answered.nd rfl rfl (sw_true rfl rfl rfl (by decide +kernel)) (kIt (K := K) (kFld (K := K) (pv 0) rfl)) (blkOk_by (own := [("three", 3)]) (N := N_Alone_is_answered) (sc := defScope s_Alone_is_answered) (by decide +kernel)) (fun _ _ _ _ _ => (pg_name (i := 3) sc_Alone_is_answered.nd rfl (Or.inl rfl))) (fun _ _ _ _ _ => (pts_one (pt_cmpR (kIn (K := K)) (pe_ix (kIxT (K := K)) (pv 3) pe_int (fun _ _ => rfl)) (pe_tup (pa_cons (pe_glob (v := .int 0) rfl (Exists.choose_spec F.i_HAS_DONE) ⟨_, rfl⟩) (pa_cons (pe_glob (v := .int 1) rfl (Exists.choose_spec F.i_HAS_FAILED) ⟨_, rfl⟩) (pa_cons (pe_glob (v := .int 2) rfl (Exists.choose_spec F.i_HAS_NEVER_DONE) ⟨_, rfl⟩) pa_nil)))) rfl))) (fun _ _ _ _ _ => (pv 3)))
      (pss_one (ps_ret (pe_cmpR (kIn (K := K)) (pv 1) (pe_lc (own := [("three", 3)]) (g := gName 3) (tt := tYes) rfl sc_Alone_is_answered.nd (kIt (K := K) (pv 2)) (blkOk_by (own := [("three", 3)]) (N := N_Alone_is_answered) (sc := defScope s_Alone_is_answered) (by decide +kernel)) (fun _ _ _ _ _ => (pg_name (i := 3) sc_Alone_is_answered.nd rfl (Or.inl rfl))) (fun _ _ _ _ _ => pts_nil) (fun _ _ _ _ _ => (pe_ix (kIxT (K := K)) (pv 3) pe_int (fun _ _ => rfl)))) rfl)))), ?_⟩
    have la := paired_len ht
    refine ⟨_, rfl, s, _, dx, fs, .ref a, rfl, hs, F.c_Alone, F.a_Alone_happened, hf, a, rfl, ⟨_, SqL.of ha⟩, fun D hD => ?_⟩
    refine lc_list (K := K) (a := a) (xs := as.map V.ref) (fun j H' => Same H H' ∧ RowsAt H' D ((happ.take j).filter fun r => decide (r.getD 0 9 < 3))) ?_ ?_ ?_ ?_
    · exact ⟨Same.new hD, [], upd_same, .nil⟩
    · exact fun i H' _ ⟨sm, _⟩ => SqL.of (sm _ _ ha)
    · rintro j v H1 hj ⟨sm, ds, hd1, hd2⟩
      obtain ⟨t, ht1, rfl⟩ := map_at hj
      obtain ⟨r, hr1, hr2⟩ := paired_at ht ht1
      obtain ⟨k, x, y, rfl⟩ := three_at (hw r (List.mem_of_getElem? hr1))
      refine ⟨rfl, _, rfl, t, _, 0, _, rfl, rfl, SqT.of (sm _ _ hr2), rfl, (by show 3 ≤ sizeLine; decide), fun p hp => ?_⟩
      have sp : Same H1 (upd H1 p (.tup [V.int 0, V.int 1, V.int 2])) := Same.new hp
      refine ⟨p, _, rfl, .inr (SqT.of upd_same), rfl, rfl, _, rfl, ?_⟩
      have e1 : inV (nV k) [V.int 0, V.int 1, V.int 2] = decide (k < 3) := by
        rw [show ([V.int 0, V.int 1, V.int 2] : List V) = [(0 : Int), 1, 2].map V.int from rfl, nV, inV_int]
        refine decide_eq_decide.mpr ?_
        simp only [List.mem_cons, List.not_mem_nil, or_false]
        omega
      have nD : D ≠ p := ne_of_none hd1 hp
      have ld : ds.length ≤ 1000 := by
        rw [paired_len hd2]
        refine Nat.le_trans (List.length_filter_le ..) ?_
        rw [List.length_take]
        omega
      by_cases c : k < 3
      · refine ifT (e1.trans (decide_eq_true c)) ?_
        refine ⟨_, rfl, _, (by rw [upd_ne nD]; exact hd1), (by rw [List.length_map]; exact short_line (by omega)), ?_⟩
        have kp : ∀ b o, H1 b = some o → b ≠ D → upd (upd H1 p (.tup [V.int 0, V.int 1, V.int 2])) D (.lst (ds.map V.ref ++ [V.ref t])) b = some o := fun b o e hb => by
          rw [upd_ne hb]
          exact sp _ _ e
        refine ⟨fun b o e => kp b o (sm _ _ e) (ne_of_none e hD), ds ++ [t], (by rw [List.map_append]; exact upd_same), ?_⟩
        rw [take_snoc hr1, filter_snoc, if_pos (by exact decide_eq_true c)]
        exact paired_snoc (hd2.mono fun b xs e => kp b _ e (fun z => by rw [z, hd1] at e; cases e)) (kp _ _ (sm _ _ hr2) (ne_of_none hr2 hD))
      · refine ifF (e1.trans (decide_eq_false c)) ?_
        refine ⟨sm.trans sp, ds, sp _ _ hd1, ?_⟩
        rw [take_snoc hr1, filter_snoc, if_neg (by simpa using c)]
        exact hd2.same sp
    · rintro H1 ⟨sm, ds, hd1, hd2⟩
      rw [List.length_map, la, List.take_length] at hd2
      -- number in [three[1] for three in answers]
      refine ⟨_, rfl, _, rfl, D, rfl, ⟨_, SqL.of hd1⟩, fun D2 hD2 => ?_⟩
      have ld : ds.length ≤ 1000 := by
        rw [paired_len hd2]
        exact Nat.le_trans (List.length_filter_le ..) hl
      refine lc_list (K := K) (a := D) (xs := ds.map V.ref) (fun j H' => Same H1 H' ∧ H' D2 = some (.lst ((((happ.filter fun r => decide (r.getD 0 9 < 3)).take j).map fun r => ((r.getD 1 0 : Nat) : Int)).map V.int))) ?_ ?_ ?_ ?_
      · exact ⟨Same.new hD2, upd_same⟩
      · exact fun i H' _ ⟨sm, _⟩ => SqL.of (sm _ _ hd1)
      · rintro j v H2 hj ⟨s2, hd3⟩
        obtain ⟨t, ht1, rfl⟩ := map_at hj
        obtain ⟨r, hr1, hr2⟩ := paired_at hd2 ht1
        obtain ⟨k, x, y, rfl⟩ := three_at (hw r (List.mem_filter.mp (List.mem_of_getElem? hr1)).1)
        refine ⟨rfl, _, rfl, t, _, 1, _, rfl, rfl, SqT.of (s2 _ _ hr2), rfl, ?_⟩
        refine ⟨_, hd3, ?_, fun b o e => ?_, ?_⟩
        · rw [List.length_map, List.length_map, List.length_take]
          have := lt_of_at ht1
          exact short_line (by omega)
        · rw [upd_ne (ne_of_none e hD2)]
          exact s2 _ _ e
        · rw [take_snoc hr1, List.map_append, List.map_append]
          exact upd_same
      · rintro H2 ⟨s2, hd3⟩
        rw [List.length_map, paired_len hd2, List.take_length] at hd3
        refine ⟨D2, _, rfl, .inl (SqL.of hd3), rfl, flat_ints _, ?_⟩
        show Q (V.bl (inV (V.int (i : Int)) _)) H2
        rw [inV_int, any_filter_map]
        exact kQ H2 (sm.trans s2)
end

section
variable {P : Program} {w : World} {K : PySem.W.Frag} {mg : Str → Option Value} {h : Heap} {base : Heap} (F : Hd w K mg h)
/-- self, with what happened and the bids -/
def SelfB (K : PySem.W.Frag) (H : Hp) (s : Addr) (happ rows : List (List Nat)) : Prop := ∃ (a1 a2 : Addr) (fs : List (Str × V)), SelfA K H s fs ∧ fs.lookup ("happened" : Str) = some (.ref a1) ∧ fs.lookup ("bids" : Str) = some (.ref a2) ∧ RowsAt H a1 happ ∧ RowsAt H a2 rows ∧ fs.lookup ("bids_of_kind" : Str) = none
theorem SelfB.same {K : PySem.W.Frag} {H H' : Hp} {s : Addr} {happ rows : List (List Nat)} (e : Same H H') : SelfB K H s happ rows → SelfB K H' s happ rows := fun ⟨a1, a2, fs, ⟨dx, h1⟩, h2, h3, h4, h5, h6⟩ => ⟨a1, a2, fs, ⟨dx, e _ _ h1⟩, h2, h3, h4.same e, h5.same e, h6⟩
def spRuns (K : PySem.W.Frag) : Sp := fun vs H Q _ => ∃ (s : Addr) (i : Nat) (happ rows : List (List Nat)), vs = [.ref s, .int (i : Int)] ∧ SelfB K H s happ rows ∧ ∀ H', Same H H' → Q (.bl (runsR happ rows i)) H'
include F in
theorem ok_runs : Keeps P w K mg base 1 (He.ma K (He.ga K "Alone") "still_runs") p_Alone_still_runs (spRuns K) := by
  obtain ⟨fd, FD⟩ := F.d_Alone_still_runs
  refine ⟨fd, FD.ok sc_Alone_still_runs (fun vs H Q E q => ?_) (fun cdv A outer s H vs Q E hr q => ?_), FD.bindsN fun _ _ _ _ _ _ us hl => match us, hl with | [_, _], _ => rfl, FD.kp⟩
  · obtain ⟨s, i, happ, rows, rfl, _⟩ := q
    rfl
  · obtain ⟨s, i, happ, rows, rfl, ⟨a1, a2, fs, ⟨dx, hs⟩, hf1, hf2, h1, h2, hm⟩, kQ⟩ := q
    refine ⟨_, (pss_one (ps_ret (pe_and (pe_cmpR (kNotInD (K := K) (hu65 hr)) (pe_tup (pa_cons (pe_glob (v := .int 2) rfl (Exists.choose_spec F.i_BID_STOP) ⟨_, rfl⟩) (pa_cons (pv 1) (pa_cons pe_int (pa_cons pe_int pa_nil))))) (kFld (K := K) (pv 0) rfl) rfl) (pe_one (pe_cmpR (kNotInD (K := K) (hu65 hr)) (pe_tup (pa_cons (pe_glob (v := .int 3) rfl (Exists.choose_spec F.i_HAS_FIRED) ⟨_, rfl⟩) (pa_cons (pv 1) (pa_cons pe_int pa_nil)))) (kFld (K := K) (pv 0) rfl) rfl))))), ?_⟩
    refine ⟨_, rfl, (by show 4 ≤ sizeLine; decide), fun p hp => ?_⟩
    have s1 : Same H (upd H p (.tup ([2, i, 0, 0].map nV))) := Same.new hp
    refine ⟨_, rfl, s, _, dx, fs, .ref a2, rfl, s1 _ _ hs, F.c_Alone, F.a_Alone_bids, hf2, natD [2, i, 0, 0], _, dp_row upd_same, dp_rows (h2.same s1), natD_shaped _, rowsD_shaped _, ?_⟩
    rw [rows_any]
    refine ⟨_, rfl, ?_⟩
    unfold runsR at kQ
    by_cases c : [2, i, 0, 0] ∈ rows
    · refine ifF (by rw [decide_eq_true c]; rfl) ?_
      rw [decide_eq_true c, Bool.not_true, Bool.false_and] at kQ
      exact kQ _ s1
    · refine ifT (by rw [decide_eq_false c]; rfl) ?_
      rw [decide_eq_false c, Bool.not_false, Bool.true_and] at kQ
      refine ⟨_, rfl, (by show 3 ≤ sizeLine; decide), fun p2 hp2 => ?_⟩
      have s2 : Same H (upd (upd H p (.tup ([2, i, 0, 0].map nV))) p2 (.tup ([3, i, 0].map nV))) := s1.trans (Same.new hp2)
      refine ⟨_, rfl, s, _, dx, fs, .ref a1, rfl, s2 _ _ hs, F.c_Alone, F.a_Alone_happened, hf1, natD [3, i, 0], _, dp_row upd_same, dp_rows (h1.same s2), natD_shaped _, rowsD_shaped _, ?_⟩
      rw [rows_any]
      exact kQ _ s2
end

section
variable {P : Program} {w : World} {K : PySem.W.Frag} {mg : Str → Option Value} {h : Heap} {base : Heap} (F : Hd w K mg h)
/-- all but the object at s stays -/
def But (s : Addr) (H H' : Hp) : Prop := ∀ b o, H b = some o → b ≠ s → H' b = some o
theorem But.of {s : Addr} {H H' : Hp} (e : Same H H') : But s H H' := fun b o q _ => e b o q
theorem But.trans {s : Addr} {H H1 H2 : Hp} (a : But s H H1) (b : But s H1 H2) : But s H H2 := fun c o q n => b c o (a c o q n) n
theorem But.put {s : Addr} {H : Hp} {o : HO} : But s H (upd H s o) := fun b u q n => by rw [upd_ne n]; exact q
section
variable {s C dx : Addr} {fs : List (Str × V)} {H H' : Hp}
theorem But.tup (e : But s H H') (hs : H s = some (.ins C dx fs)) : ∀ b xs, H b = some (.tup xs) → H' b = some (.tup xs) := fun b xs q => e b _ q (ne_of q hs (by intro z; cases z))
theorem But.lst (e : But s H H') (hs : H s = some (.ins C dx fs)) {b : Addr} {xs : List V} (q : H b = some (.lst xs)) : H' b = some (.lst xs) := e b _ q (ne_of q hs (by intro z; cases z))
theorem RowsAt.but (e : But s H H') (hs : H s = some (.ins C dx fs)) {p : Addr} {rows : List (List Nat)} : RowsAt H p rows → RowsAt H' p rows := fun ⟨as, h1, h2⟩ => ⟨as, e.lst hs h1, h2.mono (e.tup hs)⟩
theorem HapV.but (e : But s H H') (hs : H s = some (.ins C dx fs)) {v : V} : ∀ {o : Option (List Nat)}, HapV H v o → HapV H' v o
  | none, h => h
  | some _, ⟨a, h1, h2⟩ => ⟨a, h1, e.tup hs _ _ h2⟩
theorem ItemsAt.but (e : But s H H') (hs : H s = some (.ins C dx fs)) {ts : List Addr} {b : BookR} (h : ItemsAt H ts b) : ItemsAt H' ts b :=
  Paired.mapP h fun _ _ ⟨v, pg, h1, h2, h3⟩ => ⟨v, pg, e.tup hs _ _ h1, h2.but e hs, h3.but e hs⟩
end
def haps (b : BookR) : List (List Nat) := b.filterMap (·.1)
def bidsB (b : BookR) : List (List Nat) := b.flatMap (·.2)
/-- a well-formed book -/
structure WfB (b : BookR) : Prop where
  len : b.length ≤ 61
  three : ∀ it ∈ b, ∀ r, it.1 = some r → r.length = 3
  four : ∀ it ∈ b, Wide 4 it.2
  all : (bidsB b).length ≤ 300
theorem WfB.w3 {b : BookR} (W : WfB b) : Wide 3 (haps b) := fun r hr => by
  obtain ⟨it, h1, h2⟩ := List.mem_filterMap.mp hr
  exact W.three it h1 r h2
theorem WfB.w4 {b : BookR} (W : WfB b) : Wide 4 (bidsB b) := fun r hr => by
  obtain ⟨it, h1, h2⟩ := List.mem_flatMap.mp hr
  exact W.four it h1 r h2
theorem WfB.hl {b : BookR} (W : WfB b) : (haps b).length ≤ 1000 := Nat.le_trans (List.length_filterMap_le ..) (Nat.le_trans W.len (by decide))
theorem bids_take {b : BookR} (W : WfB b) (i : Nat) : (bidsB (b.take i)).length ≤ 300 := by
  have e : bidsB b = bidsB (b.take i) ++ bidsB (b.drop i) := by
    unfold bidsB
    rw [← List.flatMap_append, List.take_append_drop]
  have := W.all
  rw [e, List.length_append] at this
  omega
def aFs (a1 a2 a3 a4 a5 : Addr) : List (Str × V) := [("happened", .ref a1), ("bids", .ref a2), ("asks", .ref a3), ("called_off_asks", .ref a4), ("timers", .ref a5)]
structure AloneAt (K : PySem.W.Frag) (H : Hp) (s : Addr) (b : BookR) : Prop where
  ex : ∃ a1 a2 a3 a4 a5, SelfA K H s (aFs a1 a2 a3 a4 a5) ∧ RowsAt H a1 (haps b) ∧ RowsAt H a2 (bidsB b) ∧ H a3 = some (.lst ((asksR (haps b) (bidsB b)).map nV)) ∧
    H a4 = some (.lst ((offsR (haps b) (bidsB b)).map nV)) ∧ H a5 = some (.lst ((timersR (haps b) (bidsB b)).map nV))
theorem AloneAt.same {K : PySem.W.Frag} {H H' : Hp} {s : Addr} {b : BookR} (e : Same H H') : AloneAt K H s b → AloneAt K H' s b := fun ⟨⟨a1, a2, a3, a4, a5, ⟨dx, h0⟩, h1, h2, h3, h4, h5⟩⟩ =>
  ⟨⟨a1, a2, a3, a4, a5, ⟨dx, e _ _ h0⟩, h1.same e, h2.same e, e _ _ h3, e _ _ h4, e _ _ h5⟩⟩
def spInit (K : PySem.W.Frag) : Sp := fun vs H Q _ => ∃ (s q dx : Addr) (b : BookR), vs = [.ref s, .ref q] ∧ H s = some (.ins (He.ga K "Alone") dx []) ∧ BookAt H q b ∧ WfB b ∧ ∀ H', But s H H' → AloneAt K H' s b → Q .non H'
theorem kinds_len (k : Nat) (rows : List (List Nat)) : (kindsR k rows).length ≤ rows.length := by
  have h : (kindsR k rows).length ≤ (List.range rows.length).length := List.length_filter_le ..
  rw [List.length_range] at h
  exact h
/-- a comprehension that keeps some of a list of numbers -/
theorem lc_keep {K : PySem.W.Frag} {l D : Addr} {ns : List Nat} (p : Nat → Bool) {i : Nat} {tt : TT} {vs : List Nat} {σ : L2.St} {H1 : Hp} {Qd : Hp → Prop} (hn : ns.length ≤ 1000) (hi : i < σ.length) (hv : vs = [i]) (hl : H1 l = some (.lst (ns.map nV))) (hD : H1 D = none)
    (ht : ∀ (n : Nat) (H : Hp) (R : Bool → Hp → Prop), Same H1 H → n ∈ ns → (∀ H', Same H H' → R (p n) H') → tt ((wipe σ vs).set i (some (nV n))) H R)
    (hd : ∀ H, Same H1 H → H D = some (.lst ((ns.filter p).map nV)) → Qd H) :
    ∃ W : Nat → Nat → Hp → Prop, (∃ m, W 0 m (upd H1 D (.lst []))) ∧ ∀ j m H, W j m H →
      ((Itl K l).stop j H ∧ Qd H) ∨ ((Itl K l).go j H ∧ ∃ Nx : Hp → Prop, (∀ H', Nx H' → ∃ m', m' < m ∧ W (j + 1) m' H') ∧ ∀ x H', (Itl K l).yld j H x H' → gName i x (wipe σ vs) H' fun σ2 H2 => wipe σ2 vs = wipe σ vs ∧ tt σ2 H2 fun b H3 =>
        if b = true then tVar i σ2 H3 fun y H4 => ∃ acc, H4 D = some (.lst acc) ∧ acc.length < sizeLine ∧ Nx (upd H4 D (.lst (acc ++ [y]))) else Nx H3) := by
  refine lc_list (K := K) (a := l) (xs := ns.map nV) (fun j H' => Same H1 H' ∧ H' D = some (.lst (((ns.take j).filter p).map nV))) ?_ ?_ ?_ ?_
  · exact ⟨Same.new hD, upd_same⟩
  · exact fun _ H' _ ⟨sm, _⟩ => SqL.of (sm _ _ hl)
  · rintro j v H hj ⟨sm, hd1⟩
    obtain ⟨n, hn1, rfl⟩ := map_at hj
    have hσ : ((wipe σ vs).set i (some (nV n)))[i]? = some (some (nV n)) := List.getElem?_set_self (by rw [wipe_length]; exact hi)
    refine ⟨?_, ht n H _ sm (List.mem_of_getElem? hn1) fun H' s2 => ?_⟩
    · subst hv
      show ((wipe (σ) [i]).set i (some (nV n))).set i none = (σ.set i none)
      show ((σ.set i none).set i (some (nV n))).set i none = (σ.set i none)
      rw [List.set_set, List.set_set]
    · by_cases c : p n = true
      · refine ifT c ⟨_, hσ, _, s2 _ _ hd1, ?_, fun b o e => ?_, ?_⟩
        · rw [List.length_map]
          have h1 : ((ns.take j).filter p).length ≤ (ns.take j).length := List.length_filter_le ..
          rw [List.length_take] at h1
          exact short_line (by omega)
        · rw [upd_ne (ne_of_none e hD)]
          exact s2 _ _ (sm _ _ e)
        · rw [take_snoc hn1, filter_snoc, if_pos c, List.map_append]
          exact upd_same
      · refine ifF (Bool.eq_false_iff.mpr c) ⟨sm.trans s2, ?_⟩
        rw [take_snoc hn1, filter_snoc, if_neg c]
        exact s2 _ _ hd1
  · rintro H ⟨sm, hd1⟩
    rw [List.length_map, List.take_length] at hd1
    exact hd H sm hd1
end

section
variable {P : Program} {w : World} {K : PySem.W.Frag} {mg : Str → Option Value} {h : Heap} {base : Heap} (F : Hd w K mg h)
theorem haps_snoc {b : BookR} {i : Nat} {o : Option (List Nat)} {rows : List (List Nat)} (h : b[i]? = some (o, rows)) : haps (b.take (i + 1)) = haps (b.take i) ++ o.toList := by
  unfold haps
  rw [take_snoc h, List.filterMap_append]
  cases o <;> rfl
theorem bids_snoc {b : BookR} {i : Nat} {o : Option (List Nat)} {rows : List (List Nat)} (h : b[i]? = some (o, rows)) : bidsB (b.take (i + 1)) = bidsB (b.take i) ++ rows := by
  unfold bidsB
  rw [take_snoc h, List.flatMap_append]
  show _ ++ (rows ++ []) = _
  rw [List.append_nil]
theorem paired_app {α β : Type} {F : α → β → Prop} : ∀ {xs : List α} {ys : List β} {xs' : List α} {ys' : List β}, Paired F xs ys → Paired F xs' ys' → Paired F (xs ++ xs') (ys ++ ys')
  | _, _, _, _, .nil, h => h
  | _, _, _, _, .cons r t, h => .cons r (paired_app t h)
include F in
theorem ok_init : Keeps P w K mg base 3 (He.ma K (He.ga K "Alone") "__init__") p_Alone_init (spInit K) := by
  obtain ⟨fd, FD⟩ := F.d_Alone_init
  obtain ⟨fd_Alone_bids_of_kind, G_Alone_bids_of_kind, b_Alone_bids_of_kind, k_Alone_bids_of_kind⟩ := ok_kinds (P := P) (base := base) F
  obtain ⟨fd_Alone_is_answered, G_Alone_is_answered, b_Alone_is_answered, k_Alone_is_answered⟩ := ok_ans (P := P) (base := base) F
  obtain ⟨fd_Alone_still_runs, G_Alone_still_runs, b_Alone_still_runs, k_Alone_still_runs⟩ := ok_runs (P := P) (base := base) F
  refine ⟨fd, FD.ok sc_Alone_init (fun vs H Q E q => ?_) (fun cdv A outer s H vs Q E hr q => ?_), FD.bindsN fun _ _ _ _ _ _ us hl => match us, hl with | [_, _], _ => rfl, FD.kp⟩
  · obtain ⟨s, q, dx, b, rfl, _⟩ := q
    rfl
  · obtain ⟨s, q, dx, b, rfl, hs, ⟨ts, hq, ht⟩, W, kQ⟩ := q
    refine ⟨_, (pss_cons (kSetF (K := K) (pv 0) (pe_lc (own := [("three", 2), ("page", 3)]) rfl sc_Alone_init.nd (kIt (K := K) (pv 1)) (blkOk_by (own := [("three", 2), ("page", 3)]) (N := N_Alone_init) (sc := defScope s_Alone_init) (by decide +kernel)) (fun _ _ _ _ _ => (kTupT (K := K) (n := 2) rfl (pgs_cons (pg_name (i := 2) sc_Alone_init.nd rfl (Or.inl rfl)) (pgs_cons (pg_name (i := 3) sc_Alone_init.nd rfl (Or.inl rfl)) pgs_nil)))) (fun _ _ _ _ _ => (pts_one (pt_cmpR op_notN (pv 2) pe_non (nomark _)))) (fun _ _ _ _ _ => (pv 2))) rfl)
      (pss_cons (kSetF (K := K) (pv 0) (pe_lst pa_nil) rfl)
      (pss_cons (ps_for (passes_of rfl) rfl (kIt (K := K) (pv 1)) (kTupT (K := K) (n := 2) rfl (pgs_cons (pg_name (i := 2) sc_Alone_init.nd rfl (Or.inl rfl)) (pgs_cons (pg_name (i := 3) sc_Alone_init.nd rfl (Or.inl rfl)) pgs_nil))) (pss_one (ps_expr (pe_bm PySem.F.plainAttrs_list PySem.F.slot_list_extend PySem.F.type_list_extend mt_extend (kFld (K := K) (pv 0) rfl) (pa_cons (pv 3) pa_nil)))))
      (pss_cons (kSetF (K := K) (pv 0) (pe_lc (own := [("number", 4)]) (g := gName 4) rfl sc_Alone_init.nd (kIt (K := K) (pe_meth (pv 0) F.c_Alone F.m_Alone_bids_of_kind G_Alone_bids_of_kind (hr.mono (by first | decide | omega)) b_Alone_bids_of_kind .nil passL (pa_cons (pe_glob (v := .int 0) rfl (Exists.choose_spec F.i_BID_ASK) ⟨_, rfl⟩) pa_nil))) (blkOk_by (own := [("number", 4)]) (N := N_Alone_init) (sc := defScope s_Alone_init) (by decide +kernel)) (fun _ _ _ _ _ => (pg_name (i := 4) sc_Alone_init.nd rfl (Or.inl rfl))) (fun _ _ _ _ _ => (pts_one (pt_not (pt_val (pe_meth (pv 0) F.c_Alone F.m_Alone_is_answered G_Alone_is_answered (hr.mono (by first | decide | omega)) b_Alone_is_answered .nil passL (pa_cons (pv 4) pa_nil)))))) (fun _ _ _ _ _ => (pv 4))) rfl)
      (pss_cons (kSetF (K := K) (pv 0) (pe_lc (own := [("number", 4)]) (g := gName 4) rfl sc_Alone_init.nd (kIt (K := K) (kFld (K := K) (pv 0) rfl)) (blkOk_by (own := [("number", 4)]) (N := N_Alone_init) (sc := defScope s_Alone_init) (by decide +kernel)) (fun _ _ _ _ _ => (pg_name (i := 4) sc_Alone_init.nd rfl (Or.inl rfl))) (fun _ _ _ _ _ => (pts_one (pt_cmpR (kInD (K := K) (hu65 hr)) (pe_tup (pa_cons (pe_glob (v := .int 3) rfl (Exists.choose_spec F.i_BID_CALL_OFF) ⟨_, rfl⟩) (pa_cons (pv 4) (pa_cons pe_int (pa_cons pe_int pa_nil))))) (kFld (K := K) (pv 0) rfl) rfl))) (fun _ _ _ _ _ => (pv 4))) rfl)
      (pss_one (kSetF (K := K) (pv 0) (pe_lc (own := [("number", 4)]) (g := gName 4) rfl sc_Alone_init.nd (kIt (K := K) (pe_meth (pv 0) F.c_Alone F.m_Alone_bids_of_kind G_Alone_bids_of_kind (hr.mono (by first | decide | omega)) b_Alone_bids_of_kind .nil passL (pa_cons (pe_glob (v := .int 1) rfl (Exists.choose_spec F.i_BID_TIMER) ⟨_, rfl⟩) pa_nil))) (blkOk_by (own := [("number", 4)]) (N := N_Alone_init) (sc := defScope s_Alone_init) (by decide +kernel)) (fun _ _ _ _ _ => (pg_name (i := 4) sc_Alone_init.nd rfl (Or.inl rfl))) (fun _ _ _ _ _ => (pts_one (pt_val (pe_meth (pv 0) F.c_Alone F.m_Alone_still_runs G_Alone_still_runs (hr.mono (by first | decide | omega)) b_Alone_still_runs .nil passL (pa_cons (pv 4) pa_nil))))) (fun _ _ _ _ _ => (pv 4))) rfl))))))), ?_⟩
    have lt := paired_len ht
    -- self.happened
    refine ⟨_, rfl, q, rfl, ⟨_, SqL.of hq⟩, fun D hD => ?_⟩
    refine lc_list (K := K) (a := q) (xs := ts.map V.ref) (fun i H' => Same H H' ∧ RowsAt H' D (haps (b.take i))) ?_ ?_ ?_ ?_
    · exact ⟨Same.new hD, [], upd_same, .nil⟩
    · exact fun i H' _ ⟨sm, _⟩ => SqL.of (sm _ _ hq)
    · rintro i v H1 hi ⟨sm, ds, hd1, hd2⟩
      obtain ⟨t, ht1, rfl⟩ := map_at hi
      obtain ⟨⟨o, rows⟩, hr1, v, pg, hr2, hr3, hr4⟩ := paired_at ht ht1
      have hv := hr3.same sm
      refine ⟨t, _, rfl, SqT.of (sm _ _ hr2), rfl, _, _, rfl, _, _, rfl, rfl, rfl, _, rfl, rfl, _, rfl, ?_⟩
      have ld : ds.length ≤ 1000 := by
        rw [paired_len hd2]
        exact Nat.le_trans (List.length_filterMap_le ..) (by rw [List.length_take]; have := W.len; omega)
      cases o with
      | none =>
        have e : v = .non := hv
        subst e
        refine ifF rfl ⟨sm, ds, hd1, ?_⟩
        rw [haps_snoc hr1]
        simpa using hd2
      | some r =>
        obtain ⟨a, e, ha⟩ := hv
        subst e
        refine ifT rfl ⟨_, rfl, _, hd1, (by rw [List.length_map]; exact short_line (by omega)), ?_⟩
        have kp : ∀ b o, H1 b = some o → b ≠ D → upd H1 D (.lst (ds.map V.ref ++ [V.ref a])) b = some o := fun b o e hb => by
          rw [upd_ne hb]
          exact e
        refine ⟨fun b o e => kp b o (sm _ _ e) (ne_of_none e hD), ds ++ [a], (by rw [List.map_append]; exact upd_same), ?_⟩
        rw [haps_snoc hr1]
        have nt : ∀ {b xs}, H1 b = some (.tup xs) → b ≠ D := fun e z => by rw [z, hd1] at e; cases e
        exact paired_snoc (hd2.mono fun b xs e => kp b _ e (nt e)) (kp _ _ ha (nt ha))
    · rintro H1 ⟨s1, hD1⟩
      rw [List.length_map, lt, List.take_length] at hD1
      refine ⟨_, rfl, s, _, dx, [], rfl, s1 _ _ hs, F.c_Alone, F.a_Alone_happened, by simp, ?_⟩
      -- self.bids = []
      have hs1 := s1 _ _ hs
      obtain ⟨H2, eH2⟩ : ∃ H2, H2 = upd H1 s (.ins (He.ga K "Alone") dx [("happened", .ref D)]) := ⟨_, rfl⟩
      have B12 : But s H1 H2 := by rw [eH2]; exact But.put
      have hs2 : H2 s = some (.ins (He.ga K "Alone") dx [("happened", .ref D)]) := by rw [eH2]; exact upd_same
      have D2 := hD1.but B12 hs1
      have T2 := (ht.same s1).but B12 hs1
      have q2 := B12.lst hs1 (s1 _ _ hq)
      have B02 : But s H H2 := (But.of s1).trans B12
      rw [show upd H1 s (.ins (He.ga K "Alone") dx (putF "happened" (V.ref D) [])) = H2 from eH2.symm]
      clear eH2 B12
      refine ⟨by show 0 ≤ sizeLine; exact Nat.zero_le _, fun B hB => ?_⟩
      refine ⟨_, rfl, s, _, dx, _, rfl, (by rw [upd_ne (ne_of_none hs2 hB)]; exact hs2), F.c_Alone, F.a_Alone_bids, (by simp), ?_⟩
      obtain ⟨H3, eH3⟩ : ∃ H3, H3 = upd (upd H2 B (.lst [])) s (.ins (He.ga K "Alone") dx [("happened", .ref D), ("bids", .ref B)]) := ⟨_, rfl⟩
      have nsB : B ≠ s := fun z => by rw [z, hs2] at hB; cases hB
      have S2B : Same H2 (upd H2 B (.lst [])) := Same.new hB
      have hs2B := S2B _ _ hs2
      have B23 : But s (upd H2 B (.lst [])) H3 := by rw [eH3]; exact But.put
      have hs3 : H3 s = some (.ins (He.ga K "Alone") dx [("happened", .ref D), ("bids", .ref B)]) := by rw [eH3]; exact upd_same
      have hB3 : H3 B = some (.lst []) := by rw [eH3, upd_ne nsB]; exact upd_same
      have D3 := (D2.same S2B).but B23 hs2B
      have T3 := (T2.same S2B).but B23 hs2B
      have q3 := B23.lst hs2B (S2B _ _ q2)
      have B03 : But s H H3 := (B02.trans (But.of S2B)).trans B23
      have nB : ∀ b o, H2 b = some o → b ≠ B := fun b o e => ne_of_none e hB
      rw [show upd (upd H2 B (.lst [])) s (.ins (He.ga K "Alone") dx (putF "bids" (V.ref B) [("happened", .ref D)])) = H3 from eH3.symm]
      -- the loop
      have B0B : ∀ b o, H b = some o → b ≠ B := fun b o e z => by
        by_cases c : b = s
        · exact nsB (z.symm.trans c)
        · exact nB b o (B02 b o e c) z
      have DnB : D ≠ B := fun z => by
        obtain ⟨ds, h1, _⟩ := D2
        exact nB D _ h1 z
      refine ⟨_, rfl, q, rfl, ⟨_, SqL.of q3⟩, for_list (K := K) (a := q) (xs := ts.map V.ref)
        (fun i σ H' => ∃ x2 x3 : Option V, σ = [some (.ref s), some (.ref q), x2, x3, none] ∧ RowsAt H' B (bidsB (b.take i)) ∧ (∀ b' o, H3 b' = some o → b' ≠ B → H' b' = some o))
        ⟨none, none, rfl, ⟨[], hB3, .nil⟩, fun _ _ e _ => e⟩ (fun i σ H' _ ⟨_, _, _, _, e⟩ => SqL.of (e _ _ q3 (B0B q _ hq))) ?_ ?_⟩
      · rintro i v σ H' hi ⟨x2, x3, rfl, ⟨bs, hb1, hb2⟩, hk⟩
        obtain ⟨t, ht1, rfl⟩ := map_at hi
        obtain ⟨⟨o, rows⟩, hr1, v, pg, hr2, hr3, ⟨ps, hr4, hr5⟩⟩ := paired_at T3 ht1
        have kt : ∀ b' xs, H3 b' = some (.tup xs) → H' b' = some (.tup xs) := fun b' xs e => hk b' _ e (fun z => by rw [z, hB3] at e; cases e)
        -- the page's list is none of ours
        have pB : pg ≠ B := fun z => by
          obtain ⟨it, hi1, v', pg', g1, g2, ⟨ps', g3, g4⟩⟩ := paired_at ht ht1
          have e1 := B03.tup hs _ _ g1
          rw [hr2] at e1
          cases e1
          exact B0B _ _ g3 z
        refine ⟨t, _, rfl, SqT.of (kt _ _ hr2), rfl, _, _, rfl, _, _, rfl, rfl, _, rfl, s, _, dx, _, .ref B, rfl, hk _ _ hs3 (Ne.symm nsB), F.c_Alone, F.a_Alone_bids, rfl, .inl ⟨rfl, _, SqL.of hb1⟩, _, rfl, B, pg, _, _, rfl, rfl, hb1, hk _ _ hr4 pB, ?_, ?_⟩
        · have h1 := bids_take W (i + 1)
          rw [bids_snoc hr1, List.length_append, ← paired_len hb2, ← paired_len hr5] at h1
          rw [List.length_map, List.length_map]
          exact short_le (by omega)
        · have kp : ∀ b' o, H' b' = some o → b' ≠ B → upd H' B (.lst (bs.map V.ref ++ ps.map V.ref)) b' = some o := fun b' o e hb => by rw [upd_ne hb]; exact e
          have kt' : ∀ b' xs, H' b' = some (.tup xs) → upd H' B (.lst (bs.map V.ref ++ ps.map V.ref)) b' = some (.tup xs) := fun b' xs e => kp b' _ e (fun z => by rw [z, hb1] at e; cases e)
          refine ⟨_, _, rfl, ⟨bs ++ ps, (by rw [List.map_append]; exact upd_same), ?_⟩, fun b' o e hb => kp b' o (hk b' o e hb) hb⟩
          rw [bids_snoc hr1]
          exact paired_app (hb2.mono kt') (hr5.mono fun b' xs e => kt' b' xs (kt b' xs e))
      · rintro σ H4 ⟨x2, x3, rfl, hB4, hk⟩
        rw [List.length_map, lt, List.take_length] at hB4
        have hs4 := hk _ _ hs3 (Ne.symm nsB)
        have kt : ∀ b' xs, H3 b' = some (.tup xs) → H4 b' = some (.tup xs) := fun b' xs e => hk b' _ e (fun z => by rw [z, hB3] at e; cases e)
        have D4 : RowsAt H4 D (haps b) := let ⟨ds, h1, h2⟩ := D3; ⟨ds, hk _ _ h1 DnB, h2.mono kt⟩
        have B04 : But s H H4 := fun b' o e hb => hk b' o (B03 b' o e hb) (B0B b' o e)
        clear hk kt T3 T2 q2 q3 B03 B02 B0B D3 D2 hs3 hB3 hs2 hs2B S2B B23 nB hD1 hs1 s1 eH3
        have sb4 : SelfB K H4 s (haps b) (bidsB b) := ⟨D, B, _, ⟨dx, hs4⟩, rfl, rfl, D4, hB4, rfl⟩
        have rl : (bidsB b).length ≤ 1000 := Nat.le_trans W.all (by decide)
        -- self.asks
        refine ⟨_, rfl, s, dx, _, rfl, hs4, rfl, s, B, 0, _, bidsB b, rfl, ⟨dx, hs4⟩, rfl, hB4, W.w4, rl, fun H5 l s5 hl hl5 => ?_⟩
        refine ⟨l, rfl, ⟨_, SqL.of hl5⟩, fun A3 hA3 => ?_⟩
        refine lc_keep (i := 4) (fun i => !ansR i (haps b)) (Nat.le_trans (kinds_len _ _) rl) (by show 4 < 5; decide) rfl hl5 hA3 ?_ ?_
        · intro n H' R sm hn hR
          refine ⟨_, rfl, s, dx, _, rfl, sm _ _ (s5 _ _ hs4), rfl, _, rfl, s, D, n, _, haps b, rfl, ⟨dx, sm _ _ (s5 _ _ hs4)⟩, rfl, (D4.same s5).same sm, W.w3, W.hl, fun H'' s2 => ?_⟩
          exact ⟨_, rfl, hR H'' s2⟩
        · intro H6 s6 hA6
          have s46 := s5.trans s6
          have hs6 := s46 _ _ hs4
          refine ⟨_, rfl, s, _, dx, _, rfl, hs6, F.c_Alone, F.a_Alone_asks, (by simp), ?_⟩
          obtain ⟨H7, eH7⟩ : ∃ H7, H7 = upd H6 s (.ins (He.ga K "Alone") dx [("happened", .ref D), ("bids", .ref B), ("asks", .ref A3)]) := ⟨_, rfl⟩
          have B67 : But s H6 H7 := by rw [eH7]; exact But.put
          have hs7 : H7 s = some (.ins (He.ga K "Alone") dx [("happened", .ref D), ("bids", .ref B), ("asks", .ref A3)]) := by rw [eH7]; exact upd_same
          have D7 := (D4.same s46).but B67 hs6
          have B7 := (hB4.same s46).but B67 hs6
          have A7 := B67.lst hs6 hA6
          have B07 : But s H H7 := (B04.trans (But.of s46)).trans B67
          rw [show upd H6 s (.ins (He.ga K "Alone") dx (putF "asks" (V.ref A3) [("happened", .ref D), ("bids", .ref B)])) = H7 from eH7.symm]
          clear eH7 B67
          have la3 : (asksR (haps b) (bidsB b)).length ≤ 1000 := Nat.le_trans (List.length_filter_le ..) (Nat.le_trans (kinds_len _ _) rl)
          -- self.called_off_asks
          refine ⟨_, rfl, s, _, dx, _, .ref A3, rfl, hs7, F.c_Alone, F.a_Alone_asks, rfl, A3, rfl, ⟨_, SqL.of A7⟩, fun A4 hA4 => ?_⟩
          refine lc_keep (i := 4) (fun i => decide ([3, i, 0, 0] ∈ bidsB b)) la3 (by show 4 < 5; decide) rfl A7 hA4 ?_ ?_
          · intro n H' R sm hn hR
            refine ⟨_, rfl, (by show 4 ≤ sizeLine; decide), fun p hp => ?_⟩
            have sp : Same H' (upd H' p (.tup ([3, n, 0, 0].map nV))) := Same.new hp
            refine ⟨_, rfl, s, _, dx, _, .ref B, rfl, sp _ _ (sm _ _ hs7), F.c_Alone, F.a_Alone_bids, rfl, natD [3, n, 0, 0], _, dp_row upd_same, dp_rows ((B7.same sm).same sp), natD_shaped _, rowsD_shaped _, ?_⟩
            rw [rows_any]
            exact ⟨_, rfl, hR _ sp⟩
          · intro H8 s8 hA8
            have hs8 := s8 _ _ hs7
            refine ⟨_, rfl, s, _, dx, _, rfl, hs8, F.c_Alone, F.a_Alone_called_off_asks, (by simp), ?_⟩
            obtain ⟨H9, eH9⟩ : ∃ H9, H9 = upd H8 s (.ins (He.ga K "Alone") dx [("happened", .ref D), ("bids", .ref B), ("asks", .ref A3), ("called_off_asks", .ref A4)]) := ⟨_, rfl⟩
            have B89 : But s H8 H9 := by rw [eH9]; exact But.put
            have hs9 : H9 s = some (.ins (He.ga K "Alone") dx [("happened", .ref D), ("bids", .ref B), ("asks", .ref A3), ("called_off_asks", .ref A4)]) := by rw [eH9]; exact upd_same
            have D9 := (D7.same s8).but B89 hs8
            have B9 := (B7.same s8).but B89 hs8
            have A39 := B89.lst hs8 (s8 _ _ A7)
            have A49 := B89.lst hs8 hA8
            have B09 : But s H H9 := (B07.trans (But.of s8)).trans B89
            rw [show upd H8 s (.ins (He.ga K "Alone") dx (putF "called_off_asks" (V.ref A4) [("happened", .ref D), ("bids", .ref B), ("asks", .ref A3)])) = H9 from eH9.symm]
            clear eH9 B89
            -- self.timers
            refine ⟨_, rfl, s, dx, _, rfl, hs9, rfl, s, B, 1, _, bidsB b, rfl, ⟨dx, hs9⟩, rfl, B9, W.w4, rl, fun Hx l2 sx hl2 hlx => ?_⟩
            refine ⟨l2, rfl, ⟨_, SqL.of hlx⟩, fun A5 hA5 => ?_⟩
            have hsx := sx _ _ hs9
            refine lc_keep (i := 4) (fun i => runsR (haps b) (bidsB b) i) (Nat.le_trans (kinds_len _ _) rl) (by show 4 < 5; decide) rfl hlx hA5 ?_ ?_
            · intro n H' R sm hn hR
              refine ⟨_, rfl, s, dx, _, rfl, sm _ _ hsx, rfl, _, rfl, s, n, haps b, bidsB b, rfl, ⟨D, B, _, ⟨dx, sm _ _ hsx⟩, rfl, rfl, (D9.same sx).same sm, (B9.same sx).same sm, rfl⟩, fun H'' s2 => ?_⟩
              exact ⟨_, rfl, hR H'' s2⟩
            · intro Hy sy hAy
              have s9y := sx.trans sy
              have hsy := s9y _ _ hs9
              refine ⟨_, rfl, s, _, dx, _, rfl, hsy, F.c_Alone, F.a_Alone_timers, (by simp), ?_⟩
              have Byz : But s Hy (upd Hy s (.ins (He.ga K "Alone") dx (aFs D B A3 A4 A5))) := But.put
              exact kQ _ ((B09.trans (But.of s9y)).trans Byz) ⟨⟨D, B, A3, A4, A5, ⟨dx, upd_same⟩, (D9.same s9y).but Byz hsy, (B9.same s9y).but Byz hsy, Byz.lst hsy (s9y _ _ A39), Byz.lst hsy (s9y _ _ A49), Byz.lst hsy hAy⟩⟩
end

section
variable {P : Program} {w : World} {K : PySem.W.Frag} {mg : Str → Option Value} {h : Heap} {base : Heap} (F : Hd w K mg h)
/-- how many, then these, of each list -/
def toldL (ls : List (List Nat)) : List Nat := ls.flatMap fun l => l.length :: l
def spTold (K : PySem.W.Frag) : Sp := fun vs H Q _ => ∃ (s : Addr) (b : BookR), vs = [.ref s] ∧ AloneAt K H s b ∧ WfB b ∧
  ∀ H' p, H' p = some (.lst ((toldL [asksR (haps b) (bidsB b), offsR (haps b) (bidsB b), timersR (haps b) (bidsB b)]).map nV)) → Q (.ref p) H'
theorem toldL_len (ls : List (List Nat)) (hl : ∀ l ∈ ls, l.length ≤ 1000) : (toldL ls).length ≤ 1001 * ls.length := by
  induction ls with
  | nil => exact Nat.le_refl _
  | cons l r ih =>
    have h1 := ih fun x hx => hl x (List.mem_cons_of_mem _ hx)
    have h2 := hl l List.mem_cons_self
    unfold toldL at h1 ⊢
    rw [List.flatMap_cons, List.length_append, List.length_cons, List.length_cons]
    omega
include F in
theorem ok_told : Keeps P w K mg base 1 (He.ga K "told_outstanding") p_told_outstanding (spTold K) := by
  obtain ⟨fd, FD⟩ := F.d_told_outstanding
  refine ⟨fd, FD.ok sc_told_outstanding (fun vs H Q E q => ?_) (fun cdv A outer s H vs Q E hr q => ?_), FD.bindsN fun _ _ _ _ _ _ us hl => match us, hl with | [_], _ => rfl, FD.kp⟩
  · obtain ⟨s, b, rfl, _⟩ := q
    rfl
  · obtain ⟨s, b, rfl, ⟨a1, a2, a3, a4, a5, ⟨dx, hs⟩, h1, h2, h3, h4, h5⟩, W, kQ⟩ := q
    refine ⟨_, (pss_cons (ps_set (i := 1) sc_told_outstanding.nd rfl (Or.inl rfl) (pe_lst pa_nil))
      (pss_cons (ps_for (passes_of rfl) rfl (kItT (K := K) (pe_tup (pa_cons (kFld (K := K) (pv 0) rfl) (pa_cons (kFld (K := K) (pv 0) rfl) (pa_cons (kFld (K := K) (pv 0) rfl) pa_nil))))) (pg_name (i := 2) sc_told_outstanding.nd rfl (Or.inl rfl)) (pss_cons (ps_expr (pe_bm PySem.F.plainAttrs_list PySem.F.slot_list_append PySem.F.type_list_append mt_append (pv 1) (pa_cons (pe_callB (kLen (K := K)) (by rfl) F.n_len bt_len (pa_cons (pv 2) pa_nil)) pa_nil)))
      (pss_one (ps_expr (pe_bm PySem.F.plainAttrs_list PySem.F.slot_list_extend PySem.F.type_list_extend mt_extend (pv 1) (pa_cons (pv 2) pa_nil))))))
      (pss_one (ps_ret (pv 1))))), ?_⟩
    refine ⟨by show 0 ≤ sizeLine; exact Nat.zero_le _, fun p hp => ?_⟩
    have s1 : Same H (upd H p (.lst [])) := Same.new hp
    have hs1 := s1 _ _ hs
    refine ⟨_, rfl, s, _, dx, _, .ref a3, rfl, hs1, F.c_Alone, F.a_Alone_asks, rfl, _, rfl, s, _, dx, _, .ref a4, rfl, hs1, F.c_Alone, F.a_Alone_called_off_asks, rfl, _, rfl, s, _, dx, _, .ref a5, rfl, hs1, F.c_Alone, F.a_Alone_timers, rfl, (by show 3 ≤ sizeLine; decide), fun t ht => ?_⟩
    have s2 : Same (upd H p (.lst [])) (upd (upd H p (.lst [])) t (.tup [.ref a3, .ref a4, .ref a5])) := Same.new ht
    have np : p ≠ t := fun z => by rw [← z, upd_same] at ht; cases ht
    have rl : (bidsB b).length ≤ 1000 := Nat.le_trans W.all (by decide)
    have l1 : (asksR (haps b) (bidsB b)).length ≤ 1000 := Nat.le_trans (List.length_filter_le ..) (Nat.le_trans (kinds_len _ _) rl)
    have l2 : (offsR (haps b) (bidsB b)).length ≤ 1000 := Nat.le_trans (List.length_filter_le ..) l1
    have l3 : (timersR (haps b) (bidsB b)).length ≤ 1000 := Nat.le_trans (List.length_filter_le ..) (Nat.le_trans (kinds_len _ _) rl)
    obtain ⟨ls, els⟩ : ∃ ls, ls = [asksR (haps b) (bidsB b), offsR (haps b) (bidsB b), timersR (haps b) (bidsB b)] := ⟨_, rfl⟩
    have hls : ∀ l ∈ ls, l.length ≤ 1000 := by
      rw [els]
      intro l hl
      simp only [List.mem_cons, List.not_mem_nil, or_false] at hl
      rcases hl with rfl | rfl | rfl
      · exact l1
      · exact l2
      · exact l3
    have len3 : ls.length = 3 := by rw [els]; rfl
    have hp3 : Paired (fun (a : Addr) (l : List Nat) => H a = some (.lst (l.map nV))) [a3, a4, a5] ls := by
      rw [els]
      exact .cons h3 (.cons h4 (.cons h5 .nil))
    rw [← els] at kQ
    have ht2 : upd (upd H p (.lst [])) t (.tup [.ref a3, .ref a4, .ref a5]) t = some (.tup ([a3, a4, a5].map V.ref)) := upd_same
    obtain ⟨H2, eH2⟩ : ∃ H2, H2 = upd (upd H p (.lst [])) t (.tup [.ref a3, .ref a4, .ref a5]) := ⟨_, rfl⟩
    rw [← eH2] at ht2 s2
    have hp2 : H2 p = some (.lst []) := s2 _ _ upd_same
    rw [show upd (upd H p (.lst [])) t (.tup [.ref a3, .ref a4, .ref a5]) = H2 from eH2.symm]
    have kH : ∀ b' o, H b' = some o → H2 b' = some o ∧ b' ≠ p := fun b' o e => ⟨s2 _ _ (s1 _ _ e), ne_of_none e hp⟩
    clear eH2
    refine ⟨t, rfl, ⟨_, SqT.of ht2⟩, for_it (walk_tup (K := K) (a := t) (xs := [a3, a4, a5].map V.ref)) (fun i σ H' => ∃ v : Option V, σ = [some (.ref s), some (.ref p), v] ∧ H' p = some (.lst ((toldL (ls.take i)).map nV)) ∧ ∀ b' o, H2 b' = some o → b' ≠ p → H' b' = some o)
      ⟨none, rfl, hp2, fun _ _ e _ => e⟩ (fun i σ H' _ ⟨_, _, _, k⟩ => SqT.of (k _ _ ht2 (Ne.symm np))) ?_ ?_⟩
    · rintro i x σ H1 H1' hi ⟨v, rfl, hp1, hk⟩ ⟨rfl, hx⟩
      obtain ⟨a, ha, rfl⟩ := map_at hx
      obtain ⟨l, hl1, hl2⟩ := paired_at hp3 ha
      obtain ⟨k1, k2⟩ := kH _ _ hl2
      have ha1 := hk _ _ k1 k2
      have hi3 : i < 3 := hi
      have hlen : (toldL (ls.take i)).length ≤ 3003 := Nat.le_trans (toldL_len _ fun x hx => hls x (List.mem_of_mem_take hx)) (by rw [List.length_take]; omega)
      have hl' := hls l (List.mem_of_getElem? hl1)
      refine ⟨_, rfl, .inl ⟨rfl, _, SqL.of hp1⟩, _, rfl, a, _, rfl, .inl (SqL.of ha1), p, _, _, rfl, rfl, hp1, (by rw [List.length_map]; exact short_line (by omega)), ?_⟩
      refine ⟨_, rfl, .inl ⟨rfl, _, SqL.of upd_same⟩, _, rfl, p, a, _, _, rfl, rfl, upd_same, (by rw [upd_ne k2]; exact ha1), ?_, ?_⟩
      · rw [List.length_append, List.length_map, List.length_map]
        exact short_le (by show _ + 1 + _ ≤ _; omega)
      · refine ⟨_, rfl, ?_, fun b' o e hb => by rw [upd_ne hb, upd_ne hb]; exact hk _ _ e hb⟩
        rw [upd_same, take_snoc hl1]
        unfold toldL
        rw [List.flatMap_append, List.flatMap_cons, List.flatMap_nil, List.append_nil, List.map_append, List.map_cons, List.length_map, List.append_assoc]
        rfl
    · rintro σ H1 ⟨v, rfl, hp1, hk⟩
      refine ⟨_, rfl, kQ H1 p ?_⟩
      rw [hp1]
      show some (HO.lst ((toldL (ls.take 3)).map nV)) = _
      rw [← len3, List.take_length]
end

/-! ### the mathematics: what the rows tell is what the specification's book tells -/
section
open Ks480 (Ev Bid)
open Ks482 (Book bookOf allBids answered asksOf offsOf timersOf endOf calledOf may sound)
open BkM
def rowsB (b : Book) : BookR := (none, b.first.map bidRow) :: b.rest.map fun p => (some (evRow p.1), p.2.map bidRow)
theorem bookR_is {h sz bd : List Nat} {b : Book} (e : bookOf h sz bd = some b) : bookR h sz bd = rowsB b := by
  obtain ⟨_, e1, e2, _⟩ := bookOf_some e
  unfold bookR
  rw [e1, e2]
  show List.zip (none :: _) (_ :: _) = _
  rw [List.zip_cons_cons]
  unfold rowsB
  congr 1
  rw [List.map_map, List.map_map, List.zip_map']
  rfl
theorem haps_rows (b : Book) : haps (rowsB b) = b.rest.map fun p => evRow p.1 := by
  unfold haps rowsB
  rw [List.filterMap_cons]
  show List.filterMap _ _ = _
  rw [List.filterMap_map]
  induction b.rest with
  | nil => rfl
  | cons p r ih =>
    rw [List.filterMap_cons]
    show evRow p.1 :: _ = _
    rw [List.map_cons]
    congr 1
theorem bids_rows (b : Book) : bidsB (rowsB b) = (allBids b).map bidRow := by
  unfold bidsB rowsB allBids
  rw [List.flatMap_cons, List.map_append, List.flatMap_map, List.map_flatMap]
theorem kinds_rows (k : Nat) (l : List Bid) : kindsR k (l.map bidRow) = Ks482.kinds k l := by
  unfold kindsR Ks482.kinds
  rw [List.length_map]
  refine List.filter_congr fun i hi => ?_
  have hi' : i < l.length := List.mem_range.mp hi
  rw [List.getD_eq_getElem?_getD, List.getElem?_map, List.getElem?_eq_getElem hi']
  show decide (l[i].kind = k) = (l[i].kind == k)
  rfl
theorem ans_rows (i : Nat) (l : List (Ev × List Bid)) : ansR i (l.map fun p => evRow p.1) = l.any fun p => answered i p.1 := by
  unfold ansR
  rw [List.any_map]
  refine List.any_congr rfl fun p => ?_
  obtain ⟨e, bs⟩ := p
  cases e with
  | done j x => show (decide (0 < 3) && decide (j = i)) = (i == j); simp [eq_comm, Bool.beq_eq_decide_eq]
  | failed j x => show (decide (1 < 3) && decide (j = i)) = (i == j); simp [eq_comm, Bool.beq_eq_decide_eq]
  | off j => show (decide (2 < 3) && decide (j = i)) = (i == j); simp [eq_comm, Bool.beq_eq_decide_eq]
  | fired j => rfl
  | word c x => rfl
  | callOff => rfl
theorem asks_rows (b : Book) : asksR (haps (rowsB b)) (bidsB (rowsB b)) = asksOf b := by
  unfold asksR asksOf
  rw [haps_rows, bids_rows, kinds_rows]
  refine List.filter_congr fun i _ => ?_
  rw [ans_rows]
theorem mem_bids (x : Bid) (l : List Bid) : decide (bidRow x ∈ l.map bidRow) = l.contains x := by
  by_cases h : x ∈ l
  · rw [decide_eq_true (List.mem_map.mpr ⟨x, h, rfl⟩)]
    exact (List.contains_iff_mem.mpr h).symm
  · rw [decide_eq_false fun z => h (by obtain ⟨y, h1, h2⟩ := List.mem_map.mp z; rw [← bidRow_inj h2]; exact h1)]
    exact (Bool.eq_false_iff.mpr fun z => h (List.contains_iff_mem.mp z)).symm
theorem mem_haps (e : Ev) (l : List (Ev × List Bid)) : decide (evRow e ∈ l.map fun p => evRow p.1) = l.any fun p => p.1 == e := by
  by_cases h : ∃ p ∈ l, p.1 = e
  · obtain ⟨p, h1, h2⟩ := h
    rw [decide_eq_true (List.mem_map.mpr ⟨p, h1, by rw [h2]⟩)]
    exact (List.any_eq_true.mpr ⟨p, h1, by rw [h2]; exact beq_self_eq_true e⟩).symm
  · rw [decide_eq_false fun z => h (by obtain ⟨y, h1, h2⟩ := List.mem_map.mp z; exact ⟨y, h1, evRow_inj h2⟩)]
    exact (Bool.eq_false_iff.mpr fun z => h (by obtain ⟨p, h1, h2⟩ := List.any_eq_true.mp z; exact ⟨p, h1, beq_iff_eq.mp h2⟩)).symm
theorem offs_rows (b : Book) : offsR (haps (rowsB b)) (bidsB (rowsB b)) = offsOf b := by
  unfold offsR offsOf
  rw [asks_rows, bids_rows]
  refine List.filter_congr fun i _ => ?_
  exact mem_bids ⟨3, i, 0, 0⟩ (allBids b)
theorem timers_rows (b : Book) : timersR (haps (rowsB b)) (bidsB (rowsB b)) = timersOf b := by
  unfold timersR timersOf runsR
  rw [haps_rows, bids_rows, kinds_rows]
  refine List.filter_congr fun i _ => ?_
  have e1 := mem_bids ⟨2, i, 0, 0⟩ (allBids b)
  have e2 := mem_haps (.fired i) b.rest
  exact congr (congrArg and (congrArg not e1)) (congrArg not e2)
end

/-! ### the asked def: a lambda handed to told_or_refused -/
section
variable {P : Program} {w : World} {K : PySem.W.Frag} {mg : Str → Option Value} {h : Heap} {base : Heap} (F : Hd w K mg h)
open LamX (Tabs TabS ExtN TabB lamS_by)
def Cs (K : PySem.W.Frag) : Ref4 → Addr
  | .mal => He.ga K "Malformed"
  | .loop => He.ga K "LoopMustWait"
  | .could => He.ga K "CouldNotHappen"
  | .fit => He.ga K "DoesNotFit"
include F in
theorem exm4 (i j : Ref4) : PySem.W.exmOne K (.ref (Cs K i)) (.ref (Cs K j)) = some (decide (i = j)) := by
  cases i <;> cases j
  · exact F.exm (x := "Malformed") (y := "Malformed") Hd.in_Malformed Hd.in_Malformed
  · exact F.exm (x := "Malformed") (y := "LoopMustWait") Hd.in_Malformed Hd.in_LoopMustWait
  · exact F.exm (x := "Malformed") (y := "CouldNotHappen") Hd.in_Malformed Hd.in_CouldNotHappen
  · exact F.exm (x := "Malformed") (y := "DoesNotFit") Hd.in_Malformed Hd.in_DoesNotFit
  · exact F.exm (x := "LoopMustWait") (y := "Malformed") Hd.in_LoopMustWait Hd.in_Malformed
  · exact F.exm (x := "LoopMustWait") (y := "LoopMustWait") Hd.in_LoopMustWait Hd.in_LoopMustWait
  · exact F.exm (x := "LoopMustWait") (y := "CouldNotHappen") Hd.in_LoopMustWait Hd.in_CouldNotHappen
  · exact F.exm (x := "LoopMustWait") (y := "DoesNotFit") Hd.in_LoopMustWait Hd.in_DoesNotFit
  · exact F.exm (x := "CouldNotHappen") (y := "Malformed") Hd.in_CouldNotHappen Hd.in_Malformed
  · exact F.exm (x := "CouldNotHappen") (y := "LoopMustWait") Hd.in_CouldNotHappen Hd.in_LoopMustWait
  · exact F.exm (x := "CouldNotHappen") (y := "CouldNotHappen") Hd.in_CouldNotHappen Hd.in_CouldNotHappen
  · exact F.exm (x := "CouldNotHappen") (y := "DoesNotFit") Hd.in_CouldNotHappen Hd.in_DoesNotFit
  · exact F.exm (x := "DoesNotFit") (y := "Malformed") Hd.in_DoesNotFit Hd.in_Malformed
  · exact F.exm (x := "DoesNotFit") (y := "LoopMustWait") Hd.in_DoesNotFit Hd.in_LoopMustWait
  · exact F.exm (x := "DoesNotFit") (y := "CouldNotHappen") Hd.in_DoesNotFit Hd.in_CouldNotHappen
  · exact F.exm (x := "DoesNotFit") (y := "DoesNotFit") Hd.in_DoesNotFit Hd.in_DoesNotFit
theorem sqL_ext {H H' : Hp} (e : ExtN H H') {a : Addr} {xs : List V} (q : SqL K H a xs) : SqL K H' a xs := by
  rcases q with (q | ⟨o, q⟩) | q
  · exact .inl (.inl (e _ _ q (fun _ z => by cases z)))
  · exact .inl (.inr ⟨o, e _ _ q (fun _ z => by cases z)⟩)
  · exact .inr q
/-- the asked def's code object and its table -/
abbrev codeA (K : PySem.W.Frag) : Addr := (He.cT K ("open_of", none)).1
abbrev tabA (K : PySem.W.Frag) : Addr := (He.cT K ("open_of", none)).2
end

section
variable {P : Program} {w : World} {K : PySem.W.Frag} {mg : Str → Option Value} {h : Heap} {base : Heap} (F : Hd w K mg h)
open LamX (Tabs TabS ExtN TabB lamS_by)
open Ks482 (Book bookOf)
theorem formed_some {hs sz bd : List Nat} (f : BkM.Formed hs sz bd) : ∃ b, bookOf hs sz bd = some b := by
  cases e : bookOf hs sz bd with
  | none => exact absurd f (BkM.bookOf_none e)
  | some b => exact ⟨b, rfl⟩
theorem rowsB_wf {hs sz bd : List Nat} {b : Book} (e : bookOf hs sz bd = some b) (hl : hs.length ≤ 200) (bl : bd.length ≤ 800) : WfB (rowsB b) := by
  obtain ⟨f, e1, e2, e3⟩ := BkM.bookOf_some e
  have l3 : b.rest.length = hs.length / 3 := by
    have := congrArg List.length e1
    rw [BkM.cutW_length, List.length_map] at this
    exact this.symm
  refine ⟨?_, ?_, ?_, ?_⟩
  · unfold rowsB
    rw [List.length_cons, List.length_map, l3]
    have := f.most
    omega
  · intro it hi r hr
    unfold rowsB at hi
    rcases List.mem_cons.mp hi with z | z
    · rw [z] at hr
      cases hr
    · obtain ⟨p, _, hp2⟩ := List.mem_map.mp z
      rw [← hp2] at hr
      cases hr
      exact BkM.evRow_len p.1
  · intro it hi r hr
    unfold rowsB at hi
    rcases List.mem_cons.mp hi with z | z
    · rw [z] at hr
      obtain ⟨x, _, hx⟩ := List.mem_map.mp hr
      rw [← hx]
      rfl
    · obtain ⟨p, _, hp2⟩ := List.mem_map.mp z
      rw [← hp2] at hr
      obtain ⟨x, _, hx⟩ := List.mem_map.mp hr
      rw [← hx]
      rfl
  · rw [bids_rows, List.length_map]
    have := congrArg List.length e3
    rw [BkM.cutW_length, List.length_map] at this
    omega
end

section
variable {P : Program} {w : World} {K : PySem.W.Frag} {mg : Str → Option Value} {h : Heap} {base : Heap} (F : Hd w K mg h)
open LamX (Tabs TabS ExtN TabB lamS_by)
open Ks482 (Book bookOf)
/-- what is due -/
def dueOpen (hs sz bd : List Nat) : List Int := match bookOf hs sz bd with
  | none => [-22]
  | some b => (toldL [Ks482.asksOf b, Ks482.offsOf b, Ks482.timersOf b]).map fun (n : Nat) => (n : Int)
def spOpen (K : PySem.W.Frag) : Sp := fun vs H Q _ => ∃ (a b c : Addr) (hs sz bd : List Nat), vs = [.ref a, .ref b, .ref c] ∧ SqL K H a (hs.map nV) ∧ hs.length ≤ 200 ∧ SqL K H b (sz.map nV) ∧ sz.length ≤ 80 ∧ SqL K H c (bd.map nV) ∧ bd.length ≤ 800 ∧ H (tabA K) = some (.tbl #[]) ∧
  ∀ H' p, H' p = some (.lst ((dueOpen hs sz bd).map V.int)) → Q (.ref p) H'
include F in
theorem ok_open {fd : FuncData} (FD : FunD K "open_of" "open_of" (defArgs s_open_of) (defBody s_open_of) (defScope s_open_of) [] [] (He.ga K "open_of") fd) (TB : TabB base mg (codeA K) (tabA K)) : FnOk P w K mg base (L2.CX P w) 12 (He.ga K "open_of") fd p_open_of (spOpen K) := by
  obtain ⟨fdT, FT⟩ := F.d_told_or_refused
  obtain ⟨fd_read_book, G_read_book, b_read_book, k_read_book⟩ := ok_read_book (P := P) (base := base) F
  obtain ⟨fd_Alone_init, G_Alone_init, b_Alone_init, k_Alone_init⟩ := ok_init (P := P) (base := base) F
  obtain ⟨fd_told_outstanding, G_told_outstanding, b_told_outstanding, k_told_outstanding⟩ := ok_told (P := P) (base := base) F
  have bT : L2.Binds K fdT ["make_answer"] [] := FT.bindsN fun _ _ _ _ _ _ us hl => match us, hl with | [_], _ => rfl
  obtain ⟨oc, od, dV, kV, doc, pm, an, cdv, ct, osl, rfl, lk, hcd, _, _⟩ := FD.ex
  obtain ⟨ocT, odT, dVT, kVT, docT, pmT, anT, cdvT, ctT, oslT, rfl, lkT, hcdT, _, _⟩ := FT.ex
  obtain ⟨c0, rfl⟩ := He.codeIn_ref hcd
  have ec : codeA K = c0 := He.codeOf_eq (p := ("open_of", none)) lk rfl
  refine fn_of lk hcd sc_open_of (fun vs H Q E q => ?_) fun A outer s H vs Q E hr q => ?_
  · obtain ⟨a, b, c, hs, sz, bd, rfl, _⟩ := q
    rfl
  · obtain ⟨a, b, c, hs, sz, bd, rfl, ha, hal, hb, hbl, hc, hcl, hT, kQ⟩ := q
    refine ⟨_, pss_one (ps_ret (LamX.pe_lamcall (k := 9) (T := [(tabA K, _)]) (TT := Told4 (Cs K)) (a := "make_answer") (c := codeA K) (P := tabA K) (Ng := N_told_or_refused) rfl F.g_told_or_refused FT.kp lkT hcdT bT sc_told_or_refused rfl (Or.inl rfl)
      (told_gives4 rfl rfl rfl rfl F.g_Malformed F.g_LoopMustWait F.g_CouldNotHappen F.g_DoesNotFit (by decide) (by decide) (by decide) (by decide) (exm4 F) (fun _ => rfl))
      TB (by rw [ec]; rfl) (List.mem_singleton.mpr rfl) (fun p hp _ => by rw [List.mem_singleton.mp hp]) hr (lamS_by (sc := defScope s_open_of) (by decide +kernel)) rfl (fun _ _ _ _ _ => rfl)
      (fun A outer s H E f c' hr => (pe_call G_told_outstanding (hr.mono (by first | decide | omega)) rfl F.g_told_outstanding k_told_outstanding b_told_outstanding .nil passL (pa_cons (pe_make F.mk_Alone G_Alone_init (hr.mono (by first | decide | omega)) rfl F.g_Alone b_Alone_init .nil passL (pa_cons (pe_call G_read_book (hr.mono (by first | decide | omega)) rfl F.g_read_book k_read_book b_read_book .nil (passes_call (takes_of rfl rfl rfl rfl) (fun _ _ _ _ h => h)) (pa_cons (pv 0) (pa_cons (pv 1) (pa_cons (pv 2) pa_nil)))) pa_nil)) pa_nil))))), ?_⟩
    refine ⟨fun p hp => by rw [List.mem_singleton.mp hp]; exact TabS.nil hT, fun H1 eN _ => ?_⟩
    refine ⟨_, rfl, _, rfl, _, rfl, a, b, c, hs, sz, bd, rfl, sqL_ext eN ha, by omega, sqL_ext eN hb, by omega, sqL_ext eN hc, by omega, fun hf H' _ => ?_, fun f H2 q s2 hq bq => ?_⟩
    · refine ⟨.mal, rfl, fun p _ => kQ _ p ?_⟩
      have e : dueOpen hs sz bd = [-22] := by
        unfold dueOpen
        cases e : bookOf hs sz bd with
        | none => rfl
        | some b => exact absurd (BkM.bookOf_some e).1 hf
      rw [e]
      exact upd_same
    · obtain ⟨bk, ebk⟩ := formed_some f
      rw [bookR_is ebk] at bq
      have W := rowsB_wf ebk hal hcl
      refine fun y dy hy hdy hne => ?_
      have s3 : Same H2 (upd (upd H2 dy (.own y)) y (.ins (He.ga K "Alone") dy [])) := (Same.new hdy).trans (Same.new (by rw [upd_ne (Ne.symm hne)]; exact hy))
      refine ⟨y, q, dy, rowsB bk, rfl, upd_same, bq.same s3, W, fun H3 _ al => ⟨rfl, y, rowsB bk, rfl, al, W, fun H4 p hp => kQ H4 p ?_⟩⟩
      rw [hp, asks_rows, offs_rows, timers_rows]
      unfold dueOpen
      rw [ebk, ← map_nV]
end

/-! ### the end -/
section
theorem CX_none {P : Program} {w : World} {H : Hp} {s : Shared} {e : Value} {s' : Shared} (h : L2.CX P w [] H s (fun _ _ _ => False) e s') : False := by
  simp only [L2.CX, and_false, exists_false] at h
abbrev R : PySem.W.OpenSpec := PySem.Challenge.rw_bookagain_s07_open_of
abbrev hk : PySem.W.Hook := He.hookX 5 fas dfs [] tfs moreB
def ob (s : PySem.W.SharedT) : He.AlX := He.obsX 5 fas dfs [] tfs moreB (HandSHeadRun.getT s)
theorem ob_eq (s : PySem.W.SharedT) : ob s = hk.obs s.abs := He.obsX_eq (HandSHeadRun.getT_eq s)
end

/-! ### the request: three lists of numbers -/
section
open PySem.W (Codec WData)
theorem nats_back {l : List Int} (h : ∀ x ∈ l, 0 ≤ x) : (l.map Int.toNat).map nV = l.map V.int := by
  rw [List.map_map]
  refine List.map_congr_left fun x hx => ?_
  show V.int ((x.toNat : Nat) : Int) = V.int x
  rw [Int.toNat_of_nonneg (h x hx)]
theorem within_list {lo hi : Int} {n : Nat} {l : List Int} (h : (Codec.inLen 0 n l && l.all (Codec.inInt lo hi)) = true) (h0 : 0 ≤ lo) : l.length ≤ n ∧ ∀ x ∈ l, 0 ≤ x := by
  rw [Bool.and_eq_true] at h
  refine ⟨(Codec.inNat_iff.mp h.1).2, fun x hx => ?_⟩
  have := List.all_eq_true.mp h.2 x hx
  unfold Codec.inInt at this
  rw [Bool.and_eq_true, decide_eq_true_eq, decide_eq_true_eq] at this
  omega
end

section
open PySem.W (Codec WData)
open Ks482 (bookOf)
theorem due_is (a b c : List Int) : PyKs482.open_of a b c = dueOpen (a.map Int.toNat) (b.map Int.toNat) (c.map Int.toNat) := by
  show Ks482Neutral.out (Ks482.book _ _ _ _) = _
  unfold Ks482.book dueOpen
  show Ks482Neutral.out (match bookOf (a.map Int.toNat) (b.map Int.toNat) (c.map Int.toNat) with | none => _ | some b => _) = _
  cases bookOf (a.map Int.toNat) (b.map Int.toNat) (c.map Int.toNat) with
  | none => rfl
  | some b =>
    show ((Ks482.asksOf b).length : Int) :: (Ks482.asksOf b ++ [(Ks482.offsOf b).length] ++ Ks482.offsOf b ++ [(Ks482.timersOf b).length] ++ Ks482.timersOf b).map Int.ofNat = _
    unfold toldL
    simp only [List.flatMap_cons, List.flatMap_nil, List.map_append, List.map_cons, List.map_nil, List.append_assoc, List.append_nil, List.cons_append, List.nil_append, List.singleton_append]
    rfl
theorem spec_at (w : World) (mg : Str → Option Value) (fa : Addr) (h : Heap) (Y : hk.says w h) (G : h.Ns mainGlobals mg) (hfa : mg ("open_of" : Str) = some (.ref fa)) : ∃ K : PySem.W.Frag, K.In h ∧ SpecAtT R w K (L2.CX R.prog w) 12 p_open_of mg fa h := by
  obtain ⟨K, KX, c⟩ := Y
  have F : Hd w K mg h := ⟨⟨h, c⟩, KX, G⟩
  have ef := hfa.symm.trans F.g_open_of
  cases ef
  obtain ⟨fd, FD⟩ := F.d_open_of
  refine ⟨K, KX, fd, [(codeA K, tabA K)], spOpen K, fun p hp => ?_, fun p hp => ?_, fun p hp => ?_, FD.bindsA (ps := p_open_of) fun _ _ _ _ _ _ us hl => match us, hl with | [_, _, _], _ => rfl, ?_, fun base KXb Gb TB => ok_open (P := R.prog) (⟨⟨h, c⟩, KXb, Gb⟩ : Hd w K mg base) FD (TB (codeA K, tabA K) (List.mem_singleton.mpr rfl))⟩
  · rw [List.mem_singleton.mp hp]
    exact c.empty _ (List.mem_singleton.mpr rfl)
  · rw [List.mem_singleton.mp hp]
    exact c.out _ (List.mem_singleton.mpr rfl)
  · rw [List.mem_singleton.mp hp]
    exact PySem.W.codeHd_of_K KX (c.hd _ (List.mem_singleton.mpr rfl))
  · intro H xs a hH hw hx
    obtain ⟨a1, a2, a3, u⟩ := a
    have hT := hH (codeA K, tabA K) (List.mem_singleton.mpr rfl)
    have q : ((Codec.inLen 0 200 a1 && a1.all (Codec.inInt 0 4294967295)) && ((Codec.inLen 0 80 a2 && a2.all (Codec.inInt 0 4294967295)) && ((Codec.inLen 0 800 a3 && a3.all (Codec.inInt 0 4294967295)) && true))) = true := hw
    obtain ⟨q1, q⟩ := Bool.and_eq_true_iff.mp q
    obtain ⟨q2, q⟩ := Bool.and_eq_true_iff.mp q
    obtain ⟨q3, _⟩ := Bool.and_eq_true_iff.mp q
    obtain ⟨l1, n1⟩ := within_list q1 (Int.le_refl 0)
    obtain ⟨l2, n2⟩ := within_list q2 (Int.le_refl 0)
    obtain ⟨l3, n3⟩ := within_list q3 (Int.le_refl 0)
    cases hx with
    | cons h1 r1 =>
      cases r1 with
      | cons h2 r2 =>
        cases r2 with
        | cons h3 r3 =>
          cases r3
          cases h1 with
          | lst s1 d1 =>
            cases h2 with
            | lst s2 d2 =>
              cases h3 with
              | lst s3 d3 =>
                have e1 := L2.ints_dw a1 _ d1
                have e2 := L2.ints_dw a2 _ d2
                have e3 := L2.ints_dw a3 _ d3
                subst e1 e2 e3
                refine ⟨_, _, _, a1.map Int.toNat, a2.map Int.toNat, a3.map Int.toNat, rfl, by rw [nats_back n1]; exact s1, by rw [List.length_map]; exact l1, by rw [nats_back n2]; exact s2, by rw [List.length_map]; exact l2, by rw [nats_back n3]; exact s3, by rw [List.length_map]; exact l3, hT, fun H' p hp => ?_⟩
                show Dw K H' (V.ref p) (WData.list ((PyKs482.open_of a1 a2 a3).map WData.int))
                rw [due_is]
                exact .lst (L2.SqL.of hp) (L2.dw_ints _)
end

theorem run (w : World) : HandSHeadRun.RunEqS R (PySem.W.view R.prog [entryI]) hk ob 2400 loose w := by
  intro os
  kernel_rfl

end Bk
open PySem PySem.W PySem.Calls PyProof.Rows
set_option maxRecDepth 100000 in
set_option maxHeartbeats 0 in
theorem PySem.Challenge.cw_bookagain_s07_open_of_holds : PySem.Challenge.rw_bookagain_s07_open_of.Holds := by
  w_on
  refine HandSHeadRun.head_spec (r := PySem.Challenge.rw_bookagain_s07_open_of) (q := view Bk.R.prog [Bk.entryI]) (H := Bk.hk) (ob := Bk.ob) (M := 2400) (loose := Bk.loose) (d := HandSHeadRun.topDef Bk.R.prog Bk.entryI) (kwd := []) Bk.ob_eq
    (by kernel_rfl) (fun s => by kernel_rfl) Bk.run (by kernel_rfl) (by kernel_rfl) (by kernel_rfl) os_shapes (by first | assumption | decide +kernel) (by decide +kernel) ⟨rfl, rfl, rfl, rfl, rfl, by decide +kernel⟩ ?hw ?hc
  case hw => exact ⟨[.list [], .list [], .list []], by decide +kernel, by decide +kernel⟩
  case hc =>
    refine Bk.walk_specT (r := PySem.Challenge.rw_bookagain_s07_open_of) (k := 12) (CX := fun w => L2.CX Bk.R.prog w) (ps := Bk.p_open_of) (by decide +kernel) rfl rfl ⟨rfl, by decide, by decide⟩ ?F (fun _ _ _ _ _ z => Bk.CX_none z)
    intro w mg fa h Y G hmg0
    have hmg : mg ("open_of" : PySem.Str) = some (.ref fa) := by
      have e : (HandSHeadRun.topDef Bk.R.prog Bk.entryI).name = ("open_of" : PySem.Str) := by kernel_rfl
      rw [← e]
      exact hmg0
    exact Bk.spec_at w mg fa h Y G hmg
#print axioms PySem.Challenge.cw_bookagain_s07_open_of_holds

