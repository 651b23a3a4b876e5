/- Several texts as one. -/
import Derived.Test.YtihgpgkclggjgaaGreatSC
import Derived.Test.YtihgpgkclggjgaaGreatDD
import Derived.Test.YtihgpgkclggjgaaGreatTB
import Derived.Test.YtihgpgkclggjgaaGreatGH
import Derived.Test.YtihgpgkclggjgaaGreatRunSlideAlive
/- SlideNarrow: a track that measures narrow. -/
namespace Go.Proofs
open Go.Abs
attribute [local simp] AOp.den AOpd.ev lk cellsOf rd_new rd_new0 rd_zero rd_succ wr_new wr_new0 wr_zero wr_succ splice fillA binA scal sliceCells List.length_append argsT AV.sc scL AObj.sc resV getAll AR.get AOp.slots opdSlots opdsSlots partSlots eqAt at_new0 at_new set_new0 set_new wrap64
set_option linter.unusedSimpArgs false
set_option linter.unusedVariables false
def Wid (s s' : Sl) : Prop := (s'.s1 ≤ s.s1 ∧ s.s2 ≤ s'.s2) ∧ (s'.r1 ≤ s.r1 ∧ s.r2 ≤ s'.r2) ∧ (s'.d1 ≤ s.d1 ∧ s.d2 ≤ s'.d2) ∧ (s'.w1 ≤ s.w1 ∧ s.w2 ≤ s'.w2) ∧ (s'.t1 ≤ s.t1 ∧ s.t2 ≤ s'.t2)
theorem Wid.rfl' (s : Sl) : Wid s s := by simp [Wid]
def WidL (l l' : List Str) : Prop := l'.length = l.length ∧ ∀ j, j < l.length → (strAt l' j).side = (strAt l j).side ∧ (strAt l' j).rLo = (strAt l j).rLo ∧ (strAt l' j).rHi = (strAt l j).rHi ∧ (strAt l' j).lLo ≤ (strAt l j).lLo ∧ (strAt l j).lHi ≤ (strAt l' j).lHi ∧ (strAt l' j).fLo ≤ (strAt l j).fLo ∧ (strAt l j).fHi ≤ (strAt l' j).fHi
theorem WidL.rfl' (l : List Str) : WidL l l := ⟨rfl, fun _ _ => by simp⟩
theorem heads_wid {l l' : List Str} {s s' : Sl} (hv : validL l) (hv' : validL l') (hk : s.ok) (hk' : s'.ok) (hw : Wid s s') (hl : WidL l l') {i : Nat} (hi : i ≤ l.length) : hd false s' l' i ≤ hd false s l i ∧ hd true s l i ≤ hd true s' l' i := by
  obtain ⟨a0, a1, a2, a3, a4, a5⟩ := hk
  obtain ⟨b0, b1, b2, b3, b4, b5⟩ := hk'
  obtain ⟨c1, c2, c3, c4, c5⟩ := hw
  have o1 : ∀ j, j < l.length → _ := fun j hj => str_ok hv hj
  have o2 : ∀ j, j < l.length → _ := fun j hj => str_ok hv' (j := j) (by rw [hl.1]; exact hj)
  have f1 := hdG_mono (st := s'.s1) (st' := s.s1) (d := s'.d2) (d' := s.d2) (w := s'.w1) (w' := s.w1) (r := fun _ => s'.r2) (r' := fun _ => s.r2) (L := fun j => (strAt l' j).lHi) (L' := fun j => (strAt l j).lHi) (f := fun j => (strAt l' j).fLo) (f' := fun j => (strAt l j).fLo) (n := l.length)
    (by omega) (by omega) (by omega) (by omega) (by omega) (by omega) (fun j _ => by omega) (fun j hj => by have h1 := (o1 j hj).2.2.1; have h2 := (hl.2 j hj); omega) (fun j hj => by have h2 := (hl.2 j hj); omega) i hi
  have f2 := hdG_mono (st := s.s2) (st' := s'.s2) (d := s.d1) (d' := s'.d1) (w := s.w2) (w' := s'.w2) (r := fun _ => s.r1) (r' := fun _ => s'.r1) (L := fun j => (strAt l j).lLo) (L' := fun j => (strAt l' j).lLo) (f := fun j => (strAt l j).fHi) (f' := fun j => (strAt l' j).fHi) (n := l.length)
    (by omega) (by omega) (by omega) (by omega) (by omega) (by omega) (fun j _ => by omega) (fun j hj => by have h1 := (o2 j hj).2.2.1; have h2 := (hl.2 j hj); omega) (fun j hj => by have h2 := (hl.2 j hj); omega) i hi
  exact ⟨f1.2, f2.2⟩
theorem height_wid {l l' : List Str} {s s' : Sl} (hv : validL l) (hv' : validL l') (hk : s.ok) (hk' : s'.ok) (hw : Wid s s') (hl : WidL l l') {i : Nat} (hi : i < l.length) (hs : (strAt l i).side ≠ 0) :
    htF (wiF (hd false s' l') i) (strAt l' i).rHi s'.t1 ≤ htF (wiF (hd false s l) i) (strAt l i).rHi s.t1 ∧ htF (wiF (hd true s l) i) (strAt l i).rLo s.t2 ≤ htF (wiF (hd true s' l') i) (strAt l' i).rLo s'.t2 := by
  have hR := curve_rad hv hi hs
  obtain ⟨e1, e2, e3, _⟩ := hl.2 i hi
  have h1 := heads_wid hv hv' hk hk' hw hl (show i ≤ l.length by omega)
  have h2 := heads_wid hv hv' hk hk' hw hl (show i + 1 ≤ l.length by omega)
  have w1 := wi_bd hv' hk' false (i := i) (by rw [hl.1]; exact hi)
  have w2 := wi_bd hv hk true hi
  rw [e2, e3]
  refine ⟨ht_mono w1.1 (by simp only [wiF]; omega) (by omega) (Int.le_refl _) hw.2.2.2.2.1, ht_mono w2.1 (by simp only [wiF]; omega) (by omega) (Int.le_refl _) hw.2.2.2.2.2⟩
theorem hd_le {l : List Str} {s : Sl} (hv : validL l) (hs : s.ok) {i : Nat} (hi : i ≤ l.length) : hd false s l i ≤ hd true s l i := by
  have h := cH_in (us := []) hv hs hi
  omega
theorem wi_le {l : List Str} {s : Sl} (hv : validL l) (hs : s.ok) {i : Nat} (hi : i < l.length) : wiF (hd false s l) i ≤ wiF (hd true s l) i := by
  have h1 := hd_le hv hs (show i ≤ l.length by omega)
  have h2 := hd_le hv hs (show i + 1 ≤ l.length by omega)
  simp only [wiF]; omega
theorem thr_le {l : List Str} {s : Sl} (hv : validL l) (hs : s.ok) {i : Nat} (hi : i < l.length) (h : thrB false s l i = true) : thrB true s l i = true := by
  simp only [thrB, decide_eq_true_eq] at h ⊢
  refine ⟨h.1, ?_⟩
  have hR := curve_rad hv hi h.1
  have w := wi_bd hv hs false hi
  have t := hs.2.2.2.2.2
  have := ht_mono w.1 (wi_le hv hs hi) (show 0 < (strAt l i).rLo by omega) hR.1 (show s.t1 ≤ s.t2 by omega)
  have h2 := h.2
  simp only [up, dn, if_true] at h2 ⊢
  simp only [Bool.false_eq_true, if_false] at h2
  omega
theorem lef_wid {l : List Str} {ms : List Ms} (hm : ∀ i (h : i < ms.length), ms[i].ok l.length) (hL : goodK kLong l ms) (hF : goodK kFall l ms) : WidL (lefL2 l ms) l ∧ ∀ j, j < l.length → (strAt (lefL2 l ms) j).wall = (strAt l j).wall := by
  have hw := lef_nrw hm hL hF
  refine ⟨⟨(lefL2_len l ms).symm, fun j hj => ?_⟩, fun j hj => ?_⟩
  · rw [lefL2_len] at hj
    have h1 := hw j hj
    rw [lefL2_at hj]
    simp only [nrw] at h1
    refine ⟨?_, ?_, ?_, by omega, by omega, by omega, by omega⟩ <;> rw [lef_eq hj] <;> rfl
  · rw [lefL2_at hj, lef_eq hj]; rfl
theorem kn_narrow {l l' : List Str} {s : Sl} (hv : validL l) (hv' : validL l') (hk : s.ok) (hw : WidL l' l) (hwl : ∀ j, j < l.length → (strAt l' j).wall = (strAt l j).wall) (hn : knF s l ≠ 1) : knF s l' = knF s l := by
  have hl : l.length = l'.length := hw.1
  have hT : ∀ i, i < l'.length → thrB true s l' i = true → thrB true s l i = true := by
    intro i hi h
    simp only [thrB, decide_eq_true_eq] at h ⊢
    obtain ⟨e1, e2, e3, _⟩ := hw.2 i hi
    have hh := (height_wid hv' hv hk hk (Wid.rfl' s) hw hi h.1).2
    have h2 := hwl i (by omega)
    refine ⟨by rw [e1]; exact h.1, ?_⟩
    have h3 := h.2
    simp only [dn, up, if_true] at h3 ⊢
    omega
  have hF : ∀ i, i < l'.length → thrB false s l i = true → thrB false s l' i = true := by
    intro i hi h
    simp only [thrB, decide_eq_true_eq] at h ⊢
    obtain ⟨e1, e2, e3, _⟩ := hw.2 i hi
    have hs : (strAt l' i).side ≠ 0 := by rw [← e1]; exact h.1
    have hh := (height_wid hv' hv hk hk (Wid.rfl' s) hw hi hs).1
    have h2 := hwl i (by omega)
    refine ⟨hs, ?_⟩
    have h3 := h.2
    simp only [dn, up, Bool.false_eq_true, if_false] at h3 ⊢
    omega
  unfold knF at hn ⊢
  by_cases h0 : thN true s l = 0
  · rw [if_pos h0]
    have : thN true s l' = 0 := thN_zero.2 fun i hi => by
      cases hb : thrB true s l' i with
      | false => rfl
      | true =>
        have h1 := hT i hi hb
        rw [thN_zero.1 h0 i (by omega)] at h1; cases h1
    rw [if_pos this]
  · rw [if_neg h0] at hn ⊢
    by_cases h1 : thN false s l = 0
    · rw [if_pos h1] at hn; exact absurd rfl hn
    · rw [if_neg h1]
      obtain ⟨c1, c2, _⟩ := thC_is h1
      have g1 := hF _ (by omega) c2
      have g2 := thr_le hv' hk (by omega) g1
      have n1 : ¬ thN true s l' = 0 := fun h => by
        rw [thN_zero.1 h _ (by omega)] at g2; cases g2
      have n2 : ¬ thN false s l' = 0 := fun h => by
        rw [thN_zero.1 h _ (by omega)] at g1; cases g1
      rw [if_neg n1, if_neg n2]
theorem sav_eqN (s : Sl) : s.av = [.int .u8 s.c, .int .i64 s.s1, .int .i64 s.s2, .int .i64 s.r1, .int .i64 s.r2, .int .i64 s.d1, .int .i64 s.d2, .int .i64 s.w1, .int .i64 s.w2, .int .i64 s.t1, .int .i64 s.t2] := rfl
structure NN (Y : Heap) (l l' : List Str) (s : Sl) (id off p nid ha hb : Nat) (ex : Bool) : Prop where
  r0 : rd Y id off (l.length * 9) = some (l.flatMap Str.av)
  r3 : rd Y p 0 1 = some [.slice id off l.length 9 ex]
  r5 : rd Y (p + 1) 0 11 = some [.int .u8 s.c, .int .i64 s.s1, .int .i64 s.s2, .int .i64 s.r1, .int .i64 s.r2, .int .i64 s.d1, .int .i64 s.d2, .int .i64 s.w1, .int .i64 s.w2, .int .i64 s.t1, .int .i64 s.t2]
  r8 : rd Y (p + 3) 0 1 = some [.slice nid 0 l.length 9 false]
  rn : rd Y nid 0 (l.length * 9) = some (l'.flatMap Str.av)
  ra : rd Y ha 0 ((l.length + 1) * 2) = some (avR (r2 (hd false s l) (hd true s l)) (l.length + 1))
  rb : rd Y hb 0 ((l.length + 1) * 2) = some (avR (r2 (hd false s l') (hd true s l')) (l.length + 1))
theorem NN.app {Y : Heap} {l l' : List Str} {s : Sl} {id off p nid ha hb : Nat} {ex : Bool} (h : NN Y l l' s id off p nid ha hb ex) (G : Heap) : NN (Y ++ G) l l' s id off p nid ha hb ex := by
  obtain ⟨h1, h2, h3, h4, h5, h6, h7⟩ := h
  exact ⟨by rw [rd_old _ (rd_lt h1)]; exact h1, by rw [rd_old _ (rd_lt h2)]; exact h2, by rw [rd_old _ (rd_lt h3)]; exact h3, by rw [rd_old _ (rd_lt h4)]; exact h4, by rw [rd_old _ (rd_lt h5)]; exact h5, by rw [rd_old _ (rd_lt h6)]; exact h6, by rw [rd_old _ (rd_lt h7)]; exact h7⟩
theorem c_NarrowXN (H : Heap) (l : List Str) (id off : Nat) (ex : Bool) (ms : List Ms) (mv : AV) (hs : rd H id off (l.length * 9) = some (l.flatMap Str.av)) (hv : validL l) (hm : SlM H mv ms) (hok : okMs l.length ms) (hg : goodK kLong l ms ∧ goodK kFall l ms) :
    ACalls Tryz.prog F.track_Narrow [.agg [.slice id off l.length 9 ex], mv] H (fun v h' => v = .tuple [.agg [.slice H.length 0 l.length 9 false], .int .i64 0] ∧ h' = H ++ [.cells ((lefL2 l ms).flatMap Str.av) true]) :=
  (c_NarrowD H l id off ex ms mv hs hv hm (by have := hok.1; omega) hok).mono fun _ _ h => by
    rcases h with ⟨_, h2, h3⟩ | ⟨h1, _⟩
    · exact ⟨h2, by rw [h3, lefL2, listS_av]⟩
    · exact absurd hg h1
theorem c_NarrowBN (H : Heap) (l : List Str) (id off : Nat) (ex : Bool) (ms : List Ms) (mv : AV) (hs : rd H id off (l.length * 9) = some (l.flatMap Str.av)) (hv : validL l) (hm : SlM H mv ms) (hok : okMs l.length ms) (hb : ¬ (goodK kLong l ms ∧ goodK kFall l ms)) :
    ACalls Tryz.prog F.track_Narrow [.agg [.slice id off l.length 9 ex], mv] H (fun v h' => v = .tuple [.agg [.nilslice], .int .i64 8] ∧ h' = H) :=
  (c_NarrowD H l id off ex ms mv hs hv hm (by have := hok.1; omega) hok).mono fun _ _ h => by
    rcases h with ⟨h1, _⟩ | ⟨_, h2, h3⟩
    · exact absurd h1 hb
    · exact ⟨h2, h3⟩
set_option maxHeartbeats 8000000 in
theorem c_lawSN (H : Heap) (l : List Str) (ms : List Ms) (s : Sl) (id off mid moff : Nat) (ex mex : Bool) (hs : rd H id off (l.length * 9) = some (l.flatMap Str.av))
    (hm : rd H mid moff (ms.length * 5) = some (ms.flatMap Ms.av)) (hc : 0 ≤ s.c ∧ s.c ≤ 255) (hn : (ms.length : Int) ≤ 9223372036854775807) (hkk : ∀ i (h : i < ms.length), 0 ≤ ms[i].k ∧ ms[i].k ≤ 255) :
    ACalls Tryz.prog F.law03_SlideNarrow [.agg [.slice id off l.length 9 ex], .slice mid moff ms.length 5 mex, .agg s.av] H (fun v _ => v = .bool true) := by
  have ca : ∀ H, ACalls Tryz.prog F.law03_alive [] H (fun v h => v = .bool true ∧ h = H) := Tryz.true4
  have hid := rd_lt hs
  have hmid := rd_lt hm
  have kr := fun G => c_sready (H ++ G) l id off ex s (by rw [rd_old _ hid]; exact hs) hc
  simp only [sav_eqN] at kr ⊢
  refine acalls_of ok_law03_SlideNarrow rfl fun hcl => ?_
  unfold ac_law03_SlideNarrow
  simp only [argsT, Nat.zero_add, Nat.reduceAdd]
  repeat (first|(with_reducible first|apply X1|apply X2|apply X8)|((with_reducible apply e_end);(simp;exact Red.rfl))|((with_reducible apply O1);rfl;(simp (disch:=omega);exact Red.rfl);exact Red.rfl;(focus (first|(simp;done)|omega|(simp;omega)))))
  (with_reducible apply e_call); (simp; exact Red.rfl); exact ca _
  rintro _ _ ⟨rfl, rfl⟩
  repeat (first|(with_reducible first|apply X1|apply X2|apply X8)|((with_reducible apply e_end);(simp;exact Red.rfl))|((with_reducible apply O1);rfl;(simp (disch:=omega);exact Red.rfl);exact Red.rfl;(focus (first|(simp;done)|omega|(simp;omega)))))
  (with_reducible apply e_call); (simp; exact Red.rfl); exact kr _
  rintro _ _ ⟨rfl, x, rfl, hva⟩
  cases x with
  | false =>
    repeat (first|(with_reducible first|apply X1|apply X2|apply X3|apply X8|apply X9)|((with_reducible apply e_end);(simp;exact Red.rfl))|((with_reducible apply O1);rfl;(simp (disch:=omega);exact Red.rfl);exact Red.rfl;(focus (first|(simp;done)|omega|(simp;omega))))|((with_reducible apply Z9);(simp (disch:=omega);exact Red.rfl))|((with_reducible apply Z2);(simp (disch:=omega);exact Red.rfl)))
    exact q_drop (.inr rfl) (by simp; exact Red.rfl) (by simp) rfl
  | true =>
    obtain ⟨hv, hk⟩ := hva.1 rfl
    have h12 := hv.1
    repeat (first|((with_reducible apply O1);rfl;(simp (disch:=omega);exact Red.rfl);exact Red.rfl;(focus (first|(simp;done)|omega|(simp;omega))))|((with_reducible apply Z7);(simp (disch:=omega);exact Red.rfl)))
    (with_reducible apply e_call); (simp; exact Red.rfl); exact c_rMeasures _ l.length id off ex ms mid moff mex (by simp; omega) (by rw [rd_old _ hmid]; exact hm) hn hkk
    rintro _ _ ⟨rfl, b, rfl, hbm⟩
    cases b with
    | false =>
      repeat (first|(with_reducible first|apply X1|apply X2|apply X3|apply X8|apply X9)|((with_reducible apply e_end);(simp;exact Red.rfl))|((with_reducible apply O1);rfl;(simp (disch:=omega);exact Red.rfl);exact Red.rfl;(focus (first|(simp;done)|omega|(simp;omega))))|((with_reducible first|apply Z7|apply Z9);(simp (disch:=omega);exact Red.rfl))|((with_reducible apply Z2);(simp (disch:=omega);exact Red.rfl)))
      exact q_drop (.inr rfl) (by simp; exact Red.rfl) (by simp) rfl
    | true =>
      have okm := hbm.1 rfl
      have hm12 := okm.1
      repeat (first|(with_reducible first|apply X1|apply X2|apply X5|apply X8)|((with_reducible apply e_end);(simp;exact Red.rfl))|((with_reducible apply O1);rfl;(simp (disch:=omega);exact Red.rfl);exact Red.rfl;(focus (first|(simp;done)|omega|(simp;omega))))|((with_reducible apply Z7);(simp (disch:=omega);exact Red.rfl))|((with_reducible apply W3);(simp (disch:=omega);exact Red.rfl)))
      by_cases hg : goodK kLong l ms ∧ goodK kFall l ms
      rotate_left
      · (with_reducible apply e_call); (simp; exact Red.rfl); exact c_NarrowBN _ l id off ex ms _ (by rw [rd_old _ hid]; exact hs) hv (.inr ⟨mid, moff, mex, rfl, by rw [rd_old _ hmid]; exact hm⟩) okm hg
        rintro _ _ ⟨rfl, rfl⟩
        repeat (first|(with_reducible first|apply X1|apply X2|apply X3|apply X8|apply X9)|((with_reducible apply e_end);(simp;exact Red.rfl))|((first|((with_reducible apply O1);rfl)|((with_reducible apply O2);rfl));(simp (disch:=omega);exact Red.rfl);exact Red.rfl;(focus (first|(simp;done)|omega|(simp;omega))))|((with_reducible first|apply Z7|apply Z9);(simp (disch:=omega);exact Red.rfl)))
        exact q_drop (.inr rfl) (by simp; exact Red.rfl) (by simp) rfl
      · have hv2 : validL (lefL2 l ms) := lefS_valid hv okm.2 hg.1 hg.2
        obtain ⟨hW, hWl⟩ := lef_wid okm.2 hg.1 hg.2
        have hl2 := lefL2_len l ms
        have hkn := kn_narrow hv hv2 hk hW hWl
        have hhd := fun {i : Nat} (hi : i ≤ l.length) => heads_wid hv2 hv hk hk (Wid.rfl' s) hW (i := i) (by omega)
        have hht := fun {i : Nat} (hi : i < l.length) (h : (strAt (lefL2 l ms) i).side ≠ 0) => height_wid hv2 hv hk hk (Wid.rfl' s) hW (i := i) (by omega) h
        have cN := fun G => c_NarrowXN (H ++ G) l id off ex ms (.slice mid moff ms.length 5 mex) (by rw [rd_old _ hid]; exact hs) hv (.inr ⟨mid, moff, mex, rfl, by rw [rd_old _ hmid]; exact hm⟩) okm hg
        have hsd : ∀ j, j < l.length → (strAt (lefL2 l ms) j).side = (strAt l j).side := fun j hj => (hW.2 j (by omega)).1.symm
        generalize lefL2 l ms = l' at *
        have kH := fun G => c_sHeads (H ++ G) l id off ex s (by rw [rd_old _ hid]; exact hs) hv hk
        have kS := fun G => c_Safe (H ++ G) l id off ex s (by rw [rd_old _ hid]; exact hs) hv hk
        have kH2 := fun (Y : Heap) nid h => c_sHeads Y l' nid 0 false s h hv2 hk
        have kS2 := fun (Y : Heap) nid h => c_Safe Y l' nid 0 false s h hv2 hk
        simp only [hl2, sav_eqN] at kH kS kH2 kS2
        (with_reducible apply e_call); (simp; exact Red.rfl); exact cN _
        rintro _ _ ⟨rfl, rfl⟩
        repeat (first|(with_reducible first|apply X1|apply X2|apply X5|apply X8)|((with_reducible apply e_end);(simp;exact Red.rfl))|((first|((with_reducible apply O1);rfl)|((with_reducible apply O2);rfl));(simp (disch:=omega);exact Red.rfl);exact Red.rfl;(focus (first|(simp;done)|omega|(simp;omega))))|((with_reducible apply W3);(simp (disch:=omega);exact Red.rfl)))
        (with_reducible apply e_call); (simp; exact Red.rfl); exact kH _
        rintro _ _ ⟨rfl, rfl⟩
        repeat (first|(with_reducible first|apply X1|apply X2|apply X8)|((with_reducible apply e_end);(simp;exact Red.rfl))|((with_reducible apply O1);rfl;(simp (disch:=omega);exact Red.rfl);exact Red.rfl;(focus (first|(simp;done)|omega|(simp;omega)))))
        have fl2 : (l'.flatMap Str.av).length = l.length * 9 := by rw [flat_eq, ← hl2]; exact (plain_str l').length _
        have m1l : (avR (r2 (hd false s l) (hd true s l)) (l.length + 1)).length = (l.length + 1) * 2 := (plain_r2 _ _).length _
        have m2l : (avR (r2 (hd false s l') (hd true s l')) (l.length + 1)).length = (l.length + 1) * 2 := (plain_r2 _ _).length _
        (with_reducible apply e_call); (simp; exact Red.rfl); exact kH2 _ (H.length + 2) (rd_full (b := true) (by simp [at_new]) fl2)
        rintro _ _ ⟨rfl, rfl⟩
        repeat (first|(with_reducible first|apply X1|apply X2|apply X8)|((with_reducible apply e_end);(simp;exact Red.rfl))|((with_reducible apply O1);rfl;(simp (disch:=omega);exact Red.rfl);exact Red.rfl;(focus (first|(simp;done)|omega|(simp;omega)))))
        (with_reducible apply e_call); (simp; exact Red.rfl); exact kS _
        rintro _ _ ⟨rfl, rfl⟩
        repeat (first|(with_reducible first|apply X1|apply X2|apply X8)|((with_reducible apply e_end);(simp;exact Red.rfl))|((with_reducible apply O1);rfl;(simp (disch:=omega);exact Red.rfl);exact Red.rfl;(focus (first|(simp;done)|omega|(simp;omega)))))
        (with_reducible apply e_call); (simp; exact Red.rfl); exact kS2 _ (H.length + 2) (rd_full (b := true) (by simp [at_new]) fl2)
        rintro _ _ ⟨rfl, rfl⟩
        repeat (first|(with_reducible first|apply X1|apply X2|apply X8)|((with_reducible apply e_end);(simp;exact Red.rfl))|((with_reducible apply O1);rfl;(simp (disch:=omega);exact Red.rfl);exact Red.rfl;(focus (first|(simp;done)|omega|(simp;omega))))|((with_reducible apply Z7);(simp (disch:=omega);exact Red.rfl)))
        refine e_cut (fun t h => t = [(3, .ptr H.length 0), (5, .ptr (H.length + 1) 0), (7, .bool true), (8, .ptr (H.length + 3) 0), (10, .slice (H.length + 4) 0 (l.length + 1) 2 true), (12, .slice (H.length + 5) 0 (l.length + 1) 2 true), (107, .bool false)] ∧ h = H ++ [.cells [.slice id off l.length 9 ex] true, .cells [.int .u8 s.c, .int .i64 s.s1, .int .i64 s.s2, .int .i64 s.r1, .int .i64 s.r2, .int .i64 s.d1, .int .i64 s.d2, .int .i64 s.w1, .int .i64 s.w2, .int .i64 s.t1, .int .i64 s.t2] true, .cells (l'.flatMap Str.av) true, .cells [.slice (H.length + 2) 0 l.length 9 false] true, .cells (avR (r2 (hd false s l) (hd true s l)) (l.length + 1)) true, .cells (avR (r2 (hd false s l') (hd true s l')) (l.length + 1)) true]) ?_ ?_
        · by_cases h1 : knF s l = 1
          · repeat (first|((with_reducible apply e_end);(simp;exact Red.rfl))|((with_reducible apply O1);rfl;(simp (disch:=omega) [h1];exact Red.rfl);exact Red.rfl;(focus (first|(simp;done)|omega|(simp;omega))))|((with_reducible apply Z7);(simp (disch:=omega) [h1];exact Red.rfl))|((with_reducible apply Z1);(simp (disch:=omega) [h1];exact Red.rfl)))
            exact q_keep ⟨rfl, rfl⟩
          · have h2 := hkn h1
            repeat (first|((with_reducible apply e_end);(simp;exact Red.rfl))|((with_reducible apply O1);rfl;(simp (disch:=omega) [h1, h2];exact Red.rfl);exact Red.rfl;(focus (first|(simp;done)|omega|(simp;omega))))|((with_reducible apply Z7);(simp (disch:=omega) [h1, h2];exact Red.rfl)))
            exact q_keep ⟨rfl, rfl⟩
        rintro _ _ ⟨rfl, rfl⟩
        have NN0 : NN (H ++ [.cells [.slice id off l.length 9 ex] true, .cells [.int .u8 s.c, .int .i64 s.s1, .int .i64 s.s2, .int .i64 s.r1, .int .i64 s.r2, .int .i64 s.d1, .int .i64 s.d2, .int .i64 s.w1, .int .i64 s.w2, .int .i64 s.t1, .int .i64 s.t2] true, .cells (l'.flatMap Str.av) true, .cells [.slice (H.length + 2) 0 l.length 9 false] true, .cells (avR (r2 (hd false s l) (hd true s l)) (l.length + 1)) true, .cells (avR (r2 (hd false s l') (hd true s l')) (l.length + 1)) true]) l l' s id off H.length (H.length + 2) (H.length + 4) (H.length + 5) ex :=
          ⟨by rw [rd_old _ hid]; exact hs, by simp, by simp, by simp, rd_full (b := true) (by simp [at_new]) fl2, rd_full (b := true) (by simp [at_new]) m1l, rd_full (b := true) (by simp [at_new]) m2l⟩
        generalize H ++ [.cells [.slice id off l.length 9 ex] true, .cells [.int .u8 s.c, .int .i64 s.s1, .int .i64 s.s2, .int .i64 s.r1, .int .i64 s.r2, .int .i64 s.d1, .int .i64 s.d2, .int .i64 s.w1, .int .i64 s.w2, .int .i64 s.t1, .int .i64 s.t2] true, .cells (l'.flatMap Str.av) true, .cells [.slice (H.length + 2) 0 l.length 9 false] true, .cells (avR (r2 (hd false s l) (hd true s l)) (l.length + 1)) true, .cells (avR (r2 (hd false s l') (hd true s l')) (l.length + 1)) true] = Y at *
        have ga := fun {v : Nat} (c : Nat) (hc : c + 1 ≤ 2) (hv : v < l.length + 1) => (plain_r2 (hd false s l) (hd true s l)).part (n := l.length + 1) (i := v) (c := c) (m := 1) hv hc
        have gb := fun {v : Nat} (c : Nat) (hc : c + 1 ≤ 2) (hv : v < l.length + 1) => (plain_r2 (hd false s l') (hd true s l')).part (n := l.length + 1) (i := v) (c := c) (m := 1) hv hc
        repeat (first|(with_reducible first|apply X1|apply X2|apply X5|apply X6|apply X8)|((with_reducible apply e_end);(simp;exact Red.rfl))|((with_reducible apply O1);rfl;(simp (disch:=omega);exact Red.rfl);exact Red.rfl;(focus (first|(simp;done)|omega|(simp;omega))))|((with_reducible apply W3);(simp (disch:=omega);exact Red.rfl)))
        refine e_loop (ι := { i : Nat // i ≤ l.length + 1 })
          (fun i => [(3, .ptr H.length 0), (5, .ptr (H.length + 1) 0), (7, .bool true), (8, .ptr (H.length + 3) 0), (10, .slice (H.length + 4) 0 (l.length + 1) 2 true), (12, .slice (H.length + 5) 0 (l.length + 1) 2 true), (109, .int .i64 ((l.length : Int) + 1)), (110, .int .i64 i.1)])
          (fun _ => Y) (fun i => l.length + 1 - i.1) ⟨0, by omega⟩ ?_ ?_
        · exact .inl rfl
        · rintro ⟨i, hi⟩
          dsimp only
          by_cases hlt : i < l.length + 1
          · have hlt2 : (i : Int) < (l.length : Int) + 1 := by omega
            have hh := hhd (i := i) (by omega)
            have a0 := rd_sub NN0.ra (j := i * 2 + 0) (m := 1) (by omega)
            have a1 := rd_sub NN0.ra (j := i * 2 + 1) (m := 1) (by omega)
            have b0 := rd_sub NN0.rb (j := i * 2 + 0) (m := 1) (by omega)
            have b1 := rd_sub NN0.rb (j := i * 2 + 1) (m := 1) (by omega)
            rw [ga 0 (by omega) hlt, Nat.zero_add] at a0
            rw [ga 1 (by omega) hlt, Nat.zero_add] at a1
            rw [gb 0 (by omega) hlt, Nat.zero_add] at b0
            rw [gb 1 (by omega) hlt, Nat.zero_add] at b1
            simp only [r2, List.drop_zero, List.take_succ_cons, List.take_zero, List.drop_succ_cons, Nat.add_zero] at a0 a1 b0 b1
            have d1 : ¬ hd false s l' i < hd false s l i := by omega
            have d2 : ¬ hd true s l i < hd true s l' i := by omega
            repeat (first|(with_reducible first|apply X1|apply X2|apply X5|apply X6|apply X8|apply Y2|apply Y9)|((with_reducible first|apply e_end|apply d_end);(simp;exact Red.rfl))|((first|((with_reducible apply O1);rfl)|((with_reducible apply P1);rfl)|((with_reducible apply P2);rfl));(simp (disch:=omega) [hlt, hlt2, a0, a1, b0, b1, d1, d2];exact Red.rfl);exact Red.rfl;(focus (first|(simp;done)|omega|(simp;omega))))|((with_reducible first|apply Z8|apply Z9);(simp (disch:=omega) [hlt, hlt2, a0, a1, b0, b1, d1, d2];exact Red.rfl))|((with_reducible apply W3);(simp (disch:=omega) [hlt, hlt2, a0, a1, b0, b1, d1, d2];exact Red.rfl)))
            exact q_again ⟨i + 1, hlt⟩ (by dsimp only; omega) (.inl (by simp))
          · obtain rfl : i = l.length + 1 := by omega
            have N3 := NN0.r3
            repeat (first|(with_reducible first|apply X1|apply X2|apply X4|apply X6|apply X8|apply Y1|apply Y4|apply Y6)|((with_reducible apply e_end);(simp;exact Red.rfl))|((with_reducible apply O1);rfl;(simp (disch:=omega) [N3];exact Red.rfl);exact Red.rfl;(focus (first|(simp;done)|omega|(simp;omega))))|((with_reducible apply W3);(simp (disch:=omega) [N3];exact Red.rfl)))
            refine e_loop (ι := { p : Nat × Heap // p.1 ≤ l.length ∧ NN p.2 l l' s id off H.length (H.length + 2) (H.length + 4) (H.length + 5) ex })
              (fun p => [(3, .ptr H.length 0), (5, .ptr (H.length + 1) 0), (7, .bool true), (8, .ptr (H.length + 3) 0), (139, .slice id off l.length 9 ex), (140, .int .i64 l.length), (141, .int .i64 p.1.1)])
              (fun p => p.1.2) (fun p => l.length - p.1.1) ⟨(0, Y), by simp, NN0⟩ ?_ ?_
            · exact .inl rfl
            · clear NN0 N3
              rintro ⟨⟨v, Z⟩, hvl, N⟩
              dsimp only at hvl N ⊢
              by_cases hlt : v < l.length
              · have hlt2 : (v : Int) < l.length := by omega
                have N3 := N.r3
                have N5 := N.r5
                have N8 := N.r8
                have j3 := rd_lt N3
                have j5 := rd_lt N5
                have j8 := rd_lt N8
                have j0 := rd_lt N.r0
                have jn := rd_lt N.rn
                have hrow := rd_row Str.av_length N.r0 hlt
                rw [← strAt_eq hlt] at hrow
                simp only [Str.av] at hrow
                have hsd := hsd v hlt
                have hht := hht (i := v) hlt
                by_cases hz : (strAt l v).side = 0
                · repeat (first|(with_reducible first|apply X1|apply X2|apply X4|apply X5|apply X6|apply X8|apply Y1|apply Y4)|((with_reducible apply e_end);(simp;exact Red.rfl))|((first|((with_reducible apply O1);rfl)|((with_reducible apply O2);rfl));(simp (disch:=omega) [hlt, hlt2, hrow, hz];exact Red.rfl);exact Red.rfl;(focus (first|(simp;done)|omega|(simp;omega))))|((with_reducible apply Z9);(simp (disch:=omega) [hlt, hlt2, hrow, hz];exact Red.rfl)))
                  exact q_again ⟨(v + 1, Z ++ [.cells [.int .i64 (strAt l v).id, .int .i64 (strAt l v).lLo, .int .i64 (strAt l v).lHi, .int .i64 (strAt l v).fLo, .int .i64 (strAt l v).fHi, .int .i64 (strAt l v).rLo, .int .i64 (strAt l v).rHi, .int .u8 0, .int .i64 (strAt l v).wall] true]), hlt, N.app _⟩ (by dsimp only; omega) (.inl (by simp))
                · have k1 := fun G => c_Height (Z ++ G) l id off ex s (by rw [rd_old _ j0]; exact N.r0) hv hk v hlt hz
                  have k2 := fun G => c_Height (Z ++ G) l' (H.length + 2) 0 false s (by rw [hl2, rd_old _ jn]; exact N.rn) hv2 hk v (by rw [hl2]; exact hlt) (by rw [hsd]; exact hz)
                  rw [hl2] at k2
                  simp only [sav_eqN] at k1 k2
                  have hht := hht (by rw [hsd]; exact hz)
                  repeat (first|(with_reducible first|apply X1|apply X2|apply X5|apply X6|apply X8)|((with_reducible apply e_end);(simp;exact Red.rfl))|((first|((with_reducible apply O1);rfl)|((with_reducible apply O2);rfl));(simp (disch:=omega) [hlt, hlt2, hrow, hz, rd_old _ j3, N3, rd_old _ j5, N5];exact Red.rfl);exact Red.rfl;(focus (first|(simp;done)|omega|(simp;omega))))|((with_reducible apply Z9);(simp (disch:=omega) [hlt, hlt2, hrow, hz, rd_old _ j3, N3, rd_old _ j5, N5];exact Red.rfl))|((with_reducible apply W3);(simp (disch:=omega) [hlt, hlt2, hrow, hz, rd_old _ j3, N3, rd_old _ j5, N5];exact Red.rfl)))
                  (with_reducible apply e_call); (simp; exact Red.rfl); exact k1 _
                  rintro _ _ ⟨rfl, rfl⟩
                  have g1 : ¬ htF (wiF (hd false s l') v) (strAt l' v).rHi s.t1 < htF (wiF (hd false s l) v) (strAt l v).rHi s.t1 := by omega
                  have g2 : ¬ htF (wiF (hd true s l) v) (strAt l v).rLo s.t2 < htF (wiF (hd true s l') v) (strAt l' v).rLo s.t2 := by omega
                  repeat (first|(with_reducible first|apply X1|apply X2|apply X8)|((with_reducible apply e_end);(simp;exact Red.rfl))|((first|((with_reducible apply O1);rfl)|((with_reducible apply O2);rfl));(simp (disch:=omega) [rd_old _ j8, N8, rd_old _ j5, N5];exact Red.rfl);exact Red.rfl;(focus (first|(simp;done)|omega|(simp;omega)))))
                  (with_reducible apply e_call); (simp; exact Red.rfl); exact k2 _
                  rintro _ _ ⟨rfl, rfl⟩
                  repeat (first|(with_reducible first|apply X1|apply X2|apply X5|apply X8|apply Y2)|((with_reducible apply e_end);(simp;exact Red.rfl))|((first|((with_reducible apply O1);rfl)|((with_reducible apply O2);rfl));(simp (disch:=omega) [g1, g2];exact Red.rfl);exact Red.rfl;(focus (first|(simp;done)|omega|(simp;omega))))|((with_reducible apply Z7);(simp (disch:=omega) [g1, g2];exact Red.rfl))|((with_reducible apply W3);(simp (disch:=omega) [g1, g2];exact Red.rfl)))
                  exact q_again ⟨(v + 1, Z ++ [.cells [.int .i64 (strAt l v).id, .int .i64 (strAt l v).lLo, .int .i64 (strAt l v).lHi, .int .i64 (strAt l v).fLo, .int .i64 (strAt l v).fHi, .int .i64 (strAt l v).rLo, .int .i64 (strAt l v).rHi, .int .u8 (strAt l v).side, .int .i64 (strAt l v).wall] true, .cells [.int .i64 (htF (wiF (hd false s l) v) (strAt l v).rHi s.t1), .int .i64 (htF (wiF (hd true s l) v) (strAt l v).rLo s.t2)] true, .cells [.int .i64 (htF (wiF (hd false s l') v) (strAt l' v).rHi s.t1), .int .i64 (htF (wiF (hd true s l') v) (strAt l' v).rLo s.t2)] true]), hlt, N.app _⟩ (by dsimp only; omega) (.inl (by simp))
              · obtain rfl : v = l.length := by omega
                repeat (first|(with_reducible first|apply X1|apply X2|apply X3|apply X4|apply X8|apply Y1|apply Y4|apply Y6)|((with_reducible apply e_end);(simp;exact Red.rfl))|((with_reducible apply O1);rfl;(simp (disch:=omega);exact Red.rfl);exact Red.rfl;(focus (first|(simp;done)|omega|(simp;omega))))|((with_reducible apply W3);(simp (disch:=omega);exact Red.rfl)))
                exact q_stay (.inr rfl) (by simp; exact Red.rfl) rfl
end Go.Proofs
