/- Several texts as one. -/
import Derived.Test.YtfghjepmofkdaaaSA
/- Heads at all marks. -/
namespace Go.Proofs
open Go.Abs
attribute [local simp] AOp.den AOpd.ev lk cellsOf rd_new rd_new0 rd_zero rd_succ wr_new wr_new0 wr_zero wr_succ splice fillA binA scal sliceCells List.length_append argsT AV.sc scL AObj.sc resV getAll AR.get AOp.slots opdSlots opdsSlots partSlots eqAt at_new0 at_new set_new0 set_new wrap64
set_option linter.unusedSimpArgs false
set_option linter.unusedVariables false
theorem r2_put1 {f f' g : Nat → Int} {n i : Nat} (hi : i < n) (hne : ∀ j, j < n → j ≠ i → f' j = f j) : splice (avR (r2 f g) n) (i * 2) [.int .i64 (f' i)] = avR (r2 f' g) n :=
  (plain_r2 f g).put (plain_r2 f' g) (n := n) (i := i) (c := 0) (xs := [.int .i64 (f' i)]) hi (by simp) rfl (fun j h1 h2 => by simp only [r2, hne j h1 h2])
theorem r2_put2 {f g g' : Nat → Int} {n i : Nat} (hi : i < n) (hne : ∀ j, j < n → j ≠ i → g' j = g j) : splice (avR (r2 f g) n) (i * 2 + 1) [.int .i64 (g' i)] = avR (r2 f g') n :=
  (plain_r2 f g).put (plain_r2 f g') (n := n) (i := i) (c := 1) (xs := [.int .i64 (g' i)]) hi (by simp) rfl (fun j h1 h2 => by simp only [r2, hne j h1 h2])

theorem one_sled {s : Sl} {P : Sl → Prop} : (∀ i (hi : i < [s].length), P [s][i]) ↔ P s := by
  constructor
  · intro h; exact h 0 (by simp)
  · intro h i hi
    simp only [List.length_cons, List.length_nil] at hi
    obtain rfl : i = 0 := by omega
    exact h

/-- What is told of a track and of one sled, where both are valid. -/
theorem c_checkOne (H : Heap) (l : List Str) (id off : Nat) (ex : Bool) (s : Sl) (xid xoff : Nat) (xex : Bool) (hs : rd H id off (l.length * 9) = some (l.flatMap Str.av)) (hv : validL l) (hk : s.ok)
    (hx : rd H xid xoff 11 = some s.av) :
    ACalls Try.prog F.slide_checkAll [.agg [.slice id off l.length 9 ex], .slice xid xoff 1 11 xex] H (fun v h' => v = .int .i64 0 ∧ h' = H) := by
  refine (c_scheckAll H l id off ex [s] xid xoff xex hs (by have := hv.1; omega) (by simpa using hx) (by simp)).mono ?_
  rintro _ _ ⟨rfl, e, rfl, h⟩
  have h1 : ∀ i (hi : i < [s].length), ([s][i]).ok := one_sled.2 hk
  rcases h with ⟨rfl, _⟩ | ⟨_, h⟩ | ⟨_, _, h⟩ | ⟨_, _, _, h⟩
  · exact ⟨rfl, rfl⟩
  · exact absurd hv h
  · simp at h
  · exact absurd h1 h

def ChgL : Heap → Heap → Prop
  | [], [] => True
  | a :: xs, b :: ys => (b = a ∨ PlainO b) ∧ ChgL xs ys
  | _, _ => False
theorem chgL : ∀ {G G' : Heap}, ChgL G G' → G'.length = G.length ∧ ∀ (i : Nat) (o : AObj), G'[i]? = some o → G[i]? = some o ∨ PlainO o
  | [], [], _ => ⟨rfl, fun _ _ h => .inl h⟩
  | a :: xs, b :: ys, h => by
    obtain ⟨h1, h2⟩ := chgL h.2
    refine ⟨by simp [h1], fun i o hi => ?_⟩
    cases i with
    | zero => simp at hi; subst hi; rcases h.1 with rfl | h3
              · exact .inl rfl
              · exact .inr h3
    | succ i => simpa using h2 i o (by simpa using hi)
  | [], _ :: _, h => h.elim
  | _ :: _, [], h => h.elim
theorem chg_app (H : Heap) {G G' : Heap} (h : ChgL G G') : Changed (H ++ G) (H ++ G') := by
  obtain ⟨h1, h2⟩ := chgL h
  refine ⟨by simp [h1], fun j o hj => ?_⟩
  rcases Nat.lt_or_ge j H.length with h3 | h3
  · rw [List.getElem?_append_left h3] at hj ⊢; exact .inl hj
  · rw [List.getElem?_append_right h3] at hj ⊢; exact h2 _ _ hj

/-- Numbers that are told up to some. -/
def hS (h : Nat → Int) (i j : Nat) : Int := if j < i then h j else 0
theorem hS_ne (h : Nat → Int) {i j : Nat} (hj : j ≠ i) : hS h (i + 1) j = hS h i j := by
  unfold hS; by_cases h1 : j < i
  · rw [if_pos h1, if_pos (by omega)]
  · rw [if_neg h1, if_neg (by omega)]
theorem hS_at (h : Nat → Int) (i : Nat) : hS h (i + 1) i = h i := by simp [hS]
def tH1 (H : Heap) : List (Nat × AV) := [(4, .nilslice), (5, .int .i64 0), (7, .ptr (H.length + 3) 0), (8, .ptr (H.length + 5) 0), (31, .fn (.func F.slide_truth_heads_1) [] [.ptr (H.length + 6) 0])]
def hA1 : AC := .seq (.ops [⟨some 9, .mov (.t 32), none⟩] (some [8, 9, 33])) (.ops [⟨some 10, .mov (.t 33), none⟩] (some [8, 9, 10]))
def hB1 : AC := .block 1 (.ops [⟨some 34, .load1 (.t 8), none⟩, ⟨some 35, .mov (.t 9), none⟩, ⟨some 36, .mov (.t 10), none⟩, ⟨some 37, .idxSl (.t 34) (.t 35) 2, none⟩, ⟨some 38, .fieldAddr (.t 37) 0, none⟩, ⟨none, .store (.t 38) 1 (.t 36), none⟩] (some []))
def hL1 (H : Heap) : AObj := .other (.loop (tH1 H) [32, 33] hA1 hB1 .ready)
def hY1 (H : Heap) (o0 o1 o2 o3 o6 : AObj) (h : Nat → Int) (n i : Nat) : Heap := H ++ [o0, o1, o2, o3, .cells (avR (r2 (hS h i) (fun _ => 0)) (n + 1)) true, .cells [.slice (H.length + 4) 0 (n + 1) 2 true] true, o6, hL1 H]
theorem y_h1 (H : Heap) (o0 o1 o2 o3 o6 : AObj) (h : Nat → Int) (n i : Nat) (hi : i ≤ n) (hn : n < 1000000) :
    AYields Try.prog (H.length + 7) [.int .i64 i, .int .i64 (h i)] (hY1 H o0 o1 o2 o3 o6 h n i) (fun v h' => v = .bool true ∧ h' = hY1 H o0 o1 o2 o3 o6 h n (i + 1)) := by
  refine y_of (t := tH1 H) (ps := [32, 33]) (a := hA1) (b := hB1) (by simp only [hY1]; rw [at_new]; rfl) rfl fun hcl => ?_
  unfold hA1
  simp only [roundT, tH1, List.zip_cons_cons, List.zip_nil_left, List.foldl_cons, List.foldl_nil, List.zip_nil_right, hY1]
  repeat (first|(with_reducible first|apply X1|apply X2|apply X8)|((with_reducible apply e_end);(simp;exact Red.rfl))|((with_reducible apply O1);rfl;(simp (disch:=omega);exact Red.rfl);exact Red.rfl;(focus (first|(simp;done)|omega|(simp;omega)))))
  refine q_begin (tt := tH1 H) (by rw [at_new]; exact Red.rfl) (by rw [set_new]; exact Red.rfl) ?_
  unfold hB1
  have k1 : i < n + 1 := by omega
  have k2 : (i : Int) < (n : Int) + 1 := by omega
  have hl := (plain_r2 (hS h i) (fun _ => 0)).length (n + 1)
  have hp : splice (avR (r2 (hS h i) (fun _ => 0)) (n + 1)) (i * 2) [.int .i64 (h i)] = avR (r2 (hS h (i + 1)) (fun _ => 0)) (n + 1) := by
    have := r2_put1 (f := hS h i) (f' := hS h (i + 1)) (g := fun _ => 0) k1 (fun j _ hj => hS_ne h hj)
    rw [hS_at] at this; exact this
  have le1 : i * 2 + 1 ≤ (n + 1) * 2 := by omega
  repeat (first|(with_reducible first|apply X2|apply X6|apply Y2)|((with_reducible apply e_end);(simp;exact Red.rfl))|((first|((with_reducible apply O1);rfl)|((with_reducible apply O2);rfl));(simp (disch:=omega) [k1, k2, hl, -splice, hp, le1];exact Red.rfl);exact Red.rfl;(focus (first|(simp;done)|omega|(simp;omega)))))
  exact q_end (tt := tH1 H) (by rw [at_new]; exact Red.rfl) (by rw [set_new]; exact Red.rfl) (.inl rfl) ⟨rfl, rfl⟩

def tH2 (H : Heap) : List (Nat × AV) := [(4, .nilslice), (5, .int .i64 0), (8, .ptr (H.length + 5) 0), (41, .fn (.func F.slide_truth_heads_1) [] [.ptr (H.length + 8) 0])]
def hA2 : AC := .seq (.ops [⟨some 11, .mov (.t 42), none⟩] (some [8, 11, 43])) (.ops [⟨some 12, .mov (.t 43), none⟩] (some [8, 11, 12]))
def hB2 : AC := .block 3 (.ops [⟨some 44, .load1 (.t 8), none⟩, ⟨some 45, .mov (.t 11), none⟩, ⟨some 46, .mov (.t 12), none⟩, ⟨some 47, .idxSl (.t 44) (.t 45) 2, none⟩, ⟨some 48, .fieldAddr (.t 47) 1, none⟩, ⟨none, .store (.t 48) 1 (.t 46), none⟩] (some []))
def hL2 (H : Heap) : AObj := .other (.loop (tH2 H) [42, 43] hA2 hB2 .ready)
def hY2 (H : Heap) (o0 o1 o2 o3 o6 o8 : AObj) (f h : Nat → Int) (n i : Nat) : Heap := H ++ [o0, o1, o2, o3, .cells (avR (r2 f (hS h i)) (n + 1)) true, .cells [.slice (H.length + 4) 0 (n + 1) 2 true] true, o6, .dead, o8, hL2 H]
theorem y_h2 (H : Heap) (o0 o1 o2 o3 o6 o8 : AObj) (f h : Nat → Int) (n i : Nat) (hi : i ≤ n) (hn : n < 1000000) :
    AYields Try.prog (H.length + 9) [.int .i64 i, .int .i64 (h i)] (hY2 H o0 o1 o2 o3 o6 o8 f h n i) (fun v h' => v = .bool true ∧ h' = hY2 H o0 o1 o2 o3 o6 o8 f h n (i + 1)) := by
  refine y_of (t := tH2 H) (ps := [42, 43]) (a := hA2) (b := hB2) (by simp only [hY2]; rw [at_new]; rfl) rfl fun hcl => ?_
  unfold hA2
  simp only [roundT, tH2, List.zip_cons_cons, List.zip_nil_left, List.foldl_cons, List.foldl_nil, List.zip_nil_right, hY2]
  repeat (first|(with_reducible first|apply X1|apply X2|apply X8)|((with_reducible apply e_end);(simp;exact Red.rfl))|((with_reducible apply O1);rfl;(simp (disch:=omega);exact Red.rfl);exact Red.rfl;(focus (first|(simp;done)|omega|(simp;omega)))))
  refine q_begin (tt := tH2 H) (by rw [at_new]; exact Red.rfl) (by rw [set_new]; exact Red.rfl) ?_
  unfold hB2
  have k1 : i < n + 1 := by omega
  have k2 : (i : Int) < (n : Int) + 1 := by omega
  have hl := (plain_r2 f (hS h i)).length (n + 1)
  have hp : splice (avR (r2 f (hS h i)) (n + 1)) (i * 2 + 1) [.int .i64 (h i)] = avR (r2 f (hS h (i + 1))) (n + 1) := by
    have := r2_put2 (f := f) (g := hS h i) (g' := hS h (i + 1)) k1 (fun j _ hj => hS_ne h hj)
    rw [hS_at] at this; exact this
  have le1 : i * 2 + 1 + 1 ≤ (n + 1) * 2 := by omega
  repeat (first|(with_reducible first|apply X2|apply X6|apply Y2)|((with_reducible apply e_end);(simp;exact Red.rfl))|((first|((with_reducible apply O1);rfl)|((with_reducible apply O2);rfl));(simp (disch:=omega) [k1, k2, hl, -splice, hp, le1];exact Red.rfl);exact Red.rfl;(focus (first|(simp;done)|omega|(simp;omega)))))
  exact q_end (tt := tH2 H) (by rw [at_new]; exact Red.rfl) (by rw [set_new]; exact Red.rfl) (.inl rfl) ⟨rfl, rfl⟩

theorem c_sHeads (H : Heap) (l : List Str) (id off : Nat) (ex : Bool) (s : Sl) (hs : rd H id off (l.length * 9) = some (l.flatMap Str.av)) (hv : validL l) (hk : s.ok) :
    ACalls Try.prog F.slide_Heads [.agg [.slice id off l.length 9 ex], .agg s.av] H
      (fun v h' => v = .tuple [.slice H.length 0 (l.length + 1) 2 true, .int .i64 0] ∧ h' = H ++ [.cells (avR (r2 (hd false s l) (hd true s l)) (l.length + 1)) true]) := by
  have hid := rd_lt hs
  have h12 := hv.1
  have c1 := c_heads1 false (hY1 H (.cells [.slice id off l.length 9 ex] true) (.cells s.av true) (.cells s.av true) (.cells (s.av ++ [.slice id off l.length 9 ex]) true) (.cells (trv false s (.slice id off l.length 9 ex)) true) (hd false s l) l.length) (H.length + 7) (H.length + 6) s l id off ex hv hk
    (fun i _ => chg_app H ⟨.inl rfl, .inl rfl, .inl rfl, .inl rfl, .inr (((plain_r2 _ _).plain _).o _), .inl rfl, .inl rfl, .inl rfl, trivial⟩)
    (fun i hi => by simp only [hY1]; rw [at_new]; rfl) (fun i hi => by simp only [hY1]; rw [rd_old _ hid]; exact hs) (by simp [hY1]) (fun i hi => y_h1 _ _ _ _ _ _ _ _ i hi (by omega))
  have c2 := fun f => c_heads1 true (hY2 H (.cells [.slice id off l.length 9 ex] true) (.cells s.av true) (.cells s.av true) (.cells (s.av ++ [.slice id off l.length 9 ex]) true) (.cells (trv false s (.slice id off l.length 9 ex)) true) (.cells (trv true s (.slice id off l.length 9 ex)) true) f (hd true s l) l.length) (H.length + 9) (H.length + 8) s l id off ex hv hk
    (fun i _ => chg_app H ⟨.inl rfl, .inl rfl, .inl rfl, .inl rfl, .inr (((plain_r2 _ _).plain _).o _), .inl rfl, .inl rfl, .inl rfl, .inl rfl, .inl rfl, trivial⟩)
    (fun i hi => by simp only [hY2]; rw [at_new]; rfl) (fun i hi => by simp only [hY2]; rw [rd_old _ hid]; exact hs) (by simp [hY2]) (fun i hi => y_h2 _ _ _ _ _ _ _ _ _ _ i hi (by omega))
  have z0 : ∀ h : Nat → Int, hS h 0 = fun _ => 0 := fun h => by funext j; simp [hS]
  have ch := fun t H' sl => c_heads t H' s sl
  have cs := fun H' h => c_slowest H' s id off l.length ex h
  have cf := fun H' h => c_fastest H' s id off l.length ex h
  have ck := fun H' h1 xid h2 => c_checkOne H' l id off ex s xid 0 true h1 hv hk h2
  simp only [trv, Sl.av, List.cons_append, List.nil_append] at ch cs cf ck c1 c2 ⊢
  refine acalls_of ok_slide_Heads rfl fun hcl => ?_
  unfold ac_slide_Heads
  simp only [argsT, Nat.zero_add, Nat.reduceAdd]
  have hn1 : (l.length : Int) ≤ 12 := by omega
  repeat (first|(with_reducible first|apply X1|apply X2|apply X8)|((with_reducible apply e_end);(simp;exact Red.rfl))|((with_reducible apply O1);rfl;(simp (disch:=omega);exact Red.rfl);exact Red.rfl;(focus (first|(simp;done)|omega|(simp;omega)))))
  (with_reducible apply e_call); (simp; exact Red.rfl); exact ck _ (by rw [rd_old _ hid]; exact hs) _ (by simp)
  rintro _ _ ⟨rfl, rfl⟩
  repeat (first|(with_reducible first|apply X1|apply X2|apply X5|apply X8)|((with_reducible apply e_end);(simp;exact Red.rfl))|((first|((with_reducible apply O1);rfl)|((with_reducible apply O2);rfl));(simp (disch:=omega) [r2_rep];exact Red.rfl);exact Red.rfl;(focus (first|(simp;done)|omega|(simp;omega))))|((with_reducible apply W3);(simp (disch:=omega) [r2_rep];exact Red.rfl)))
  (with_reducible apply e_call); (simp; exact Red.rfl); exact cs _ (by simp; omega)
  rintro _ _ ⟨rfl, rfl⟩
  skip
  (with_reducible apply e_call); (simp; exact Red.rfl); exact ch _ _ _ (by simp; omega)
  rintro _ _ ⟨rfl, rfl⟩
  repeat (first|(with_reducible first|apply X6|apply X8)|((with_reducible apply e_end);(simp;exact Red.rfl)))
  refine e_range (R := fun _ h' => h' = hY1 H (.cells [.slice id off l.length 9 ex] true) (.cells s.av true) (.cells s.av true) (.cells (s.av ++ [.slice id off l.length 9 ex]) true) (.cells (trv false s (.slice id off l.length 9 ex)) true) (hd false s l) l.length (l.length + 1)) (by simp; exact Red.rfl) (by simp [tSc]) (by simp; exact Red.rfl) ?_ ?_
  · simp only [hY1, z0, hL1, tH1, hA1, hB1, trv, Sl.av, List.cons_append, List.nil_append] at c1 ⊢
    simpa using c1
  · rintro _ _ rfl
    simp only [hY1, hL1]
    refine range_end (tt := tH1 H) (ps := [32, 33]) (a := hA1) (b := hB1) (by simp [at_new]; exact Red.rfl) (by simp [set_new]; exact Red.rfl) ?_
    repeat (first|(with_reducible first|apply X1|apply X2|apply X8|apply Y2)|((with_reducible apply O1);rfl;(simp (disch:=omega) [Sl.av];exact Red.rfl);exact Red.rfl;(focus (first|(simp;done)|omega|(simp;omega)))))
    (with_reducible apply e_call); (simp; exact Red.rfl); exact cf _ (by simp; omega)
    rintro _ _ ⟨rfl, rfl⟩
    skip
    (with_reducible apply e_call); (simp; exact Red.rfl); exact ch _ _ _ (by simp; omega)
    rintro _ _ ⟨rfl, rfl⟩
    repeat (first|(with_reducible first|apply X6|apply X8)|((with_reducible apply e_end);(simp;exact Red.rfl)))
    refine e_range (R := fun _ h' => h' = hY2 H (.cells [.slice id off l.length 9 ex] true) (.cells s.av true) (.cells s.av true) (.cells (s.av ++ [.slice id off l.length 9 ex]) true) (.cells (trv false s (.slice id off l.length 9 ex)) true) (.cells (trv true s (.slice id off l.length 9 ex)) true) (hS (hd false s l) (l.length + 1)) (hd true s l) l.length (l.length + 1)) (by simp; exact Red.rfl) (by simp [tSc]) (by simp; exact Red.rfl) ?_ ?_
    · have c2' := c2 (hS (hd false s l) (l.length + 1))
      simp only [hY2, z0, hL2, tH2, hA2, hB2, trv, Sl.av, List.cons_append, List.nil_append] at c2' ⊢
      simpa using c2'
    · rintro _ _ rfl
      simp only [hY2, hL2]
      refine range_end (tt := tH2 H) (ps := [42, 43]) (a := hA2) (b := hB2) (by simp [at_new]; exact Red.rfl) (by simp [set_new]; exact Red.rfl) ?_
      repeat (first|(with_reducible first|apply X1|apply X2|apply X3|apply X8|apply Y2)|((with_reducible apply e_end);(simp;exact Red.rfl))|((with_reducible apply O1);rfl;(simp (disch:=omega);exact Red.rfl);exact Red.rfl;(focus (first|(simp;done)|omega|(simp;omega)))))
      have e1 : avR (r2 (hS (hd false s l) (l.length + 1)) (hS (hd true s l) (l.length + 1))) (l.length + 1) = avR (r2 (hd false s l) (hd true s l)) (l.length + 1) := avR_congr fun j hj => by simp only [r2, hS]; rw [if_pos hj, if_pos hj]
      rw [e1]
      exact q_post (v' := .tuple [.slice H.length 0 (l.length + 1) 2 true, .int .i64 0]) (.inr rfl) (by simp; exact Red.rfl) (le_plain [4] _ (by simp) rfl (by simp; exact ((plain_r2 _ _).plain _).o _) (by simp [sh, AV.ren, renL])) ⟨rfl, rfl⟩
end Go.Proofs
/- Speeds and heights. -/
namespace Go.Proofs
open Go.Abs
attribute [local simp] AOp.den AOpd.ev lk cellsOf rd_new rd_new0 rd_zero rd_succ wr_new wr_new0 wr_zero wr_succ splice fillA binA scal sliceCells List.length_append argsT AV.sc scL AObj.sc resV getAll AR.get AOp.slots opdSlots opdsSlots partSlots eqAt at_new0 at_new set_new0 set_new wrap64
set_option linter.unusedSimpArgs false
set_option linter.unusedVariables false
/-- The first number of which something is so. -/
theorem c_first (H : Heap) (g : FuncId) (caps : List AV) (a b : Int) (p : Int → Bool) (ha : 0 ≤ a) (hab : a ≤ b) (hb : b ≤ 4000000000000000000) (hcaps : scL H.length caps = true)
    (hp : ∀ m, a ≤ m → m < b → ACalls Try.prog g (.int .i64 m :: caps) H (fun v h' => v = .bool (p m) ∧ h' = H)) (hm : ∀ m, a ≤ m → m + 1 < b → p m = true → p (m + 1) = true) :
    ACalls Try.prog F.slide_first_int [.int .i64 a, .int .i64 b, .fn (.func g) [] caps] H (fun v h' => h' = H ∧ ∃ r, v = .int .i64 r ∧ a ≤ r ∧ r ≤ b ∧ (∀ m, a ≤ m → m < r → p m = false) ∧ (∀ m, r ≤ m → m < b → p m = true)) := by
  have up1 : ∀ (k : Nat) m, a ≤ m → m + k < b → p m = true → p (m + k) = true := by
    intro k
    induction k with
    | zero => intro m _ _ h; simpa using h
    | succ k ih =>
      intro m h1 h2 h3
      have := hm (m + k) (by omega) (by omega) (ih m h1 (by omega) h3)
      rw [show m + ((k + 1 : Nat) : Int) = m + k + 1 by omega]; exact this
  have up2 : ∀ m m', a ≤ m → m ≤ m' → m' < b → p m = true → p m' = true := by
    intro m m' h1 h2 h3 h4
    have := up1 (m' - m).toNat m h1 (by omega) h4
    rwa [show m + ((m' - m).toNat : Int) = m' by omega] at this
  refine acalls_of ok_slide_first_int rfl fun hcl => ?_
  unfold ac_slide_first_int
  simp only [argsT, Nat.zero_add, Nat.reduceAdd]
  repeat (first|(with_reducible first|apply X1|apply X2|apply X6|apply X8)|((with_reducible apply e_end);(simp;exact Red.rfl))|((with_reducible apply O1);rfl;(simp (disch:=omega);exact Red.rfl);exact Red.rfl;(focus (first|(simp;done)|omega|(simp;omega)))))
  refine e_loop (ι := { x : Int × Int // a ≤ x.1 ∧ x.1 ≤ x.2 ∧ x.2 ≤ b ∧ (∀ m, a ≤ m → m < x.1 → p m = false) ∧ (∀ m, x.2 ≤ m → m < b → p m = true) })
    (fun x => [(0, .int .i64 x.1.1), (1, .int .i64 x.1.2), (2, .fn (.func g) [] caps)]) (fun _ => H) (fun x => (x.1.2 - x.1.1).toNat) ⟨(a, b), by simp only; omega, hab, by simp, fun _ _ _ => by omega, fun _ _ _ => by omega⟩ ?_ ?_
  · exact .inl rfl
  · rintro ⟨⟨x, y⟩, h1, h2, h3, h4, h5⟩
    dsimp only at h1 h2 h3 h4 h5 ⊢
    repeat (first|(with_reducible first|apply X1|apply X2|apply X8)|((with_reducible apply e_end);(simp;exact Red.rfl))|((with_reducible apply O1);rfl;(simp (disch:=omega);exact Red.rfl);exact Red.rfl;(focus (first|(simp;done)|omega|(simp;omega)))))
    (with_reducible apply e_dec); (simp; exact Red.rfl)
    · intro hlt
      have ht : (y - x).tdiv 2 = (y - x) / 2 := Int.tdiv_eq_ediv_of_nonneg (by omega)
      repeat (first|(with_reducible first|apply X1|apply X2|apply X5|apply X6|apply X8)|((with_reducible apply e_end);(simp;exact Red.rfl))|((with_reducible apply O1);rfl;(simp (disch:=omega) [ht];exact Red.rfl);exact Red.rfl;(focus (first|(simp;done)|omega|(simp;omega)))))
      have hmid : x ≤ x + (y - x) / 2 ∧ x + (y - x) / 2 < y := by omega
      generalize x + (y - x) / 2 = m at hmid
      (with_reducible apply e_callV); (simp; exact Red.rfl); (simp; exact Red.rfl); exact hp m (by omega) (by omega)
      rintro _ _ ⟨rfl, rfl⟩
      cases hpm : p m with
      | true =>
        repeat (first|(with_reducible first|apply X2|apply X8|apply Y2)|((with_reducible apply e_end);(simp;exact Red.rfl))|((with_reducible apply O1);rfl;(simp (disch:=omega) [hpm];exact Red.rfl);exact Red.rfl;(focus (first|(simp;done)|omega|(simp;omega))))|((with_reducible apply Z9);(simp (disch:=omega) [hpm];exact Red.rfl)))
        exact q_again ⟨(x, m), h1, by simp only; omega, by simp only; omega, h4, fun m' h6 h7 => up2 m m' (by omega) h6 h7 hpm⟩ (by dsimp only; omega) (.inl rfl)
      | false =>
        repeat (first|(with_reducible first|apply X2|apply X8|apply Y2)|((with_reducible apply e_end);(simp;exact Red.rfl))|((with_reducible apply O1);rfl;(simp (disch:=omega) [hpm];exact Red.rfl);exact Red.rfl;(focus (first|(simp;done)|omega|(simp;omega))))|((with_reducible apply W3);(simp (disch:=omega) [hpm];exact Red.rfl)))
        refine q_again ⟨(m + 1, y), by simp only; omega, by simp only; omega, h3, fun m' h6 h7 => ?_, h5⟩ (by dsimp only; omega) (.inl rfl)
        simp only at h7
        cases hpm' : p m' with
        | false => rfl
        | true => have := up2 m' m h6 (by omega) (by omega) hpm'; rw [hpm] at this; cases this
    · intro hge
      repeat (first|(with_reducible first|apply X1|apply X2|apply X3|apply X4|apply X8|apply Y1|apply Y4|apply Y6)|((with_reducible apply e_end);(simp;exact Red.rfl))|((with_reducible apply O1);rfl;(simp (disch:=omega);exact Red.rfl);exact Red.rfl;(focus (first|(simp;done)|omega|(simp;omega)))))
      obtain rfl : x = y := by omega
      refine q_drop0 (.inr rfl) (by simp; exact Red.rfl) (by simp) ⟨rfl, x, rfl, h1, h3, h4, h5⟩

/-- The speed of a head, and the speed that is rounded up. -/
def IsDown (h v : Int) : Prop := 0 ≤ v ∧ 10 * (v * v) ≤ 1962 * h ∧ 1962 * h < 10 * ((v + 1) * (v + 1))
def IsUp (h v : Int) : Prop := 0 ≤ v ∧ 1962 * h ≤ 10 * (v * v) ∧ (v = 0 ∨ 10 * ((v - 1) * (v - 1)) < 1962 * h)
theorem sq_mono {a b : Int} (h : 0 ≤ a) (hab : a ≤ b) : a * a ≤ b * b := Int.mul_le_mul hab hab h (by omega)
theorem sq_ge {a : Int} (h : 0 ≤ a) : a ≤ a * a := by
  rcases Int.lt_or_le 0 a with h1 | h1
  · have := Int.mul_le_mul_of_nonneg_left (show (1 : Int) ≤ a by omega) h; omega
  · obtain rfl : a = 0 := by omega
    simp

theorem c_speedOf1 (H : Heap) (id : Nat) (m x : Int) (hx : 0 ≤ x ∧ x ≤ 300000) (hm : 0 ≤ m ∧ m ≤ 600000000) (hr : rd H id 0 1 = some [.int .i64 x]) :
    ACalls Try.prog F.slide_speedOf_1 [.int .i64 m, .ptr id 0] H (fun v h' => v = .bool (decide (1962 * x < 10 * (m * m))) ∧ h' = H) := by
  have p1 := sq_mono hm.1 hm.2
  have p0 : 0 ≤ m * m := Int.mul_nonneg hm.1 hm.1
  have e : decide (1962 * x < 10 * (m * m)) = decide (1962 * x < m * m * 10) := by rw [Int.mul_comm 10]
  rw [e]
  refine acalls_of ok_slide_speedOf_1 rfl fun hcl => ?_
  unfold ac_slide_speedOf_1
  simp only [argsT, Nat.zero_add, Nat.reduceAdd]
  repeat (first|(with_reducible first|apply X1|apply X2|apply X3|apply X8)|((with_reducible apply e_end);(simp;exact Red.rfl))|((with_reducible apply O1);rfl;(simp (disch:=omega) [hr];exact Red.rfl);exact Red.rfl;(focus (first|(simp;done)|omega|(simp;omega)))))
  refine q_drop0 (.inr rfl) (by simp; exact Red.rfl) (by simp) ⟨rfl, rfl⟩
theorem c_speedUp1 (H : Heap) (id : Nat) (m x : Int) (hx : 0 ≤ x ∧ x ≤ 300000) (hm : 0 ≤ m ∧ m ≤ 600000000) (hr : rd H id 0 1 = some [.int .i64 x]) :
    ACalls Try.prog F.slide_speedUp_1 [.int .i64 m, .ptr id 0] H (fun v h' => v = .bool (decide (1962 * x ≤ 10 * (m * m))) ∧ h' = H) := by
  have p1 := sq_mono hm.1 hm.2
  have p0 : 0 ≤ m * m := Int.mul_nonneg hm.1 hm.1
  have e : decide (1962 * x ≤ 10 * (m * m)) = decide (1962 * x ≤ m * m * 10) := by rw [Int.mul_comm 10]
  rw [e]
  refine acalls_of ok_slide_speedUp_1 rfl fun hcl => ?_
  unfold ac_slide_speedUp_1
  simp only [argsT, Nat.zero_add, Nat.reduceAdd]
  repeat (first|(with_reducible first|apply X1|apply X2|apply X3|apply X8)|((with_reducible apply e_end);(simp;exact Red.rfl))|((with_reducible apply O1);rfl;(simp (disch:=omega) [hr];exact Red.rfl);exact Red.rfl;(focus (first|(simp;done)|omega|(simp;omega)))))
  refine q_drop0 (.inr rfl) (by simp; exact Red.rfl) (by simp) ⟨rfl, rfl⟩

theorem c_speedOf (H : Heap) (x : Int) (hx : 0 ≤ x ∧ x ≤ 300000) : ACalls Try.prog F.slide_speedOf [.int .i64 x] H (fun v h' => h' = H ∧ ∃ r, v = .int .i64 r ∧ IsDown x r) := by
  have hmm : ∀ m, 0 ≤ m → m + 1 < 1962 * x + 1 → decide (1962 * x < 10 * (m * m)) = true → decide (1962 * x < 10 * ((m + 1) * (m + 1))) = true := by
    intro m h1 h2 h3
    have := sq_mono h1 (show m ≤ m + 1 by omega)
    simp only [decide_eq_true_eq] at h3 ⊢
    omega
  refine acalls_of ok_slide_speedOf rfl fun hcl => ?_
  unfold ac_slide_speedOf
  simp only [argsT, Nat.zero_add, Nat.reduceAdd]
  repeat (first|(with_reducible first|apply X1|apply X2|apply X8)|((with_reducible apply e_end);(simp;exact Red.rfl))|((with_reducible apply O1);rfl;(simp (disch:=omega);exact Red.rfl);exact Red.rfl;(focus (first|(simp;done)|omega|(simp;omega)))))
  (with_reducible apply e_call); (simp; exact Red.rfl); exact c_first _ F.slide_speedOf_1 [.ptr H.length 0] 0 (1962 * x + 1) (fun m => decide (1962 * x < 10 * (m * m))) (by omega) (by omega) (by omega) (by simp) (fun m h1 h2 => c_speedOf1 _ _ m x hx (by omega) (by simp)) hmm
  · rintro _ _ ⟨rfl, r, rfl, h1, h2, h3, h4⟩
    have hlast : 1962 * x < 10 * ((1962 * x + 1) * (1962 * x + 1)) := by have := sq_ge (a := 1962 * x + 1) (by omega); omega
    have hr0 : 1 ≤ r := by
      rcases Int.lt_or_le 0 r with h | h
      · omega
      · obtain rfl : r = 0 := by omega
        have := h4 0 (by omega) (by omega)
        simp only [decide_eq_true_eq] at this; omega
    repeat (first|(with_reducible first|apply X3|apply X8)|((with_reducible apply e_end);(simp;exact Red.rfl))|((with_reducible apply O1);rfl;(simp (disch:=omega);exact Red.rfl);exact Red.rfl;(focus (first|(simp;done)|omega|(simp;omega)))))
    refine q_drop (.inr rfl) (by simp; exact Red.rfl) (by simp) ⟨rfl, r - 1, rfl, by omega, ?_, ?_⟩
    · have := h3 (r - 1) (by omega) (by omega)
      simp only [decide_eq_false_iff_not] at this; omega
    · rw [show r - 1 + 1 = r by omega]
      rcases Int.lt_or_le r (1962 * x + 1) with h | h
      · have := h4 r (by omega) h
        simp only [decide_eq_true_eq] at this; exact this
      · obtain rfl : r = 1962 * x + 1 := by omega
        exact hlast

theorem c_speedUp (H : Heap) (x : Int) (hx : 0 ≤ x ∧ x ≤ 300000) : ACalls Try.prog F.slide_speedUp [.int .i64 x] H (fun v h' => h' = H ∧ ∃ r, v = .int .i64 r ∧ IsUp x r) := by
  have hmm : ∀ m, 0 ≤ m → m + 1 < 1962 * x → decide (1962 * x ≤ 10 * (m * m)) = true → decide (1962 * x ≤ 10 * ((m + 1) * (m + 1))) = true := by
    intro m h1 h2 h3
    have := sq_mono h1 (show m ≤ m + 1 by omega)
    simp only [decide_eq_true_eq] at h3 ⊢
    omega
  refine acalls_of ok_slide_speedUp rfl fun hcl => ?_
  unfold ac_slide_speedUp
  simp only [argsT, Nat.zero_add, Nat.reduceAdd]
  repeat (first|(with_reducible first|apply X1|apply X2|apply X8)|((with_reducible apply e_end);(simp;exact Red.rfl))|((with_reducible apply O1);rfl;(simp (disch:=omega);exact Red.rfl);exact Red.rfl;(focus (first|(simp;done)|omega|(simp;omega)))))
  (with_reducible apply e_call); (simp; exact Red.rfl); exact c_first _ F.slide_speedUp_1 [.ptr H.length 0] 0 (1962 * x) (fun m => decide (1962 * x ≤ 10 * (m * m))) (by omega) (by omega) (by omega) (by simp) (fun m h1 h2 => c_speedUp1 _ _ m x hx (by omega) (by simp)) hmm
  · rintro _ _ ⟨rfl, r, rfl, h1, h2, h3, h4⟩
    repeat (first|(with_reducible first|apply X3|apply X8)|((with_reducible apply e_end);(simp;exact Red.rfl))|((with_reducible apply O1);rfl;(simp (disch:=omega);exact Red.rfl);exact Red.rfl;(focus (first|(simp;done)|omega|(simp;omega)))))
    refine q_drop (.inr rfl) (by simp; exact Red.rfl) (by simp) ⟨rfl, r, rfl, by omega, ?_, ?_⟩
    · rcases Int.lt_or_le r (1962 * x) with h | h
      · have := h4 r (by omega) h
        simp only [decide_eq_true_eq] at this; exact this
      · obtain rfl : r = 1962 * x := by omega
        have := sq_ge (a := 1962 * x) (by omega); omega
    · rcases Int.lt_or_le 0 r with h | h
      · have := h3 (r - 1) (by omega) (by omega)
        simp only [decide_eq_false_iff_not] at this; exact .inr (by omega)
      · exact .inl (by omega)
end Go.Proofs
/- Heights, speeds and least times, told. -/
namespace Go.Proofs
open Go.Abs
attribute [local simp] AOp.den AOpd.ev lk cellsOf rd_new rd_new0 rd_zero rd_succ wr_new wr_new0 wr_zero wr_succ splice fillA binA scal sliceCells List.length_append argsT AV.sc scL AObj.sc resV getAll AR.get AOp.slots opdSlots opdsSlots partSlots eqAt at_new0 at_new set_new0 set_new wrap64
set_option linter.unusedSimpArgs false
set_option linter.unusedVariables false
theorem down_uniq {x a b : Int} (ha : IsDown x a) (hb : IsDown x b) : a = b := by
  obtain ⟨a0, a1, a2⟩ := ha
  obtain ⟨b0, b1, b2⟩ := hb
  rcases Int.lt_trichotomy a b with h | h | h
  · have := sq_mono (a := a + 1) (b := b) (by omega) (by omega); omega
  · exact h
  · have := sq_mono (a := b + 1) (b := a) (by omega) (by omega); omega
theorem up_uniq {x a b : Int} (ha : IsUp x a) (hb : IsUp x b) : a = b := by
  obtain ⟨a0, a1, a2⟩ := ha
  obtain ⟨b0, b1, b2⟩ := hb
  rcases Int.lt_trichotomy a b with h | h | h
  · have := sq_mono (a := a) (b := b - 1) (by omega) (by omega); omega
  · exact h
  · have := sq_mono (a := b) (b := a - 1) (by omega) (by omega); omega
theorem down_ex {x : Int} (hx : 0 ≤ x) : ∃ r, IsDown x r := by
  refine Classical.byContradiction fun hno => ?_
  have all : ∀ n : Nat, 10 * ((n : Int) * n) ≤ 1962 * x := by
    intro n
    induction n with
    | zero => simp; omega
    | succ n ih =>
      rcases Int.lt_or_le (1962 * x) (10 * ((n + 1 : Int) * (n + 1))) with h | h
      · exact absurd ⟨n, by omega, ih, h⟩ hno
      · simpa using h
  have := all (1962 * x + 1).toNat
  have h2 := sq_ge (a := 1962 * x + 1) (by omega)
  rw [Int.toNat_of_nonneg (by omega)] at this
  omega
theorem up_ex {x : Int} (hx : 0 ≤ x) : ∃ r, IsUp x r := by
  obtain ⟨r, h0, h1, h2⟩ := down_ex hx
  rcases Int.lt_or_le (10 * (r * r)) (1962 * x) with h | h
  · exact ⟨r + 1, by omega, by omega, .inr (by rw [show r + 1 - 1 = r by omega]; exact h)⟩
  · refine ⟨r, h0, h, ?_⟩
    rcases Int.lt_or_le 0 r with h3 | h3
    · right
      have e : r * r = (r - 1) * (r - 1) + 2 * r - 1 := by
        rw [Int.sub_mul, Int.mul_sub]; omega
      omega
    · left; omega
noncomputable def dnV (x : Int) : Int := if h : 0 ≤ x then Classical.choose (down_ex h) else 0
noncomputable def upV (x : Int) : Int := if h : 0 ≤ x then Classical.choose (up_ex h) else 0
theorem dnV_is {x : Int} (h : 0 ≤ x) : IsDown x (dnV x) := by
  unfold dnV; rw [dif_pos h]; exact Classical.choose_spec (down_ex h)
theorem upV_is {x : Int} (h : 0 ≤ x) : IsUp x (upV x) := by
  unfold upV; rw [dif_pos h]; exact Classical.choose_spec (up_ex h)
theorem c_speedOf' (H : Heap) (x : Int) (hx : 0 ≤ x ∧ x ≤ 300000) : ACalls Try.prog F.slide_speedOf [.int .i64 x] H (fun v h' => v = .int .i64 (dnV x) ∧ h' = H) :=
  (c_speedOf H x hx).mono fun _ _ ⟨h, r, hv, hr⟩ => ⟨by rw [hv, down_uniq hr (dnV_is hx.1)], h⟩
theorem c_speedUp' (H : Heap) (x : Int) (hx : 0 ≤ x ∧ x ≤ 300000) : ACalls Try.prog F.slide_speedUp [.int .i64 x] H (fun v h' => v = .int .i64 (upV x) ∧ h' = H) :=
  (c_speedUp H x hx).mono fun _ _ ⟨h, r, hv, hr⟩ => ⟨by rw [hv, up_uniq hr (upV_is hx.1)], h⟩

theorem curve_rad {l : List Str} (hv : validL l) {i : Nat} (hi : i < l.length) (hc : (strAt l i).side ≠ 0) : (strAt l i).rLo ≤ (strAt l i).rHi ∧ 500 ≤ (strAt l i).rLo ∧ (strAt l i).rHi ≤ 20000 := by
  have h := (str_ok hv hi).1
  simp only [sidedB, decide_eq_true_eq] at h
  omega
theorem wi_bd {l : List Str} {s : Sl} (hv : validL l) (hs : s.ok) (t : Bool) {i : Nat} (hi : i < l.length) : 0 ≤ wiF (hd t s l) i ∧ wiF (hd t s l) i ≤ 260000 := by
  have h1 := hd_bd hv hs t (i := i) (by omega)
  have h2 := hd_bd hv hs t (i := i + 1) (by omega)
  unfold wiF; omega

theorem c_Speed (H : Heap) (l : List Str) (id off : Nat) (ex : Bool) (s : Sl) (hs : rd H id off (l.length * 9) = some (l.flatMap Str.av)) (hv : validL l) (hk : s.ok) (i : Nat) (hi : i ≤ l.length) :
    ACalls Try.prog F.slide_Speed [.agg [.slice id off l.length 9 ex], .agg s.av, .int .i64 i] H (fun v h' => v = .tuple [.agg [.int .i64 (dnV (hd false s l i)), .int .i64 (upV (hd true s l i))], .int .i64 0] ∧ h' = H) := by
  have hid := rd_lt hs
  have h12 := hv.1
  have ch := fun H' h => c_sHeads H' l id off ex s h hv hk
  have b1 := hd_bd hv hk false hi
  have b2 := hd_bd hv hk true hi
  simp only [Sl.av] at ch ⊢
  refine acalls_of ok_slide_Speed rfl fun hcl => ?_
  unfold ac_slide_Speed
  simp only [argsT, Nat.zero_add, Nat.reduceAdd]
  repeat (first|(with_reducible first|apply X1|apply X2|apply X8)|((with_reducible apply e_end);(simp;exact Red.rfl))|((with_reducible apply O1);rfl;(simp (disch:=omega);exact Red.rfl);exact Red.rfl;(focus (first|(simp;done)|omega|(simp;omega)))))
  (with_reducible apply e_call); (simp; exact Red.rfl); exact ch _ (by rw [rd_old _ hid]; exact hs)
  rintro _ _ ⟨rfl, rfl⟩
  repeat (first|(with_reducible first|apply X1|apply X2|apply X5|apply X8)|((with_reducible apply e_end);(simp;exact Red.rfl))|((with_reducible apply O1);rfl;(simp (disch:=omega);exact Red.rfl);exact Red.rfl;(focus (first|(simp;done)|omega|(simp;omega))))|((with_reducible apply W3);(simp (disch:=omega);exact Red.rfl)))
  (with_reducible apply e_call); (simp; exact Red.rfl); exact c_upto _ _
  rintro _ _ ⟨rfl, rfl⟩
  repeat ((with_reducible apply O1);rfl;(simp (disch:=omega);exact Red.rfl);exact Red.rfl;(focus (first|(simp;done)|omega|(simp;omega))))
  have hi1 : (i : Int) ≤ l.length := by omega
  (with_reducible apply e_call); (simp; exact Red.rfl); exact c_within _ _ _ [(i : Int)] _ 0 true (by simp) (by simp)
  rintro _ _ ⟨rfl, rfl⟩
  have hi2 : i < l.length + 1 := by omega
  have hi3 : (i : Int) < (l.length : Int) + 1 := by omega
  have r1 := (plain_r2 (hd false s l) (hd true s l)).part (n := l.length + 1) (i := i) (c := 0) (m := 1) hi2 (by omega)
  have r2' := (plain_r2 (hd false s l) (hd true s l)).part (n := l.length + 1) (i := i) (c := 1) (m := 1) hi2 (by omega)
  simp only [r2, List.drop_zero, List.take_succ_cons, List.take_zero, List.drop_succ_cons, Nat.add_zero] at r1 r2'
  have hl := (plain_r2 (hd false s l) (hd true s l)).length (l.length + 1)
  have le1 : i * 2 + 1 ≤ (l.length + 1) * 2 := by omega
  have le2 : i * 2 + 1 + 1 ≤ (l.length + 1) * 2 := by omega
  repeat (first|(with_reducible first|apply X1|apply X5|apply X8|apply Y9)|((with_reducible apply e_end);(simp;exact Red.rfl))|((first|((with_reducible apply O1);rfl)|((with_reducible apply P1);rfl)|((with_reducible apply P2);rfl));(simp (disch:=omega) [hi1, hi2, hi3, r1, r2', hl, le1, le2];exact Red.rfl);exact Red.rfl;(focus (first|(simp;done)|omega|(simp;omega))))|((with_reducible apply W3);(simp (disch:=omega) [hi1, hi2, hi3, r1, r2', hl, le1, le2];exact Red.rfl)))
  (with_reducible apply d_call); (simp; exact Red.rfl); exact c_speedOf' _ _ (by omega); (focus (first | (simp; done) | (simp; omega)))
  repeat (first|((with_reducible apply P1);rfl;(simp (disch:=omega) [hi1, hi2, hi3, r1, r2', hl, le1, le2];exact Red.rfl);exact Red.rfl;(focus (first|(simp;done)|omega|(simp;omega))))|((with_reducible apply P6);rfl;(simp (disch:=omega) [hi1, hi2, hi3, r1, r2', hl, le1, le2];exact Red.rfl);exact Red.rfl;(focus (first|(simp [pr];done)|(simp [pr];omega)))))
  (with_reducible apply d_call); (simp; exact Red.rfl); exact c_speedUp' _ _ (by omega); (focus (first | (simp; done) | (simp; omega)))
  repeat (first|(with_reducible first|apply X3|apply X8)|((with_reducible apply d_end);(simp;exact Red.rfl))|((first|((with_reducible apply P1);rfl)|((with_reducible apply P4);rfl));(simp (disch:=omega);exact Red.rfl);exact Red.rfl;(focus (first|(simp;done)|omega|(simp;omega)))))
  refine q_drop (.inr rfl) (by simp; exact Red.rfl) (by simp) ⟨rfl, rfl⟩

end Go.Proofs
