/- Arguments, opened: lines. -/
import Derived.Test.YteinjjoonmdakaaLawKitB
import Derived.Test.YteinjjoonmdakaaBD
set_option linter.unusedSimpArgs false
set_option linter.unusedVariables false
namespace Go.Proofs
open Go.Abs
theorem avR_of {α : Type} (av : α → List AV) (d : α) (l : List α) : l.flatMap av = avR (fun j => av (l.getD j d)) l.length := by
  have e : (List.range l.length).map (fun j => l.getD j d) = l := by
    apply List.ext_getElem
    · simp
    · intro j h1 h2
      simp [List.getD_eq_getElem?_getD, List.getElem?_eq_getElem h2]
  have e2 : ((List.range l.length).map (fun j => l.getD j d)).flatMap av = (List.range l.length).flatMap (fun j => av (l.getD j d)) := by rw [List.flatMap_map]
  rw [e] at e2
  exact e2
theorem rowsSy : ∀ (h : Heap) (rows : List (List AV)), (∀ r ∈ rows, lookL h [.int .i64, .int .i64, .int .i64] r) →
    ∃ l : List Sy, rows.flatten = l.flatMap Sy.av ∧ l.length = rows.length
  | _, [], _ => ⟨[], rfl, rfl⟩
  | h, r :: rs, hr => by
    obtain ⟨l, h1, h2⟩ := rowsSy h rs (fun r' h' => hr r' (List.mem_cons_of_mem _ h'))
    have h3 := hr r (List.mem_cons_self ..)
    simp only [lookL, QK.look] at h3
    obtain ⟨_, _, rfl, ⟨a1, rfl, _⟩, _, _, rfl, ⟨a2, rfl, _⟩, _, _, rfl, ⟨a3, rfl, _⟩, rfl⟩ := h3
    exact ⟨⟨a1, a2, a3⟩ :: l, by simp [h1, Sy.av], by simp [h2]⟩
theorem rowsBm : ∀ (h : Heap) (rows : List (List AV)), (∀ r ∈ rows, lookL h [.int .i64, .int .i64, .int .i64, .int .i64] r) →
    ∃ l : List Bm, rows.flatten = l.flatMap Bm.av ∧ l.length = rows.length
  | _, [], _ => ⟨[], rfl, rfl⟩
  | h, r :: rs, hr => by
    obtain ⟨l, h1, h2⟩ := rowsBm h rs (fun r' h' => hr r' (List.mem_cons_of_mem _ h'))
    have h3 := hr r (List.mem_cons_self ..)
    simp only [lookL, QK.look] at h3
    obtain ⟨_, _, rfl, ⟨a1, rfl, _⟩, _, _, rfl, ⟨a2, rfl, _⟩, _, _, rfl, ⟨a3, rfl, _⟩, _, _, rfl, ⟨a4, rfl, _⟩, rfl⟩ := h3
    exact ⟨⟨a1, a2, a3, a4⟩ :: l, by simp [h1, Bm.av], by simp [h2]⟩
def Ck.row (c : Ck) : List AV := [.int .i64 c.dr, c.sv]
def Sy0 : Sy := ⟨0, 0, 0⟩
theorem rowsCk : ∀ (h : Heap) (rows : List (List AV)), (∀ r ∈ rows, lookL h [.int .i64, .sl [.int .i64, .int .i64, .int .i64]] r) →
    ∃ l : List Ck, rows.flatten = l.flatMap Ck.row ∧ l.length = rows.length ∧ ∀ c ∈ l, SyAt h c.sv c.sy c.m
  | _, [], _ => ⟨[], rfl, rfl, by simp⟩
  | h, r :: rs, hr => by
    obtain ⟨l, h1, h2, h4⟩ := rowsCk h rs (fun r' h' => hr r' (List.mem_cons_of_mem _ h'))
    have h3 := hr r (List.mem_cons_self ..)
    rw [lookL] at h3
    obtain ⟨_, _, rfl, h5, h3⟩ := h3
    rw [lookL] at h3
    obtain ⟨_, _, rfl, h6, h3⟩ := h3
    simp only [lookL] at h3
    subst h3
    simp only [QK.look] at h5
    obtain ⟨a1, rfl, _⟩ := h5
    rw [QK.look] at h6
    obtain ⟨id, rows, rfl, m, o, q⟩ := h6
    obtain ⟨us, f, n⟩ := rowsSy h rows q
    rw [f] at o
    have e := avR_of Sy.av Sy0 us
    have e3 : (us.flatMap Sy.av).length = rows.length * 3 := by rw [e, n]; exact avR_len (k := 3) (fun _ => rfl) _
    refine ⟨⟨a1, .slice id 0 rows.length 3 false, rows.length, fun j => us.getD j Sy0⟩ :: l, by simp [h1, Ck.row], by simp [h2], ?_⟩
    intro c hc
    rcases List.mem_cons.1 hc with rfl | hc
    · refine .inr ⟨id, 0, false, rfl, ?_⟩
      have := rd_of o
      rw [e3] at this
      rw [this, e, n]
      rfl
    · exact h4 c hc
theorem line_at {h : Heap} {r : List AV} (hl : lookL h [.sl [.int .i64, .int .i64, .int .i64, .int .i64, .int .i64, .int .i64, .int .i64, .int .u8, .int .i64], .int .i64, .sl [.int .i64, .sl [.int .i64, .int .i64, .int .i64]], .sl [.int .i64, .int .i64, .int .i64, .int .i64], .int .i64, .int .i64, .int .i64] r) :
    ∃ (x : Ln) (p : LP), r = x.av p ∧ LnRd h x p := by
  rw [lookL] at hl
  obtain ⟨_, _, rfl, hT, hl⟩ := hl
  rw [lookL] at hl
  obtain ⟨_, _, rfl, hF, hl⟩ := hl
  rw [lookL] at hl
  obtain ⟨_, _, rfl, hC, hl⟩ := hl
  rw [lookL] at hl
  obtain ⟨_, _, rfl, hB, hl⟩ := hl
  simp only [lookL, QK.look] at hl hF
  obtain ⟨_, _, rfl, ⟨y1, rfl, _⟩, _, _, rfl, ⟨y2, rfl, _⟩, _, _, rfl, ⟨y3, rfl, _⟩, rfl⟩ := hl
  obtain ⟨y0, rfl, _⟩ := hF
  rw [QK.look] at hT hC hB
  obtain ⟨ida, rowsa, rfl, ma, oa, ra⟩ := hT
  obtain ⟨idc, rowsc, rfl, mc, oc, rc⟩ := hC
  obtain ⟨idb, rowsb, rfl, mb, ob, rb⟩ := hB
  obtain ⟨la, fa, na, ea⟩ := rowsStr h rowsa ra
  obtain ⟨lc, fc, nc, sc⟩ := rowsCk h rowsc rc
  obtain ⟨lb, fb, nb⟩ := rowsBm h rowsb rb
  rw [fa] at oa
  rw [fc, avR_of Ck.row ⟨0, .nilslice, 0, fun _ => Sy0⟩ lc] at oc
  rw [fb, avR_of Bm.av ⟨0, 0, 0, 0⟩ lb] at ob
  have ga := rd_of oa
  rw [ea] at ga
  have gc := rd_of oc
  rw [avR_len (k := 2) (fun _ => rfl)] at gc
  have gb := rd_of ob
  rw [avR_len (k := 4) (fun _ => rfl)] at gb
  rw [← na, ← nc, ← nb]
  refine ⟨⟨la, y0, fun j => lc.getD j ⟨0, .nilslice, 0, fun _ => Sy0⟩, lc.length, fun j => lb.getD j ⟨0, 0, 0, 0⟩, lb.length, y1, y2, y3⟩, ⟨ida, 0, false, idc, 0, false, idb, 0, false⟩, rfl, ga, gc, fun i hi => ?_, gb⟩
  refine sc _ ?_
  dsimp only at hi ⊢
  rw [List.getD_eq_getElem?_getD, List.getElem?_eq_getElem hi, Option.getD_some]
  exact List.getElem_mem hi
end Go.Proofs
